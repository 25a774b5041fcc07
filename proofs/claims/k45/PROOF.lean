import PyProof.Rows.All
import Wide.All
import OpenK.AllK
import Wide.FinOn
import Lean
import PyProof.EqAt
import PyProof.EqKinds
import PyProof.TupleCall
import PyProof.StrLawsTight
import PyProof.Rows.StrJoin2
import PyProof.Rows.StrSplitJoin
import KE.KTab
import PyProof.ZipIter
import PyProof.Rows.TupIter
import PyProof.Rows.SortWalk
import PyProof.Rows.SortStr
import PyProof.ConsumeWalk
import KE.KRevSl
import KE.KTryMore
import PyProof.NsDelKeeps
import PyProof.NeKinds
import KE.KIntText
import KE.KDictLaws
import PyProof.DictIter
import PyProof.DictWalks
import PyProof.DictItems
import KE.KSortTup
import KE.KDictList
import PyProof.SetKind
import PyProof.SetRoads
import PyProof.Rows.SetFrom
import PyProof.CollectWalk
import PyProof.CollectIter
import PyProof.Rows.SortShell
import PyProof.Rows.MinMaxN
import PySem.Challenge.RW_marchmend_k45_fewest_covers
set_option Elab.async false
set_option linter.all false
set_option maxRecDepth 100000
set_option maxHeartbeats 8000000
namespace L2
open PySem PySem.Spec PyProof.Rows
abbrev Key:=Sum Int Str
def ydh:Key→Value→Bool
 | .inl k,v=>Value.isInt k v
 | .inr x,v=>Value.isStrOf x v
def keyH (w:World):Key→Int
 | .inl k=>hashInt k
 | .inr x=>hashStr w x
theorem qag:∀ {k:Key}{v:Value},ydh k v=true→(∃ i t,k=Sum.inl i∧v=Value.int i t)∨(∃ x t,k=Sum.inr x∧v=Value.str x t)
 | .inl i,v,h=>by
  obtain ⟨t,e⟩:=Value.isInt_shape (k:=i) (v:=v) h
  exact .inl ⟨i,t,rfl,e⟩
 | .inr x,v,h=>by
  obtain ⟨t,e⟩:=Value.isStrOf_shape (x:=x) (v:=v) h
  exact .inr ⟨x,t,rfl,e⟩
theorem ydu (i:Int) (t:Tok):ydh (.inl i) (.int i t)=true:=by simp[ydh,Value.isInt]
theorem yed (x:Str) (t:Tok):ydh (.inr x) (.str x t)=true:=by simp[ydh,Value.isStrOf]
theorem key_ll (a b:Int):decide ((Sum.inl a:Key)=Sum.inl b)=(a == b):=by
 by_cases e:a=b
 ·subst e;simp
 ·have h:¬ (Sum.inl a:Key)=Sum.inl b:=fun q=>e (Sum.inl.inj q)
  rw[decide_eq_false h]
  exact (beq_eq_false_iff_ne.mpr e).symm
theorem key_rr (a b:Str):decide ((Sum.inr a:Key)=Sum.inr b)=decide (a=b):=by
 by_cases e:a=b
 ·subst e;simp
 ·have h:¬ (Sum.inr a:Key)=Sum.inr b:=fun q=>e (Sum.inr.inj q)
  rw[decide_eq_false h,decide_eq_false e]
theorem key_lr (a:Int) (b:Str):decide ((Sum.inl a:Key)=Sum.inr b)=false:=decide_eq_false (fun q=>nomatch q)
theorem key_rl (a:Str) (b:Int):decide ((Sum.inr a:Key)=Sum.inl b)=false:=decide_eq_false (fun q=>nomatch q)
def qaj (prog:Program) (w:World):PySem.KeyKind prog w Key where
 is:=ydh
 hash:=keyH w
 inj:=fun v a b ha hb=>by
  rcases qag ha with ⟨i,t,rfl,rfl⟩|⟨x,t,rfl,rfl⟩
  ·rcases qag hb with ⟨j,u,rfl,e⟩|⟨y,u,rfl,e⟩
   ·injection e with e1 _;rw[e1]
   ·exact nomatch e
  ·rcases qag hb with ⟨j,u,rfl,e⟩|⟨y,u,rfl,e⟩
   ·exact nomatch e
   ·injection e with e1 _;rw[e1]
 byValue:=fun k v h=>by
  rcases qag h with ⟨i,t,rfl,rfl⟩|⟨x,t,rfl,rfl⟩<;>rfl
 pyHash:=fun hv h=>by
  rcases qag hv with ⟨i,t,rfl,rfl⟩|⟨x,t,rfl,rfl⟩
  ·exact wpAny_pyHash_int h
  ·exact wpAny_pyHash_str h
 eqBool:=fun hu hv h=>by
  rcases qag hu with ⟨i,t,rfl,rfl⟩|⟨x,t,rfl,rfl⟩
  ·rcases qag hv with ⟨j,u,rfl,rfl⟩|⟨y,u,rfl,rfl⟩
   ·rw[key_ll] at h;exact wpAny_eqBool_int h
   ·rw[key_lr] at h;exact SeqAt.EqAt.int_str i t y u _ _ _ _ h
  ·rcases qag hv with ⟨j,u,rfl,rfl⟩|⟨y,u,rfl,rfl⟩
   ·rw[key_rl] at h;exact SeqAt.EqAt.str_int x t j u _ _ _ _ h
   ·rw[key_rr] at h;exact wpAny_eqBool_str h
 «strs»:=fun k x t v h=>by
  rcases qag h with ⟨i,u,rfl,e⟩|⟨y,u,rfl,e⟩
  ·exact nomatch e
  ·injection e with e1 _
   subst e1
   cases v<;>rfl
theorem ycw (prog:Program) (w:World) (i:Int) (t:Tok):(qaj prog w).is (.inl i) (.int i t)=true:=ydu i t
theorem qc4 (prog:Program) (w:World) (x:Str) (t:Tok):(qaj prog w).is (.inr x) (.str x t)=true:=yed x t
end L2
namespace L2
open PySem PySem.Spec PyProof.Rows
inductive V where
 | non|bl (b:Bool)|int (i:Int)|str (x:Str)|byt (b:Array UInt8)|flt (b:UInt64)|ref (a:Addr)|ty (n:String)
 deriving DecidableEq
def RelV:V→Value→Prop
 | .non,u=>u=Value.none
 | .bl b,u=>u=Value.bool b
 | .int i,u=>∃ t,u=Value.int i t
 | .str x,u=>∃ t,u=Value.str x t
 | .byt b,u=>∃ t,u=Value.bytes b t
 | .flt b,u=>∃ t,u=Value.float b t
 | .ref a,u=>u=Value.ref a
 | .ty n,u=>u=Value.type n
abbrev Vals:List V→List Value→Prop:=Paired RelV
theorem Vals.length {xs:List V}{us:List Value} (r:Vals xs us):xs.length=us.length:=Paired.length r
theorem Vals.get:∀ {xs:List V}{us:List Value}{i:Nat}{x:V},Vals xs us→xs[i]?=some x→∃ u,us[i]?=some u∧RelV x u
 | _,_,_,_,.nil,e=>by simp at e
 | _,_,0,_,.cons r _,e=>by simp at e;subst e;exact ⟨_,rfl,r⟩
 | _,_,i+1,x,.cons _ t,e=>by
  obtain ⟨u,h1,h2⟩:=Vals.get (i:=i) (x:=x) t (by simpa using e)
  exact ⟨u,by simpa using h1,h2⟩
theorem Vals.append:∀ {xs ys:List V}{us ws:List Value},Vals xs us→Vals ys ws→Vals (xs++ys) (us++ws)
 | _,_,_,_,.nil,s=>s
 | _,_,_,_,.cons r t,s=>.cons r (Vals.append t s)
theorem Vals.take:∀ {xs:List V}{us:List Value} (n:Nat),Vals xs us→Vals (xs.take n) (us.take n)
 | _,_,0,_=>.nil
 | _,_,_+1,.nil=>.nil
 | _,_,n+1,.cons r t=>.cons r (Vals.take n t)
theorem Vals.drop:∀ {xs:List V}{us:List Value} (n:Nat),Vals xs us→Vals (xs.drop n) (us.drop n)
 | _,_,0,r=>r
 | _,_,_+1,.nil=>.nil
 | _,_,n+1,.cons _ t=>Vals.drop n t
def RelO:Option V→Option Value→Prop
 | some v,some u=>RelV v u
 | none,none=>True
 | _,_=>False
def KV {κ:Type}:List (κ×V)→List (κ×Value)→Prop:=Paired fun (p:κ×V) (q:κ×Value)=>p.1=q.1∧RelV p.2 q.2
def kV:Key→V
 | .inl i=>.int i
 | .inr x=>.str x
inductive HO where
 /-- a list -/
 | lst (xs:List V)
 /-- a tuple (never changes) -/
 | tup (xs:List V)
 /-- a dict whose keys are ints and texts;one whose keys are tuples of ints and texts (the empty one is both) -/
 | dK (kvs:List (Key×V))|dT (kvs:List (List Key×V))
 /-- a set of ints: its members,its size -/
 | set (S:Int→Bool) (n:Nat)
 /-- an instance of the class at C,its dict at dx,its attributes -/
 | ins (C dx:Addr) (fs:List (Str×V))
 /-- the dict of the instance at x -/
 | own (x:Addr)
 /-- the dict of an exception -/
 | xd (fs:List (Str×V))
 /-- a bound method,f of x -/
 | met (f x:Addr)
 /-- a range object lo,lo+1,.. below hi -/
 | rng (lo hi:Int)
 /-- a thing that is known to the object (the script;a dict while a loop walks it): read,never written while it is so -/
 | frz (o:Obj) (u:HO)
 /-- a code object's table -/
 | tbl (ps:Array Value)
 /-- any other thing,by what is true of its one object (a def of one's own: SetO a S n:=HO.ext fun h=>..) -/
 | ext (φ:Heap→Prop)
abbrev Hp:=Addr→Option HO
def upd (H:Hp) (a:Addr) (o:HO):Hp:=fun b=>if b=a then some o else H b
theorem yaa {H:Hp}{a:Addr}{o:HO}:upd H a o a=some o:=by unfold upd;rw[if_pos rfl]
theorem yab {H:Hp}{a b:Addr}{o:HO} (h:b≠a):upd H a o b=H b:=by unfold upd;rw[if_neg h]
theorem ya2 {H:Hp}{a b:Addr}{o u:HO} (h:H a=some o) (h':H b=some u) (d:o≠u):a≠b:=by
 intro e;subst e;rw[h] at h';exact d (Option.some.inj h')
theorem qaa {H:Hp}{a b:Addr}{o:HO} (h:H a=some o) (h':H b=none):a≠b:=by
 intro e;subst e;rw[h] at h';cases h'
section
variable (P:Program) (w:World)
def yak (H:Hp) (h:Heap) (a:Addr):HO→Prop
 | .lst xs=>xs.length≤sizeLine∧∃ (its:List Value) (n:Nat),Vals xs its∧h.get? a=some { cls:=.type "list",data:=.seq its.toArray n }
 | .tup xs=>xs.length≤sizeLine∧∃ its:List Value,Vals xs its∧IsTup h a its.toArray
 | .dK kvs=>kvs.length≤sizeLine∧(a == sysModules)=false∧∃ vs,KV kvs vs∧h.DictOf (qaj P w) a vs
 | .dT kvs=>kvs.length≤sizeLine∧(a == sysModules)=false∧∃ xs:List (List Key×Addr×Value),
   Paired (fun (p:List Key×V) (q:List Key×Addr×Value)=>p.1=q.1∧H q.2.1=some (.tup (p.1.map kV))∧RelV p.2 q.2.2) kvs xs∧
   ∃ o es ep,h.get? a=some o∧o.ExactDict∧o.data=.dict es ep∧es.toList=xs.map (entryOfKey (tupleKind (qaj P w)))∧(xs.map (·.1)).Nodup
 | .set S n=>h.SetOf (intKind P w) a S n
 | .ins C dx fs=>H dx=some (.own a)∧fs.length≤1000∧dx≠a∧h.get? a=some (PySem.W.instObj C dx)∧
   ∃ mA,h.Ns1 dx mA∧(∀ f,RelO (fs.lookup f) (mA f))∧PySem.Within mA (fs.map (·.1))
 | .own _=>∃ o,h.get? a=some o
 | .xd fs=>∃ mA,h.Ns1 a mA∧∀ f,RelO (fs.lookup f) (mA f)
 | .rng lo hi=>∃ t u v,h.get? a=some { cls:=.type "range",data:=.fields #[.int lo t,.int hi u,.int 1 v] }
 | .frz o u=>h.get? a=some o∧yak H h a u
 | .tbl ps=>h.get? a=some { cls:=.none,data:=.fields ps }
 | .met f x=>h.get? a=some (PySem.W.methodObj (.ref f) (.ref x))
 | .ext φ=>φ h∧(∃ o,h.get? a=some o)∧∀ h1 h2:Heap,φ h1→(∀ o,h1.get? a=some o→h2.get? a=some o)→φ h2
def HOk (H:Hp) (h:Heap):Prop:=∀ a o,H a=some o→yak P w H h a o
end
section
variable {P:Program}{w:World}{H H':Hp}{h h':Heap}{a:Addr}{o:HO}
theorem yak.lt (x:yak P w H h a o):a<h.objs.size:=by
 cases o with
 | lst xs=>obtain ⟨_,_,_,_,e⟩:=x;exact Heap.lt_size e
 | tup xs=>obtain ⟨_,_,_,p⟩:=x;exact p.lt
 | dK kvs=>obtain ⟨_,_,_,_,o,_,_,e,_⟩:=x;exact Heap.lt_size e
 | dT kvs=>obtain ⟨_,_,_,_,o,_,_,e,_⟩:=x;exact Heap.lt_size e
 | set S n=>obtain ⟨o,_,_,_,e,_⟩:=x;exact Heap.lt_size e
 | ins C dx fs=>obtain ⟨_,_,_,e,_⟩:=x;exact Heap.lt_size e
 | own y=>obtain ⟨_,e⟩:=x;exact Heap.lt_size e
 | xd fs=>obtain ⟨_,⟨_,_,_,e,_⟩,_⟩:=x;exact Heap.lt_size e
 | rng lo hi=>obtain ⟨_,_,_,e⟩:=x;exact Heap.lt_size e
 | frz ob u=>obtain ⟨e,_⟩:=x;exact Heap.lt_size e
 | tbl ps=>exact Heap.lt_size (show h.get? a=some _ from x)
 | met f y=>exact Heap.lt_size (show h.get? a=some _ from x)
 | ext φ=>obtain ⟨_,⟨_,e⟩,_⟩:=x;exact Heap.lt_size e
theorem Paired.mapP {α β:Type}{F G:α→β→Prop}:∀ {l₁:List α}{l₂:List β},Paired F l₁ l₂→(∀ a b,F a b→G a b)→Paired G l₁ l₂
 | _,_,.nil,_=>.nil
 | _,_,.cons r t,f=>.cons (f _ _ r) (Paired.mapP t f)
theorem yak.stay (x:yak P w H h a o) (k:∀ b u,(b=a∨H b=some (.own a))→h.get? b=some u→h'.get? b=some u)
  (ho:∀ b,H b=some (.own a)→H' b=some (.own a)) (ht:∀ b xs,H b=some (.tup xs)→H' b=some (.tup xs)):yak P w H' h' a o:=by
 induction o with
 | lst xs=>obtain ⟨z,its,n,r,e⟩:=x;exact ⟨z,its,n,r,k _ _ (.inl rfl) e⟩
 | tup xs=>obtain ⟨z,its,r,ob,e,c⟩:=x;exact ⟨z,its,r,ob,k _ _ (.inl rfl) e,c⟩
 | dK kvs=>obtain ⟨z,y,vs,r,ob,es,ep,e,c⟩:=x;exact ⟨z,y,vs,r,ob,es,ep,k _ _ (.inl rfl) e,c⟩
 | dT kvs=>
  obtain ⟨z,y,xs,r,ob,es,ep,e,c⟩:=x
  exact ⟨z,y,xs,Paired.mapP r fun p q z=>⟨z.1,ht _ _ z.2.1,z.2.2⟩,ob,es,ep,k _ _ (.inl rfl) e,c⟩
 | set S n=>obtain ⟨ob,es,ep,t,e,c⟩:=x;exact ⟨ob,es,ep,t,k _ _ (.inl rfl) e,c⟩
 | ins C dx fs=>
  obtain ⟨d,z,ne,e,mA,⟨od,es,ep,e2,c⟩,r⟩:=x
  exact ⟨ho _ d,z,ne,k _ _ (.inl rfl) e,mA,⟨od,es,ep,k _ _ (.inr d) e2,c⟩,r⟩
 | own y=>obtain ⟨ob,e⟩:=x;exact ⟨ob,k _ _ (.inl rfl) e⟩
 | xd fs=>obtain ⟨mA,⟨od,es,ep,e,c⟩,r⟩:=x;exact ⟨mA,⟨od,es,ep,k _ _ (.inl rfl) e,c⟩,r⟩
 | rng lo hi=>obtain ⟨t,u,v,e⟩:=x;exact ⟨t,u,v,k _ _ (.inl rfl) e⟩
 | frz ob u ih=>obtain ⟨e,q⟩:=x;exact ⟨k _ _ (.inl rfl) e,ih q⟩
 | tbl ps=>
  have e:h.get? a=some { cls:=.none,data:=.fields ps }:=x
  show h'.get? a=some { cls:=.none,data:=.fields ps }
  exact k a _ (.inl rfl) e
 | met f y=>
  have e:h.get? a=some (PySem.W.methodObj (.ref f) (.ref y)):=x
  show h'.get? a=some (PySem.W.methodObj (.ref f) (.ref y))
  exact k a _ (.inl rfl) e
 | ext φ=>obtain ⟨p,⟨o,e⟩,st⟩:=x;exact ⟨st _ _ p fun o q=>k _ _ (.inl rfl) q,⟨o,k _ _ (.inl rfl) e⟩,st⟩
theorem HOk.lt (x:HOk P w H h) (e:H a=some o):a<h.objs.size:=(x a o e).lt
theorem HOk.fresh (x:HOk P w H h) (e:h.objs.size≤a):H a=none:=by
 cases q:H a with
 | none=>rfl
 | some u=>exact absurd (Nat.lt_of_lt_of_le (x.lt q) e) (Nat.lt_irrefl _)
theorem HOk.kept (x:HOk P w H h) (k:∀ b u,h.get? b=some u→h'.get? b=some u):HOk P w H h':=fun a o e=>
 (x a o e).stay (fun b u _ q=>k b u q) (fun _ q=>q) fun _ _ q=>q
theorem HOk.laid (x:HOk P w H h) (k:∀ b u,h.get? b=some u→h'.get? b=some u) (hp:h.objs.size≤a) (new:yak P w (upd H a o) h' a o):HOk P w (upd H a o) h':=fun b u e=>by
 have hn:=x.fresh hp
 by_cases hb:b=a
 ·subst hb;rw[yaa] at e;cases e;exact new
 ·rw[yab hb] at e
  exact (x b u e).stay (fun c v _ q=>k c v q) (fun c q=>by rw[yab (qaa q hn)];exact q) fun c xs q=>by rw[yab (qaa q hn)];exact q
end
def Rd (H:Hp) (a:Addr) (u:HO):Prop:=H a=some u∨∃ o,H a=some (.frz o u)
theorem Rd.ok {P:Program}{w:World}{H:Hp}{h:Heap}{a:Addr}{u:HO} (r:Rd H a u) (x:HOk P w H h):yak P w H h a u:=by
 rcases r with r|⟨o,r⟩
 ·exact x a u r
 ·obtain ⟨_,q⟩:=x a _ r
  exact q
def Mut:Option HO→Prop
 | some (.lst _)=>True
 | some (.dK _)=>True
 | some (.dT _)=>True
 | some (.set _ _)=>True
 | some (.ins _ _ _)=>True
 | some (.ext _)=>True
 | _=>False
section
variable {P:Program}{w:World}{H:Hp}{h h':Heap}{x e:Addr}{o':HO}
theorem HOk.write (ok:HOk P w H h) (mu:Mut (H x)) (he:e=x∨H e=some (.own x)) (k:∀ b u,b≠e→h.get? b=some u→h'.get? b=some u) (heo:∃ u,h'.get? e=some u)
  (new:yak P w (upd H x o') h' x o'):HOk P w (upd H x o') h':=fun b u q=>by
 have nown:∀ c y,H c=some (.own y)→c≠x:=fun c y r z=>by subst z;rw[r] at mu;exact mu
 have ntup:∀ c xs,H c=some (.tup xs)→c≠x:=fun c xs r z=>by subst z;rw[r] at mu;exact mu
 by_cases hb:b=x
 ·subst hb;rw[yaa] at q;cases q;exact new
 ·rw[yab hb] at q
  by_cases hbe:b=e
  ·have q':H b=some (.own x):=by
    rcases he with z|z
    ·exact absurd (hbe.trans z) hb
    ·rw[hbe];exact z
   rw[q] at q';cases q'
   obtain ⟨v,hv⟩:=heo
   exact ⟨v,by rw[hbe];exact hv⟩
  ·refine (ok b u q).stay (fun c v hc r=>k c v ?_ r) (fun c r=>by rw[yab (nown c b r)];exact r) fun c xs r=>by rw[yab (ntup c xs r)];exact r
   rcases hc with rfl|hc
   ·exact hbe
   ·rintro rfl
    rcases he with z|z
    ·exact nown c b hc z
    ·rw[hc] at z;cases z;exact hb rfl
end
structure Un (fs ex:List Addr) (H H':Hp) (h h':Heap):Prop where
 keep:∀ b o,h.get? b=some o→H b=none→b∉fs→b∉ex→h'.get? b=some o
 slot:∀ b o,h.get? b=some o→H b=none→b∈fs→b∉ex→∃ sl,h'.get? b=some { o with slots:=sl }
 free:∀ b o,h.get? b=some o→H b=none→b∉ex→H' b=none
 there:∀ b o,h.get? b=some o→b∉ex→∃ o',h'.get? b=some o'
 tups:∀ b xs,H b=some (.tup xs)→H' b=some (.tup xs)
 frzs:∀ b o u,H b=some (.frz o u)→H' b=some (.frz o u)
 tbls:∀ b ps,H b=some (.tbl ps)→∃ more,H' b=some (.tbl (ps++more))
section
variable {fs fs' ex ex':List Addr}{H H1 H2:Hp}{h h1 h2 h':Heap}{a x e:Addr}{o:HO}
theorem Un.any (u:Un fs ex H H1 h h1) {b:Addr}{ob:Obj} (q:h.get? b=some ob) (n:H b=none) (hx:b∉ex):∃ sl,h1.get? b=some { ob with slots:=sl }:=by
 by_cases hb:b∈fs
 ·exact u.slot b ob q n hb hx
 ·exact ⟨ob.slots,u.keep b ob q n hb hx⟩
theorem Un.kept (k:∀ b u,h.get? b=some u→h'.get? b=some u):Un fs ex H H h h':=
 ⟨fun b ob q _ _ _=>k b ob q,fun b ob q _ _ _=>⟨ob.slots,k b ob q⟩,fun _ _ _ n _=>n,fun b ob q _=>⟨ob,k b ob q⟩,fun _ _ q=>q,fun _ _ _ q=>q,fun _ ps q=>⟨#[],by rw[q];simp⟩⟩
theorem Un.refl:Un fs ex H H h h:=Un.kept fun _ _ q=>q
theorem Un.laid (k:∀ b u,h.get? b=some u→h'.get? b=some u) (hp:h.objs.size≤a) (hn:H a=none):Un fs ex H (upd H a o) h h' where
 keep:=fun b u q _ _ _=>k b u q
 slot:=fun b u q _ _ _=>⟨u.slots,k b u q⟩
 free:=fun b u q n _=>by rw[yab (Nat.ne_of_lt (Nat.lt_of_lt_of_le (Heap.lt_size q) hp))];exact n
 there:=fun b u q _=>⟨u,k b u q⟩
 tups:=fun b xs q=>by rw[yab (qaa q hn)];exact q
 frzs:=fun b u xs q=>by rw[yab (qaa q hn)];exact q
 tbls:=fun b ps q=>⟨#[],by rw[yab (qaa q hn),q];simp⟩
theorem Un.write (mu:Mut (H x)) (he:e=x∨H e=some (.own x)) (k:∀ b u,b≠e→h.get? b=some u→h'.get? b=some u) (heo:∃ u,h'.get? e=some u):Un fs ex H (upd H x o) h h':=by
 have hx:∀ b,H b=none→b≠x:=fun b n z=>by subst z;rw[n] at mu;exact mu
 have hb:∀ b,H b=none→b≠e:=fun b n z=>by
  subst z
  rcases he with r|r
  ·exact hx b n r
  ·rw[n] at r;cases r
 have hm:∀ b u,H b=some u→¬ Mut (some u)→b≠x:=fun b u q nm z=>by subst z;rw[q] at mu;exact nm mu
 refine ⟨fun b u q n _ _=>k b u (hb b n) q,fun b u q n _ _=>⟨u.slots,k b u (hb b n) q⟩,fun b u q n _=>by rw[yab (hx b n)];exact n,fun b u q _=>?_,
  fun b xs q=>by rw[yab (hm b _ q fun z=>z)];exact q,fun b u xs q=>by rw[yab (hm b _ q fun z=>z)];exact q,fun b ps q=>⟨#[],by rw[yab (hm b _ q fun z=>z),q];simp⟩⟩
 by_cases hbe:b=e
 ·subst hbe;exact heo
 ·exact ⟨u,k b u hbe q⟩
end
def trk (h:Heap) (H:Hp):List Addr:=(List.range h.objs.size).filter fun a=>(H a).isSome
def hidT (h:Heap) (H:Hp):Heap:=PySem.W.hideAll h (trk h H)
theorem qdq (h:Heap) (H:Hp):(hidT h H).objs.size=h.objs.size:=PySem.W.hideAll_size _ _
theorem hidT_get {h:Heap}{H:Hp}{b:Addr}{o:Obj} (e:h.get? b=some o) (n:H b=none):(hidT h H).get? b=some o:=
 PySem.W.hideAll_get _ e fun hm=>by
  have q:(H b).isSome=true:=(List.mem_filter.mp hm).2
  rw[n] at q;simp at q
theorem of_hidT {h:Heap}{H:Hp}{b:Addr}{o:Obj} (e:(hidT h H).get? b=some o):h.get? b=some o∧H b=none:=by
 have e':h.get? b=some o:=PySem.W.of_hideAll (trk h H) e
 refine ⟨e',?_⟩
 cases q:H b with
 | none=>rfl
 | some x=>
  have hm:b∈trk h H:=List.mem_filter.mpr ⟨List.mem_range.mpr (Heap.lt_size e'),by simp[q]⟩
  have z:(hidT h H).get? b=none:=PySem.W.hideAll_none (trk h H) hm
  rw[z] at e;cases e
structure Mod (K:PySem.W.Frag) (mg:Str→Option Value) (base:Heap):Prop where
 kin:K.In base
 glob:base.Ns mainGlobals mg
 blt:∃ mb,base.Ns builtinsNs mb∧∀ x:Str,x≠"__name__"→mb x=bootBuiltins x
 nolimit:base.NoLimit
structure Cx where
 prog:Program
 w:World
 K:PySem.W.Frag
 mg:Str→Option Value
 base:Heap
 A:Around
 N:List Str
 s₀:Shared
 H₀:Hp
 env:Env
 outer:List Env
 stack:List Env
 ex:List Addr
 fn:Str→Bool
 calm:Bool
 pn:List (Addr×Obj)
 xe:Value→Shared→Prop
def frs (l:List Env):List Addr:=l.filterMap (·.frame)
abbrev Cx.fs (X:Cx):List Addr:=frs X.outer
def Vis (sc:Scope) (x:Str):Prop:=sc.names.lookup x=some .local∨sc.names.lookup x=some .cell∨sc.names.lookup x=some .free
def Loc (sc:Scope) (x:Str):Prop:=sc.names.lookup x=some .local∨sc.names.lookup x=some .cell
def Look (env:Env) (h:Heap) (m:Str→Option Value) (x:Str) (u:Value):Prop:=
 (env.kindOf x=some .local∧m x=some u)∨((env.kindOf x=some .cell∨env.kindOf x=some .free)∧∃ c,env.cells.lookup x=some c∧h.IsCell c (some u))
structure Cx.Ok (X:Cx):Prop where
 mod:Mod X.K X.mg X.base
 kind:X.env.scope.kind=.function
 glob:X.env.globals=mainGlobals
 blt:X.env.builtins=builtinsNs
 above:X.s₀.heap.objs.size≤X.env.locals
 inj:∀ x y c,X.env.cells.lookup x=some c→X.env.cells.lookup y=some c→x=y
 has:∀ x,(X.env.kindOf x=some .cell∨X.env.kindOf x=some .free)→∃ c,X.env.cells.lookup x=some c
 cab:∀ x c,X.fn x=true→X.env.cells.lookup x=some c→X.s₀.heap.objs.size≤c
 hd:X.calm=true→X.A.handled=none
 frames:X.A.frames=some X.stack
 stk:X.stack=X.outer∨(X.stack=X.env::X.outer∧X.env.frame=some X.env.locals)
 exf:∀ b∈X.ex,b≠X.env.locals∧∀ x c,X.env.cells.lookup x=some c→c≠b
 bs:∀ b o,X.base.get? b=some o→X.s₀.heap.get? b=some o∧X.H₀ b=none
 bsz:X.base.objs.size≤X.s₀.heap.objs.size
 noex:∀ b o,X.base.get? b=some o→b∉X.ex
 exfs:∀ b∈X.ex,b∉X.fs
 funs:X.s₀.heap.FunFrames X.base X.outer
 frf:∀ b∈X.fs,X.H₀ b=none
structure Inv (X:Cx) (pins:List (Addr×Obj)) (σ:List (Option V)) (H:Hp) (s:Shared):Prop where
 ok:X.Ok
 os:s.os=X.s₀.os
 bare:AllBare s.gens
 base:Un X.fs X.ex X.H₀ H X.s₀.heap s.heap
 loc:∃ m,s.heap.Ns X.env.locals m∧∀ (i:Nat) (x:Str) (v:V),X.N[i]?=some x→σ[i]?=some (some v)→Vis X.env.scope x→∃ u,RelV v u∧Look X.env s.heap m x u
 cell:∀ x c,X.env.cells.lookup x=some c→∃ v,s.heap.IsCell c v
 free:H X.env.locals=none
 freeC:∀ x c,X.env.cells.lookup x=some c→H c=none
 pin:∀ p∈X.pn++pins,s.heap.get? p.1=some p.2∧H p.1=none∧p.1≠X.env.locals∧p.1∉X.fs∧∀ v,p.2.data≠.cell v
 hok:HOk X.prog X.w H s.heap
 len:σ.length=X.N.length
section
variable {X:Cx}{pins:List (Addr×Obj)}{σ:List (Option V)}{H H':Hp}{s:Shared}{h':Heap}
theorem Cx.Ok.nofr (ok:X.Ok) {b:Addr}{o:Obj} (e:X.base.get? b=some o):b∉X.fs:=fun hb=>by
 have:=(ok.funs.mem hb).1
 rw[e] at this;cases this
theorem Inv.bs (I:Inv X pins σ H s):∀ b o,X.base.get? b=some o→s.heap.get? b=some o∧H b=none:=fun b o e=>
 ⟨I.base.keep b o (I.ok.bs b o e).1 (I.ok.bs b o e).2 (I.ok.nofr e) (I.ok.noex b o e),I.base.free b o (I.ok.bs b o e).1 (I.ok.bs b o e).2 (I.ok.noex b o e)⟩
theorem Inv.bk (I:Inv X pins σ H s):∀ b o,X.base.get? b=some o→s.heap.get? b=some o:=fun b o e=>(I.bs b o e).1
theorem Inv.mod (I:Inv X pins σ H s):Mod X.K X.mg X.base:=I.ok.mod
theorem Inv.kIn (I:Inv X pins σ H s):X.K.In s.heap:=I.ok.mod.kin.keeps I.bk
theorem Inv.lt (I:Inv X pins σ H s):X.env.locals<s.heap.objs.size:=let ⟨_,hn,_⟩:=I.loc;hn.lt
theorem Inv.sz (I:Inv X pins σ H s):X.s₀.heap.objs.size≤s.heap.objs.size:=Nat.le_trans I.ok.above (Nat.le_of_lt I.lt)
theorem Inv.nofs (I:Inv X pins σ H s) {a:Addr} (h:s.heap.objs.size≤a):a∉X.fs:=fun hb=>by
 obtain ⟨_,o,ho,_⟩:=I.ok.funs.mem hb
 exact absurd (Nat.lt_of_lt_of_le (Heap.lt_size ho) (Nat.le_trans I.sz h)) (Nat.lt_irrefl _)
theorem Inv.cne (I:Inv X pins σ H s):∀ x c,X.env.cells.lookup x=some c→c≠X.env.locals:=fun x c e z=>by
 obtain ⟨v,o,ho,hd⟩:=I.cell x c e
 obtain ⟨m,⟨o',es,ep,ho',hd',_⟩,_⟩:=I.loc
 rw[z,ho'] at ho;cases ho;rw[hd'] at hd;cases hd
theorem Inv.funs (I:Inv X pins σ H s):s.heap.FunFrames X.base X.outer:=by
 have all:∀ (l:List Env),(∀ b∈frs l,b∈X.fs)→X.s₀.heap.FunFrames X.base l→s.heap.FunFrames X.base l:=by
  intro l
  induction l with
  | nil=>intro _ _;trivial
  | cons env r ih=>
   intro hs hl
   obtain ⟨hk,⟨L,o,hf,hn,ho,hd⟩,hr⟩:=hl
   have hL:L∈X.fs:=hs L (by unfold frs;rw[List.filterMap_cons,hf];exact List.mem_cons_self)
   obtain ⟨sl,e⟩:=I.base.slot L o ho (I.ok.frf L hL) hL fun z=>I.ok.exfs L z hL
   exact ⟨hk,⟨L,_,hf,hn,e,hd⟩,ih (fun b hb=>hs b (by unfold frs;rw[List.filterMap_cons,hf];exact List.mem_cons_of_mem _ hb)) hr⟩
 exact all X.outer (fun _ hb=>hb) I.ok.funs
theorem Inv.stack (I:Inv X pins σ H s):s.heap.FunFrames X.base X.stack:=by
 rcases I.ok.stk with e|⟨e,hf⟩
 ·rw[e];exact I.funs
 ·rw[e]
  obtain ⟨m,hn,_⟩:=I.loc
  refine .cons (by rw[I.ok.kind];decide) hf hn ?_ I.funs
  exact Heap.get?_none_of_le (Nat.le_trans I.ok.bsz I.ok.above)
theorem Inv.stkSub (I:Inv X pins σ H s):∀ b∈frs X.stack,b∈X.env.locals::X.fs:=fun b hb=>by
 rcases I.ok.stk with e|⟨e,hf⟩
 ·rw[e] at hb;exact List.mem_cons_of_mem _ hb
 ·rw[e] at hb
  unfold frs at hb
  rw[List.filterMap_cons,hf] at hb
  exact hb
theorem Inv.stkFree (I:Inv X pins σ H s):∀ b∈frs X.stack,H b=none:=fun b hb=>by
 rcases List.mem_cons.mp (I.stkSub b hb) with e|hb
 ·rw[e];exact I.free
 ·obtain ⟨_,o,ho,_⟩:=I.ok.funs.mem hb
  exact I.base.free b o ho (I.ok.frf b hb) fun z=>I.ok.exfs b z hb
theorem Inv.step {g':Array GenState}{t':Nat}{d':Drawn}{ch:List Addr} (I:Inv X pins σ H s)
  (hch:∀ b∈ch,(b∈X.ex∨X.s₀.heap.objs.size≤b)∧b≠X.env.locals∧(∀ x c,X.env.cells.lookup x=some c→c≠b)∧∀ p∈X.pn++pins,p.1≠b)
  (keep:∀ b o,b≠X.env.locals→b∉X.fs→b∉ch→s.heap.get? b=some o→H b=none→h'.get? b=some o)
  (slot:∀ b o,b≠X.env.locals→b∈X.fs→b∉ch→s.heap.get? b=some o→H b=none→∃ sl,h'.get? b=some { o with slots:=sl }) (free:∀ b o,b∉ch→s.heap.get? b=some o→H b=none→H' b=none)
  (there:∀ b o,b∉ch→s.heap.get? b=some o→∃ o',h'.get? b=some o')
  (tups:∀ b xs,H b=some (.tup xs)→H' b=some (.tup xs)) (frzs:∀ b o u,H b=some (.frz o u)→H' b=some (.frz o u)) (tbls:∀ b ps,H b=some (.tbl ps)→∃ more,H' b=some (.tbl (ps++more)))
  (ns:∀ m,s.heap.Ns X.env.locals m→h'.Ns X.env.locals m) (hok:HOk X.prog X.w H' h') (hg:AllBare g') :
  Inv X pins σ H' { s with heap:=h',gens:=g',drawn:=d',toks:=t' }:=by
 have neL:∀ b o,X.s₀.heap.get? b=some o→b≠X.env.locals:=fun b o e=>Nat.ne_of_lt (Nat.lt_of_lt_of_le (Heap.lt_size e) I.ok.above)
 have neC:∀ b o,X.s₀.heap.get? b=some o→b∉X.ex→b∉ch:=fun b o e hx hb=>by
  rcases (hch b hb).1 with z|z
  ·exact hx z
  ·exact absurd (Nat.lt_of_lt_of_le (Heap.lt_size e) z) (Nat.lt_irrefl _)
 have cellK:∀ x c,X.env.cells.lookup x=some c→∀ v,s.heap.IsCell c v→h'.IsCell c v:=fun x c e v ⟨o,ho,hd⟩=>by
  have nch:c∉ch:=fun z=>(hch c z).2.2.1 x c e rfl
  by_cases hc:c∈X.fs
  ·obtain ⟨sl,q⟩:=slot c o (I.cne x c e) hc nch ho (I.freeC x c e)
   exact ⟨_,q,hd⟩
  ·exact ⟨o,keep c o (I.cne x c e) hc nch ho (I.freeC x c e),hd⟩
 refine ⟨I.ok,I.os,hg,⟨fun b o e n hb hx=>?_,fun b o e n hb hx=>?_,fun b o e n hx=>?_,fun b o e hx=>?_,fun b xs e=>tups b xs (I.base.tups b xs e),fun b o xs e=>frzs b o xs (I.base.frzs b o xs e),fun b ps e=>?_⟩,?_,fun x c e=>?_,?_,fun x c e=>?_,fun p hp=>?_,hok,I.len⟩
 ·exact keep b o (neL b o e) hb (neC b o e hx) (I.base.keep b o e n hb hx) (I.base.free b o e n hx)
 ·obtain ⟨sl,e1⟩:=I.base.slot b o e n hb hx
  obtain ⟨sl',e2⟩:=slot b _ (neL b o e) hb (neC b o e hx) e1 (I.base.free b o e n hx)
  exact ⟨sl',e2⟩
 ·obtain ⟨o',e1⟩:=I.base.there b o e hx
  exact free b o' (neC b o e hx) e1 (I.base.free b o e n hx)
 ·obtain ⟨o',e1⟩:=I.base.there b o e hx
  exact there b o' (neC b o e hx) e1
 ·obtain ⟨m1,e1⟩:=I.base.tbls b ps e
  obtain ⟨m2,e2⟩:=tbls b _ e1
  exact ⟨m1++m2,by rw[e2,Array.append_assoc]⟩
 ·obtain ⟨m,hn,hl⟩:=I.loc
  refine ⟨m,ns m hn,fun i x v e1 e2 e3=>?_⟩
  obtain ⟨u,r,l⟩:=hl i x v e1 e2 e3
  refine ⟨u,r,?_⟩
  rcases l with l|⟨k,c,e,z⟩
  ·exact .inl l
  ·exact .inr ⟨k,c,e,cellK x c e _ z⟩
 ·obtain ⟨v,z⟩:=I.cell x c e
  exact ⟨v,cellK x c e v z⟩
 ·obtain ⟨m,⟨o,_,_,ho,_⟩,_⟩:=I.loc
  exact free _ o (fun z=>(hch _ z).2.1 rfl) ho I.free
 ·obtain ⟨v,o,ho,hd⟩:=I.cell x c e
  exact free c o (fun z=>(hch c z).2.2.1 x c e rfl) ho (I.freeC x c e)
 ·obtain ⟨e,n,ne,nf,d⟩:=I.pin p hp
  have nch:p.1∉ch:=fun z=>(hch p.1 z).2.2.2 p hp rfl
  exact ⟨keep p.1 p.2 ne nf nch e n,free p.1 p.2 nch e n,ne,nf,d⟩
theorem Inv.un {t':Nat} (I:Inv X pins σ H s) (u:Un X.fs [] H H' s.heap h') (hok:HOk X.prog X.w H' h'):Inv X pins σ H' { s with heap:=h',toks:=t' }:=by
 obtain ⟨m,⟨o,es,ep,ho,r⟩,_⟩:=id I.loc
 obtain ⟨sl,hL⟩:=u.any ho I.free (by simp)
 exact I.step (g':=s.gens) (d':=s.drawn) (ch:=[]) (fun _ z=>nomatch z) (fun b o _ hb _ e n=>u.keep b o e n hb (by simp)) (fun b o _ hb _ e n=>u.slot b o e n hb (by simp)) (fun b o _ e n=>u.free b o e n (by simp)) (fun b o _ e=>u.there b o e (by simp)) u.tups u.frzs u.tbls (fun m' hm=>by
  obtain ⟨o',es',ep',ho',r'⟩:=hm
  rw[ho] at ho';cases ho'
  exact ⟨_,es',ep',hL,r'⟩) hok I.bare
theorem Inv.call {g':Array GenState}{t':Nat}{d':Drawn}{ch:List Addr} (I:Inv X pins σ H s) (u:Un (frs X.stack) ch H H' s.heap h') (hok:HOk X.prog X.w H' h') (hg:AllBare g')
  (hch:∀ b∈ch,(b∈X.ex∨X.s₀.heap.objs.size≤b)∧b≠X.env.locals∧(∀ x c,X.env.cells.lookup x=some c→c≠b)∧∀ p∈X.pn++pins,p.1≠b) :
  Inv X pins σ H' { s with heap:=h',gens:=g',drawn:=d',toks:=t' }:=by
 obtain ⟨m,⟨o,es,ep,ho,r⟩,_⟩:=id I.loc
 obtain ⟨sl,hL⟩:=u.any ho I.free fun z=>(hch _ z).2.1 rfl
 exact I.step (ch:=ch) hch (fun b o hL hb hc e n=>u.keep b o e n (fun z=>(List.mem_cons.mp (I.stkSub b z)).elim hL hb) hc) (fun b o _ _ hc e n=>u.any e n hc) (fun b o hc e n=>u.free b o e n hc) (fun b o hc e=>u.there b o e hc) u.tups u.frzs u.tbls (fun m' hm=>by
  obtain ⟨o',es',ep',ho',r'⟩:=hm
  rw[ho] at ho';cases ho'
  exact ⟨_,es',ep',hL,r'⟩) hok hg
theorem Inv.turned {t':Nat}{it:Addr} (I:Inv X pins σ H s) (k:∀ b o,b≠it→s.heap.get? b=some o→h'.get? b=some o) (hn:H it=none) (hL:it≠X.env.locals)
  (h1:it∈X.ex∨X.s₀.heap.objs.size≤it) (h2:∀ x c,X.env.cells.lookup x=some c→c≠it) (h3:∀ p∈X.pn++pins,p.1≠it):Inv X pins σ H { s with heap:=h',toks:=t' }:=by
 have nit:∀ b u,H b=some u→b≠it:=fun b u e z=>by rw[z,hn] at e;cases e
 refine I.step (g':=s.gens) (d':=s.drawn) (ch:=[it]) (fun b hb=>?_) (fun b o _ _ hc e _=>k b o (fun z=>hc (by simp[z])) e) (fun b o _ _ hc e _=>⟨o.slots,k b o (fun z=>hc (by simp[z])) e⟩) (fun _ _ _ _ n=>n)
  (fun b o hc e=>⟨o,k b o (fun z=>hc (by simp[z])) e⟩) (fun _ _ e=>e) (fun _ _ _ e=>e) (fun b ps e=>⟨#[],by rw[e];simp⟩) (fun m hm=>?_) (fun b u e=>?_) I.bare
 ·have e:b=it:=by simpa using hb
  subst e
  exact ⟨h1,hL,h2,h3⟩
 ·obtain ⟨o,es,ep,ho,r⟩:=hm
  exact ⟨o,es,ep,k _ o (Ne.symm hL) ho,r⟩
 ·refine (I.hok b u e).stay (fun c v hc q=>k c v ?_ q) (fun _ q=>q) fun _ _ q=>q
  rcases hc with z|z
  ·rw[z];exact nit b u e
  ·exact nit c _ z
theorem Inv.tok (I:Inv X pins σ H s) (t:Nat):Inv X pins σ H { s with toks:=t }:=I.un (h':=s.heap) (t':=t) Un.refl I.hok
theorem Inv.kept {t':Nat} (I:Inv X pins σ H s) (k:∀ b u,s.heap.get? b=some u→h'.get? b=some u):Inv X pins σ H { s with heap:=h',toks:=t' }:=I.un (Un.kept k) (I.hok.kept k)
theorem Inv.laid {a:Addr}{o:HO}{t':Nat} (I:Inv X pins σ H s) (k:∀ b u,s.heap.get? b=some u→h'.get? b=some u) (hp:s.heap.objs.size≤a) (new:yak X.prog X.w (upd H a o) h' a o) :
  Inv X pins σ (upd H a o) { s with heap:=h',toks:=t' }:=I.un (Un.laid k hp (I.hok.fresh hp)) (I.hok.laid k hp new)
theorem Inv.write {x e:Addr}{o:HO}{t':Nat} (I:Inv X pins σ H s) (mu:Mut (H x)) (he:e=x∨H e=some (.own x)) (k:∀ b u,b≠e→s.heap.get? b=some u→h'.get? b=some u) (heo:∃ u,h'.get? e=some u)
  (new:yak X.prog X.w (upd H x o) h' x o):Inv X pins σ (upd H x o) { s with heap:=h',toks:=t' }:=I.un (Un.write mu he k heo) (I.hok.write mu he k heo new)
theorem Inv.weak {σ':List (Option V)} (I:Inv X pins σ H s) (hl:σ'.length=σ.length) (w:∀ (i:Nat) v,σ'[i]?=some (some v)→σ[i]?=some (some v)):Inv X pins σ' H s:=
 ⟨I.ok,I.os,I.bare,I.base,let ⟨m,hn,hl'⟩:=I.loc;⟨m,hn,fun i x v e1 e2 e3=>hl' i x v e1 (w i v e2) e3⟩,I.cell,I.free,I.freeC,I.pin,I.hok,hl.trans I.len⟩
theorem Inv.pins_of {pins':List (Addr×Obj)} (I:Inv X pins σ H s) (h:∀ p∈pins',s.heap.get? p.1=some p.2∧H p.1=none∧p.1≠X.env.locals∧p.1∉X.fs∧∀ v,p.2.data≠.cell v):Inv X pins' σ H s:=
 ⟨I.ok,I.os,I.bare,I.base,I.loc,I.cell,I.free,I.freeC,fun p hp=>(List.mem_append.mp hp).elim (fun z=>I.pin p (List.mem_append_left _ z)) (h p),I.hok,I.len⟩
theorem yc5 {N:List Str} (hN:N.Nodup) {i j:Nat}{x:Str} (a:N[i]?=some x) (b:N[j]?=some x):i=j:=by
 obtain ⟨h1,e1⟩:=List.getElem?_eq_some_iff.mp a
 obtain ⟨h2,e2⟩:=List.getElem?_eq_some_iff.mp b
 exact (List.getElem_inj hN).mp (e1.trans e2.symm)
theorem qcj {M:Model}{A:Around}{E:Value→Shared→Prop}{i:Nat}{x:Str}{v:V}{u:Value}{Q:Unit→Shared→Prop} (I:Inv X pins σ H s) (hN:X.N.Nodup) (hi:X.N[i]?=some x) (hx:Loc X.env.scope x) (r:RelV v u)
  (h:∀ s',Inv X pins (σ.set i (some v)) H s'→(∃ a,Heap.SameBut a s.heap s'.heap∧(a=X.env.locals∨X.env.cells.lookup x=some a))→Q () s') (hf:X.fn x=true∨X.env.scope.names.lookup x=some .local:=by first|exact .inl rfl|exact .inr rfl|assumption):wpAny M A (storeName X.env x u) Q E s:=by
 obtain ⟨m,hn,hl⟩:=id I.loc
 have hcls:(X.env.scope.kind == .class||(X.env.scope.kind == .module&&X.env.locals != X.env.globals))=false:=by rw[I.ok.kind];rfl
 have hiσ:i<σ.length:=by rw[I.len];exact (List.getElem?_eq_some_iff.mp hi).1
 have cne:=I.cne
 have tracked:∀ {a:Addr}{h':Heap},(∃ o,s.heap.get? a=some o∧H a=none)→Heap.SameBut a s.heap h'→HOk X.prog X.w H h':=fun {a h'} ha hs b ob e=>by
  obtain ⟨_,_,hfree⟩:=ha
  refine (I.hok b ob e).stay (fun c w' hc q=>(hs.2 c ?_).trans q) (fun _ q=>q) fun _ _ q=>q
  rintro rfl
  rcases hc with rfl|hc
  ·rw[hfree] at e;cases e
  ·rw[hfree] at hc;cases hc
 rcases hx with hk|hk
 ·refine wpAny_storeName_local hk hn (fun h' hn' hs=>?_) hcls
  obtain ⟨oL,_,_,hoL,_⟩:=id hn
  refine h _ ⟨I.ok,I.os,I.bare,⟨fun b o e n hb hx=>?_,fun b o e n hb hx=>?_,I.base.free,fun b o e hx=>?_,I.base.tups,I.base.frzs,I.base.tbls⟩,⟨_,hn',fun j y v' e1 e2 e3=>?_⟩,fun y c e=>?_,I.free,I.freeC,fun p hp=>?_,tracked ⟨oL,hoL,I.free⟩ hs,by simpa using I.len⟩ ⟨_,hs,.inl rfl⟩
  ·exact (hs.2 b (Nat.ne_of_lt (Nat.lt_of_lt_of_le (Heap.lt_size e) I.ok.above))).trans (I.base.keep b o e n hb hx)
  ·obtain ⟨sl,e1⟩:=I.base.slot b o e n hb hx
   exact ⟨sl,(hs.2 b (Nat.ne_of_lt (Nat.lt_of_lt_of_le (Heap.lt_size e) I.ok.above))).trans e1⟩
  ·obtain ⟨o',e1⟩:=I.base.there b o e hx
   exact ⟨o',(hs.2 b (Nat.ne_of_lt (Nat.lt_of_lt_of_le (Heap.lt_size e) I.ok.above))).trans e1⟩
  ·by_cases hj:j=i
   ·subst hj
    rw[hi] at e1;cases e1
    rw[List.getElem?_set_self hiσ] at e2
    cases e2
    exact ⟨u,r,.inl ⟨hk,by simp⟩⟩
   ·rw[List.getElem?_set_ne (Ne.symm hj)] at e2
    obtain ⟨u',r',q⟩:=hl j y v' e1 e2 e3
    refine ⟨u',r',?_⟩
    rcases q with ⟨k,e⟩|⟨k,c,e,z⟩
    ·refine .inl ⟨k,?_⟩
     have:y≠x:=fun e=>hj (yc5 hN e1 (e ▸ hi))
     simp[this,e]
    ·exact .inr ⟨k,c,e,z.sameBut hs (cne y c e)⟩
  ·obtain ⟨w',z⟩:=I.cell y c e
   exact ⟨w',z.sameBut hs (cne y c e)⟩
  ·obtain ⟨e,n,ne,nf,d⟩:=I.pin p hp
   exact ⟨(hs.2 p.1 ne).trans e,n,ne,nf,d⟩
 ·have hfn:X.fn x=true:=by
   rcases hf with z|z
   ·exact z
   ·rw[z] at hk;cases hk
  obtain ⟨c,hc⟩:=I.ok.has x (.inl hk)
  obtain ⟨w',z⟩:=I.cell x c hc
  refine wpAny_storeName_cell I.ok.kind hk hc z (fun h' hc' hs=>?_)
  obtain ⟨oc,hoc,hocd⟩:=id z
  refine h { s with heap:=h' } ⟨I.ok,I.os,I.bare,⟨fun b o e n hb hx=>?_,fun b o e n hb hx=>?_,I.base.free,fun b o e hx=>?_,I.base.tups,I.base.frzs,I.base.tbls⟩,⟨m,hn.sameBut hs (Ne.symm (cne x c hc)),fun j y v' e1 e2 e3=>?_⟩,fun y c' e=>?_,I.free,I.freeC,fun p hp=>?_,tracked ⟨oc,hoc,I.freeC x c hc⟩ hs,by simpa using I.len⟩ ⟨c,hs,.inr hc⟩
  ·exact (hs.2 b (Nat.ne_of_lt (Nat.lt_of_lt_of_le (Heap.lt_size e) (I.ok.cab x c hfn hc)))).trans (I.base.keep b o e n hb hx)
  ·obtain ⟨sl,e1⟩:=I.base.slot b o e n hb hx
   exact ⟨sl,(hs.2 b (Nat.ne_of_lt (Nat.lt_of_lt_of_le (Heap.lt_size e) (I.ok.cab x c hfn hc)))).trans e1⟩
  ·obtain ⟨o',e1⟩:=I.base.there b o e hx
   exact ⟨o',(hs.2 b (Nat.ne_of_lt (Nat.lt_of_lt_of_le (Heap.lt_size e) (I.ok.cab x c hfn hc)))).trans e1⟩
  ·by_cases hj:j=i
   ·subst hj
    rw[hi] at e1;cases e1
    rw[List.getElem?_set_self hiσ] at e2
    cases e2
    exact ⟨u,r,.inr ⟨.inl hk,c,hc,hc'⟩⟩
   ·rw[List.getElem?_set_ne (Ne.symm hj)] at e2
    obtain ⟨u',r',q⟩:=hl j y v' e1 e2 e3
    refine ⟨u',r',?_⟩
    rcases q with q|⟨k,c',e,z'⟩
    ·exact .inl q
    ·refine .inr ⟨k,c',e,z'.sameBut hs ?_⟩
     rintro rfl
     exact hj (yc5 hN e1 (I.ok.inj _ _ _ e hc ▸ hi))
  ·by_cases hcc:c'=c
   ·subst hcc;exact ⟨_,hc'⟩
   ·obtain ⟨w2,z2⟩:=I.cell y c' e
    exact ⟨w2,z2.sameBut hs hcc⟩
  ·obtain ⟨e,n,ne,nf,d⟩:=I.pin p hp
   refine ⟨(hs.2 p.1 ?_).trans e,n,ne,nf,d⟩
   intro q
   rw[q,hoc] at e
   have q':oc=p.2:=Option.some.inj e
   exact d w' (by rw[← q'];exact hocd)
theorem ydb {M:Model}{A:Around}{E:Value→Shared→Prop}{i:Nat}{x:Str}{v:V}{u:Value}{Q:Unit→Shared→Prop} (I:Inv X pins σ H s) (hN:X.N.Nodup) (hi:X.N[i]?=some x) (hx:Loc X.env.scope x) (r:RelV v u)
  (h:∀ s',Inv X pins (σ.set i (some v)) H s'→Q () s') (hf:X.fn x=true∨X.env.scope.names.lookup x=some .local:=by first|exact .inl rfl|exact .inr rfl|assumption):wpAny M A (storeName X.env x u) Q E s:=
 qcj I hN hi hx r (fun s' I' _=>h s' I') hf
theorem Inv.call' {s':Shared}{ch:List Addr} (I:Inv X pins σ H s) (ho:s'.os=s.os) (u:Un (frs X.stack) ch H H' s.heap s'.heap) (hok:HOk X.prog X.w H' s'.heap) (hg:AllBare s'.gens)
  (hch:∀ b∈ch,(b∈X.ex∨X.s₀.heap.objs.size≤b)∧b≠X.env.locals∧(∀ x c,X.env.cells.lookup x=some c→c≠b)∧∀ p∈X.pn++pins,p.1≠b):Inv X pins σ H' s':=by
 obtain ⟨h',g',d',t',o'⟩:=s'
 have e:o'=s.os:=ho
 subst e
 exact I.call (g':=g') (t':=t') (d':=d') u hok hg hch
end
abbrev XK:=Value→Option Addr→Hp→Prop
abbrev St:=List (Option V)
abbrev VK:=V→Hp→Prop
abbrev TE:=St→Hp→VK→Prop
abbrev TT:=St→Hp→(Bool→Hp→Prop)→Prop
abbrev TA:=St→Hp→(List V→Hp→Prop)→Prop
structure Ends where
 nx:St→Hp→Prop
 rt:VK
 bk:St→Hp→Prop:=fun _ _=>False
 ct:St→Hp→Prop:=fun _ _=>False
abbrev TS:=Ends→St→Hp→Prop
def EP (X:Cx) (pins:List (Addr×Obj)) (σ:St) (Q:VK) (u:Value) (s':Shared):Prop:=∃ v H',Inv X pins σ H' s'∧RelV v u∧Q v H'
def TP (X:Cx) (pins:List (Addr×Obj)) (σ:St) (Q:Bool→Hp→Prop) (b:Bool) (s':Shared):Prop:=∃ H',Inv X pins σ H' s'∧Q b H'
def AP (X:Cx) (pins:List (Addr×Obj)) (σ:St) (Q:List V→Hp→Prop) (us:List Value) (s':Shared):Prop:=∃ vs H',Inv X pins σ H' s'∧Vals vs us∧Q vs H'
def SP (X:Cx) (pins:List (Addr×Obj)) (D:Ends) (f:Flow) (s':Shared):Prop:=
 match f with
 | .next=>∃ σ' H',Inv X pins σ' H' s'∧D.nx σ' H'
 | .brk=>∃ σ' H',Inv X pins σ' H' s'∧D.bk σ' H'
 | .cont=>∃ σ' H',Inv X pins σ' H' s'∧D.ct σ' H'
 | .ret u=>∃ v σ' H',Inv X pins σ' H' s'∧RelV v u∧D.rt v H'
def PE (X:Cx) (e:Expr) (t:TE):Prop:=
 ∀ (pins:List (Addr×Obj)) (s:Shared) (σ:St) (H:Hp) (Q:VK),Inv X pins σ H s→t σ H Q→wpAny (model X.prog X.w) X.A (eval e X.env) (EP X pins σ Q) X.xe s
def PT (X:Cx) (e:Expr) (t:TT):Prop:=
 ∀ (pins:List (Addr×Obj)) (s:Shared) (σ:St) (H:Hp) (Q:Bool→Hp→Prop),Inv X pins σ H s→t σ H Q→wpAny (model X.prog X.w) X.A (isTrue e X.env (eval e X.env)) (TP X pins σ Q) X.xe s
def PW (X:Cx) (e:Expr) (t:TT):Prop:=
 ∀ (whole:Sem Value) (pins:List (Addr×Obj)) (s:Shared) (σ:St) (H:Hp) (Q:Bool→Hp→Prop),Inv X pins σ H s→t σ H Q→wpAny (model X.prog X.w) X.A (isTrue e X.env whole) (TP X pins σ Q) X.xe s
theorem PW.pt {X:Cx}{e:Expr}{t:TT} (h:PW X e t):PT X e t:=h _
def PA (X:Cx) (es:List Expr) (t:TA):Prop:=
 ∀ (pos:Pos) (pins:List (Addr×Obj)) (s:Shared) (σ:St) (H:Hp) (Q:List V→Hp→Prop),Inv X pins σ H s→t σ H Q→wpAny (model X.prog X.w) X.A (spliced (backTo pos (starEach es X.env))) (AP X pins σ Q) X.xe s
def PS (X:Cx) (st:Stmt) (t:TS):Prop:=
 ∀ (pins:List (Addr×Obj)) (s:Shared) (σ:St) (H:Hp) (D:Ends),Inv X pins σ H s→t D σ H→wpAny (model X.prog X.w) X.A (exec st X.env) (SP X pins D) X.xe s
def PSs (X:Cx) (st:List Stmt) (t:TS):Prop:=
 ∀ (pins:List (Addr×Obj)) (s:Shared) (σ:St) (H:Hp) (D:Ends),Inv X pins σ H s→t D σ H→wpAny (model X.prog X.w) X.A (execs st X.env) (SP X pins D) X.xe s
theorem thn {α:Type}{t:Sem α}{Q Q':α→Shared→Prop}{M:Model}{A:Around}{E:Value→Shared→Prop}{s:Shared} (h:wpAny M A t Q E s) (hQ:∀ a s,Q a s→Q' a s):wpAny M A t Q' E s:=wpAny_mono h hQ fun _ _ x=>x
section
variable {X:Cx}
def tVar (i:Nat):TE:=fun σ H Q=>∃ v,σ[i]?=some (some v)∧Q v H
def tC (v:V):TE:=fun _ H Q=>Q v H
theorem pe_var {i:Nat}{x:Str}{pos:Pos} (hN:X.N[i]?=some x) (hv:Vis X.env.scope x) (hd:(x == ("__debug__" : Str))=false:=by decide) (hcd:(x == ("__classdict__" : Str))=false:=by decide):PE X (.Name x pos) (tVar i):=by
 intro pins s σ H Q I h
 obtain ⟨v,e,h⟩:=h
 obtain ⟨m,hn,hl⟩:=I.loc
 obtain ⟨u,r,l⟩:=hl i x v hN e hv
 have fin:EP X pins σ Q u s:=⟨v,H,I,r,h⟩
 rcases l with ⟨hk,hm⟩|⟨hk,c,hc,hcell⟩
 ·exact wpAny_Name (wpAny_loadName_local I.ok.kind hk hn hm fin) hd
 ·rcases hk with hk|hk
  ·exact wpAny_Name (wpAny_loadName_cell I.ok.kind hk hc hcell fin) hd
  ·exact wpAny_Name (wpAny_loadName_free I.ok.kind hk hc hcell fin hcd) hd
theorem yac {i j pos}:PE X (.Constant (.int i) j pos) (tC (.int i)):=fun _ _ _ H _ I h=>wpAny_Constant_int ⟨.int i,H,I.tok _,⟨_,rfl⟩,h⟩
theorem ya6 {b j pos}:PE X (.Constant (.bool b) j pos) (tC (.bl b)):=fun _ _ _ H _ I h=>Constant_bool ⟨.bl b,H,I,rfl,h⟩
def Gl (X:Cx) (x:Str):Prop:=X.env.kindOf x=some .globalImplicit
theorem ld_glob {E:Value→Shared→Prop}{pins:List (Addr×Obj)}{s:Shared}{σ:St}{H:Hp}{x:Str}{u:Value}{pos:Pos}{Q:Value→Shared→Prop} (I:Inv X pins σ H s) (hg:Gl X x) (hm:X.mg x=some u) (h:Q u s)
  (hd:(x == ("__debug__" : Str))=false:=by decide):wpAny (model X.prog X.w) X.A (eval (.Name x pos) X.env) Q E s:=
 Calls.Name_function_global I.ok.kind hg (Calls.loadGlobal_global (by rw[I.ok.glob];exact I.mod.glob.keeps I.bk) hm h) hd
theorem ycl {E:Value→Shared→Prop}{pins:List (Addr×Obj)}{s:Shared}{σ:St}{H:Hp}{x:Str}{u:Value}{pos:Pos}{Q:Value→Shared→Prop} (I:Inv X pins σ H s) (hg:Gl X x) (hm:X.mg x=none) (hv:bootBuiltins x=some u) (h:Q u s)
  (hn:x≠"__name__":=by decide) (hd:(x == ("__debug__" : Str))=false:=by decide):wpAny (model X.prog X.w) X.A (eval (.Name x pos) X.env) Q E s:=by
 obtain ⟨mb,h1,h2⟩:=I.mod.blt
 exact Calls.Name_function_global I.ok.kind hg (Calls.loadGlobal_builtin (by rw[I.ok.glob];exact I.mod.glob.keeps I.bk) hm (by rw[I.ok.blt];exact h1.keeps I.bk) ((h2 x hn).trans hv) h) hd
theorem ybn {x:Str}{v:V}{u:Value}{pos:Pos} (hg:Gl X x) (hm:X.mg x=none) (hv:bootBuiltins x=some u) (r:RelV v u) (hn:x≠"__name__":=by decide) (hd:(x == ("__debug__" : Str))=false:=by decide):PE X (.Name x pos) (tC v):=
 fun _ _ _ H _ I h=>ycl I hg hm hv ⟨v,H,I,r,h⟩ hn hd
variable {a b:Expr}{ta tb:TE}{pos:Pos}
def PC (X:Cx) (op:CmpOp) (a b:Expr) (t:TE):Prop:=
 ∀ (pins:List (Addr×Obj)) (s:Shared) (σ:St) (H:Hp) (Q:VK),Inv X pins σ H s→t σ H Q→
  wpAny (model X.prog X.w) X.A (eval a X.env) (fun v s₁=>wpAny (model X.prog X.w) X.A (eval b X.env) (fun u s₂=>wpAny (model X.prog X.w) X.A (compareOp op v u) (EP X pins σ Q) X.xe s₂) X.xe s₁) X.xe s
def tB (t:TE):TT:=fun σ H Q=>t σ H fun x H1=>∃ c,x=.bl c∧Q c H1
theorem qdm {op:CmpOp}{t:TE} (h:PC X op a b t) (h1:behindInMarks op b=false:=by first|exact nobehind _ (by decide) (by decide)|rfl):PT X (.Compare a [op] [b] pos) (tB t):=by
 intro pins s σ H Q I hw
 refine wpAny_isTrue_Compare1 (thn (h pins s σ H _ I hw) fun v s1 h1=>thn h1 fun u s2 h2=>thn h2 fun c s3 ⟨x,H1,I1,r1,q1⟩=>?_) h1
 obtain ⟨d,rfl,q⟩:=q1
 cases r1
 exact wpAny_truthy_bool ⟨H1,I1,q⟩
theorem pt_val {e:Expr}{t:TE} (h:PE X e t) (he:∀ whole,isTrue e X.env whole=(do let v ← whole;standAt e.pos;holding [v] (truthy v)):=by intro _;rfl):PT X e (tB t):=by
 intro pins s σ H Q I hw
 refine isTrue_plain (thn (h pins s σ H _ I hw) fun v s1 ⟨x,H1,I1,r1,q1⟩=>?_) (he _)
 obtain ⟨d,rfl,q⟩:=q1
 cases r1
 exact wpAny_truthy_bool ⟨H1,I1,q⟩
variable {tA tB':TT}{rest:List Expr}
def tAnd (t u:TT):TT:=fun σ H Q=>t σ H fun c H1=>if c=true then u σ H1 Q else Q false H1
def tOr (t u:TT):TT:=fun σ H Q=>t σ H fun c H1=>if c=true then Q true H1 else u σ H1 Q
def tNot (t:TT):TT:=fun σ H Q=>t σ H fun c H1=>Q (!c) H1
theorem qc1 (ha:PT X a tA):PW X (.BoolOp .And [a] pos) tA:=by
 intro wh pins s σ H Q I h
 refine isTrue_and (thn (ha pins s σ H Q I h) fun c s1 e=>?_)
 cases c with
 | true=>exact isTrue_and_nil e
 | false=>exact e
theorem pw_or1 (ha:PT X a tA):PW X (.BoolOp .Or [a] pos) tA:=by
 intro wh pins s σ H Q I h
 refine isTrue_or (thn (ha pins s σ H Q I h) fun c s1 e=>?_)
 cases c with
 | false=>exact isTrue_or_nil e
 | true=>exact e
theorem qdk (ha:PT X a tA) (hb:PW X (.BoolOp .And (b::rest) pos) tB'):PW X (.BoolOp .And (a::b::rest) pos) (tAnd tA tB'):=by
 intro wh pins s σ H Q I h
 refine isTrue_and (thn (ha pins s σ H _ I h) fun c s1 ⟨H1,I1,q1⟩=>?_)
 cases c with
 | true=>exact hb wh pins s1 σ H1 Q I1 q1
 | false=>exact ⟨H1,I1,q1⟩
theorem pw_or (ha:PT X a tA) (hb:PW X (.BoolOp .Or (b::rest) pos) tB'):PW X (.BoolOp .Or (a::b::rest) pos) (tOr tA tB'):=by
 intro wh pins s σ H Q I h
 refine isTrue_or (thn (ha pins s σ H _ I h) fun c s1 ⟨H1,I1,q1⟩=>?_)
 cases c with
 | true=>exact ⟨H1,I1,q1⟩
 | false=>exact hb wh pins s1 σ H1 Q I1 q1
theorem pt_not (ha:PT X a tA):PT X (.UnaryOp .Not a pos) (tNot tA):=by
 intro pins s σ H Q I h
 exact isTrue_not (ha pins s σ H (fun c H1=>Q (!c) H1) I h)
def tAndV (ta tb:TE):TE:=fun σ H Q=>ta σ H fun x H1=>∃ c,x=.bl c∧if c=true then tb σ H1 Q else Q (.bl false) H1
def tNotV (ta:TE):TE:=fun σ H Q=>ta σ H fun x H1=>∃ c,x=.bl c∧Q (.bl (!c)) H1
theorem pe_one {op}{t:TE} (h:PE X a t):PE X (.BoolOp op [a] pos) t:=fun pins s σ H Q I hw=>BoolOp_one (h pins s σ H Q I hw)
theorem pe_and (ha:PE X a ta) (hb:PE X (.BoolOp .And (b::rest) pos) tb):PE X (.BoolOp .And (a::b::rest) pos) (tAndV ta tb):=by
 intro pins s σ H Q I h
 refine BoolOp_and (thn (ha pins s σ H _ I h) fun v s1 ⟨x,H1,I1,r1,q1⟩=>?_)
 obtain ⟨c,rfl,q1⟩:=q1
 cases r1
 refine wpAny_truthy_bool ?_
 cases c with
 | true=>exact hb pins s1 σ H1 Q I1 q1
 | false=>exact ⟨.bl false,H1,I1,rfl,q1⟩
theorem pe_not (ha:PE X a ta):PE X (.UnaryOp .Not a pos) (tNotV ta):=by
 intro pins s σ H Q I h
 refine UnaryOp_ (thn (ha pins s σ H _ I h) fun v s1 ⟨x,H1,I1,r1,q1⟩=>?_)
 obtain ⟨c,rfl,q1⟩:=q1
 cases r1
 exact not_of (wpAny_truthy_bool ⟨.bl (!c),H1,I1,rfl,q1⟩)
end
def SqL (K:PySem.W.Frag) (H:Hp) (a:Addr) (xs:List V):Prop:=
 Rd H a (.lst xs)∨
  ∃ (o:Obj) (its:Array Value) (n:Nat),K.lookup a=some o∧o.cls=.type "list"∧o.dict=none∧o.data=.seq its n∧its.size≤sizeLine∧Vals xs its.toList
def SqT (K:PySem.W.Frag) (H:Hp) (a:Addr) (xs:List V):Prop:=
 Rd H a (.tup xs)∨
  ∃ (o:Obj) (its:Array Value) (n:Nat),K.lookup a=some o∧o.cls=.type "tuple"∧o.data=.seq its n∧its.size≤sizeLine∧Vals xs its.toList
def absV:Value→Option V
 | .none=>some .non
 | .bool b=>some (.bl b)
 | .int i _=>some (.int i)
 | .str x _=>some (.str x)
 | .bytes b _=>some (.byt b)
 | .float b _=>some (.flt b)
 | .ref a=>some (.ref a)
 | .type n=>some (.ty n)
 | _=>none
theorem RelV.abs {x:V}{u:Value} (r:RelV x u):absV u=some x:=by
 cases x with
 | non=>cases r;rfl
 | bl _=>cases r;rfl
 | int _=>obtain ⟨t,rfl⟩:=r;rfl
 | str _=>obtain ⟨t,rfl⟩:=r;rfl
 | byt _=>obtain ⟨t,rfl⟩:=r;rfl
 | flt _=>obtain ⟨t,rfl⟩:=r;rfl
 | ref _=>cases r;rfl
 | ty _=>cases r;rfl
theorem RelV.inj {x y:V}{u:Value} (r:RelV x u) (q:RelV y u):x=y:=Option.some.inj (r.abs.symm.trans q.abs)
theorem Vals.inj:∀ {xs ys:List V}{us:List Value},Vals xs us→Vals ys us→xs=ys
 | _,_,_,.nil,.nil=>rfl
 | _,_,_,.cons r t,.cons r' t'=>by rw[r.inj r',Vals.inj t t']
section
variable {X:Cx}{pins:List (Addr×Obj)}{σ:St}{H:Hp}{s:Shared}{a:Addr}{xs ys:List V}
theorem SqL.of {K:PySem.W.Frag} (h:H a=some (.lst xs)):SqL K H a xs:=.inl (.inl h)
theorem SqT.of {K:PySem.W.Frag} (h:H a=some (.tup xs)):SqT K H a xs:=.inl (.inl h)
theorem Inv.list (I:Inv X pins σ H s) (h:SqL X.K H a xs):∃ its:List Value,Vals xs its∧PlainL s.heap a its.toArray∧xs.length≤sizeLine:=by
 rcases h with h|⟨o,its,n,hk,hc,hd,hs,hz,r⟩
 ·obtain ⟨z,its,n,r,e⟩:=h.ok I.hok
  exact ⟨its,r,⟨_,n,e,rfl,rfl,rfl⟩,z⟩
 ·refine ⟨its.toList,r,⟨o,n,I.kIn a o hk,hc,hd,by simpa using hs⟩,?_⟩
  have e:=r.length
  simp only[Array.length_toList] at e
  omega
theorem Inv.tuple (I:Inv X pins σ H s) (h:SqT X.K H a xs):∃ its:List Value,Vals xs its∧IsTup s.heap a its.toArray∧xs.length≤sizeLine:=by
 rcases h with h|⟨o,its,n,hk,hc,hs,hz,r⟩
 ·obtain ⟨z,its,r,p⟩:=h.ok I.hok
  exact ⟨its,r,p,z⟩
 ·refine ⟨its.toList,r,⟨o,I.kIn a o hk,hc,n,by simpa using hs⟩,?_⟩
  have e:=r.length
  simp only[Array.length_toList] at e
  omega
theorem Inv.list_inj (I:Inv X pins σ H s) (h:SqL X.K H a xs) (h':SqL X.K H a ys):xs=ys:=by
 obtain ⟨its,r,⟨o,n,e,_,_,d⟩,_⟩:=I.list h
 obtain ⟨its',r',⟨o',n',e',_,_,d'⟩,_⟩:=I.list h'
 rw[e] at e';cases e'
 rw[d] at d'
 injection d' with d1 _
 have:its=its':=by simpa using congrArg Array.toList d1
 subst this
 exact r.inj r'
end
abbrev Cx.wish (X:Cx) (E:Value→Shared→Prop):Cx:={ X with xe:=E }
abbrev Cx.nox (X:Cx):Cx:=X.wish fun _ _=>False
theorem Cx.Ok.wish {X:Cx} (ok:X.Ok) (E:Value→Shared→Prop):(X.wish E).Ok:=
 ⟨ok.mod,ok.kind,ok.glob,ok.blt,ok.above,ok.inj,ok.has,ok.cab,ok.hd,ok.frames,ok.stk,ok.exf,ok.bs,ok.bsz,ok.noex,ok.exfs,ok.funs,ok.frf⟩
theorem Cx.Ok.unwish {X:Cx}{E:Value→Shared→Prop} (ok:(X.wish E).Ok):X.Ok:=
 ⟨ok.mod,ok.kind,ok.glob,ok.blt,ok.above,ok.inj,ok.has,ok.cab,ok.hd,ok.frames,ok.stk,ok.exf,ok.bs,ok.bsz,ok.noex,ok.exfs,ok.funs,ok.frf⟩
section
variable {X:Cx}{pins:List (Addr×Obj)}{σ:St}{H:Hp}{s:Shared}{E:Value→Shared→Prop}
theorem Inv.wish (I:Inv X pins σ H s) (E:Value→Shared→Prop):Inv (X.wish E) pins σ H s:=⟨I.ok.wish E,I.os,I.bare,I.base,I.loc,I.cell,I.free,I.freeC,I.pin,I.hok,I.len⟩
theorem Inv.unwish (I:Inv (X.wish E) pins σ H s):Inv X pins σ H s:=⟨I.ok.unwish,I.os,I.bare,I.base,I.loc,I.cell,I.free,I.freeC,I.pin,I.hok,I.len⟩
theorem SP.unwish {D:Ends}{f:Flow}{s':Shared} (h:SP (X.wish E) pins D f s'):SP X pins D f s':=by
 cases f with
 | next=>obtain ⟨σ',H',I,q⟩:=h;exact ⟨σ',H',I.unwish,q⟩
 | brk=>obtain ⟨σ',H',I,q⟩:=h;exact ⟨σ',H',I.unwish,q⟩
 | cont=>obtain ⟨σ',H',I,q⟩:=h;exact ⟨σ',H',I.unwish,q⟩
 | ret u=>obtain ⟨v,σ',H',I,r,q⟩:=h;exact ⟨v,σ',H',I.unwish,r,q⟩
theorem PSs.nox {st:List Stmt}{t:TS} (h:PSs X.nox st t):PSs X st t:=fun pins s σ H D I hw=>
 wpAny_mono (h pins s σ H D (I.wish _) hw) (fun _ _ q=>q.unwish) fun _ _ z=>False.elim z
end
section
variable {X:Cx}{st:Stmt}{rest:List Stmt}{t u:TS}{e:Expr}{te:TE}{pos:Pos}
def tNext:TS:=fun D σ H=>D.nx σ H
def tSeq (t u:TS):TS:=fun D σ H=>t { D with nx:=u D } σ H
theorem pss_nil:PSs X [] tNext:=fun _ _ σ H _ I h=>wpAny_execs_nil ⟨σ,H,I,h⟩
theorem ya1 (h1:PS X st t) (h2:PSs X rest u):PSs X (st::rest) (tSeq t u):=by
 intro pins s σ H D I h
 refine wpAny_execs_cons (thn (h1 pins s σ H { D with nx:=u D } I h) fun f s1 q=>?_)
 cases f with
 | next=>
  obtain ⟨σ',H',I',q⟩:=q
  exact h2 pins s1 σ' H' D I' q
 | ret v=>exact q
 | brk=>exact q
 | cont=>exact q
theorem ybt (h1:PS X st t):PSs X [st] t:=by
 intro pins s σ H D I h
 refine wpAny_execs_cons (thn (h1 pins s σ H D I h) fun f s1 q=>?_)
 cases f with
 | next=>exact wpAny_execs_nil q
 | ret v=>exact q
 | brk=>exact q
 | cont=>exact q
theorem Inv.quiet {pins:List (Addr×Obj)}{σ:St}{H:Hp}{s:Shared} (I:Inv X pins σ H s):interactive X.env=false:=by simp[interactive,I.ok.kind]
def tDrop (te:TE):TS:=fun D σ H=>te σ H fun _ H1=>D.nx σ H1
theorem yc4 (he:PE X e te) (hs:swapsWith e none pos.line X.env=pure false:=by rfl):PS X (.Expr e pos) (tDrop te):=by
 intro pins s σ H D I h
 exact wpAny_Expr_any (thn (he pins s σ H _ I h) fun v s1 ⟨x,H1,I1,r1,q1⟩=>⟨σ,H1,I1,q1⟩) I.quiet hs
def tRet (te:TE):TS:=fun D σ H=>te σ H D.rt
theorem ps_ret (he:PE X e te):PS X (.Return (some e) pos) (tRet te):=by
 intro pins s σ H D I h
 exact wpAny_Return_some (thn (he pins s σ H _ I h) fun v s1 ⟨x,H1,I1,r1,q1⟩=>⟨x,σ,H1,I1,r1,q1⟩)
def tIfS (c:TT) (t u:TS):TS:=fun D σ H=>c σ H fun b H1=>if b=true then t D σ H1 else u D σ H1
theorem ps_if {c:Expr}{a b:List Stmt}{tc:TT} (hc:PT X c tc) (ha:PSs X a t) (hb:PSs X b u):PS X (.If c a b pos) (tIfS tc t u):=by
 intro pins s σ H D I h
 refine wpAny_If (thn (hc pins s σ H _ I h) fun d s1 ⟨H1,I1,q1⟩=>?_)
 cases d with
 | true=>exact ha pins s1 σ H1 D I1 q1
 | false=>exact hb pins s1 σ H1 D I1 q1
end
abbrev TG:=V→St→Hp→(St→Hp→Prop)→Prop
abbrev TGs:=List V→St→Hp→(St→Hp→Prop)→Prop
def PG (X:Cx) (target:Expr) (t:TG):Prop:=
 ∀ (pins:List (Addr×Obj)) (s:Shared) (σ:St) (H:Hp) (v:V) (u:Value) (Q:St→Hp→Prop),Inv X pins σ H s→RelV v u→t v σ H Q→
  wpAny (model X.prog X.w) X.A (assign target X.env u) (fun _ s'=>∃ σ' H',Inv X pins σ' H' s'∧Q σ' H') X.xe s
def PGs (X:Cx) (ts:List Expr) (t:TGs):Prop:=
 ∀ (pins:List (Addr×Obj)) (s:Shared) (σ:St) (H:Hp) (vs:List V) (us:List Value) (Q:St→Hp→Prop),Inv X pins σ H s→Vals vs us→t vs σ H Q→
  wpAny (model X.prog X.w) X.A (assignInOrder ((assignEach ts X.env).map (·.2)) us) (fun _ s'=>∃ σ' H',Inv X pins σ' H' s'∧Q σ' H') X.xe s
section
variable {X:Cx}{pos:Pos}
def gName (i:Nat):TG:=fun v σ H Q=>Q (σ.set i (some v)) H
theorem yaf {i:Nat}{x:Str} (hN:X.N.Nodup) (hi:X.N[i]?=some x) (hx:Loc X.env.scope x) (hf:X.fn x=true∨X.env.scope.names.lookup x=some .local:=by first|exact .inl rfl|exact .inr rfl|assumption):PG X (.Name x pos) (gName i):=by
 intro pins s σ H v u Q I r h
 exact wpAny_assign_Name (ydb I hN hi hx r (fun s' I'=>⟨_,H,I',h⟩) hf)
def gNil:TGs:=fun vs σ H Q=>vs=[]∧Q σ H
def gCons (t:TG) (u:TGs):TGs:=fun vs σ H Q=>∃ v r,vs=v::r∧t v σ H fun σ' H'=>u r σ' H' Q
theorem qbn:PGs X [] gNil:=by
 intro pins s σ H vs us Q I r h
 obtain ⟨e,h⟩:=h
 subst e
 cases r
 exact assignInOrder_nil ⟨σ,H,I,h⟩
theorem qao {e:Expr}{es:List Expr}{t:TG}{u:TGs} (h1:PG X e t) (h2:PGs X es u)
  (hs:(assignEach (e::es) X.env).map (·.2)=assign e X.env::(assignEach es X.env).map (·.2):=by rfl):PGs X (e::es) (gCons t u):=by
 intro pins s σ H vs us Q I r h
 obtain ⟨v,vr,e1,h⟩:=h
 subst e1
 cases r with
 | cons r rr=>
  rw[hs]
  refine assignInOrder_cons (thn (h1 pins s σ H _ _ _ I r h) fun _ s1 ⟨σ1,H1,I1,q1⟩=>?_)
  exact h2 pins s1 σ1 H1 _ _ Q I1 rr q1
def gTup (K:PySem.W.Frag) (n:Nat) (t:TGs):TG:=fun v σ H Q=>∃ a xs,v=.ref a∧SqT K H a xs∧xs.length=n∧t xs σ H Q
theorem yco {es:List Expr}{k:Nat}{t:TGs}{n:Nat} (hc:X.calm=true) (h:PGs X es t)
  (hn:(assignEach es X.env).length=n:=by rfl) (hst:(assignEach es X.env).findIdx? (·.1)=none:=by rfl):PG X (.Tuple es k pos) (gTup X.K n t):=by
 intro pins s σ H v u Q I r hw
 obtain ⟨a,xs,e1,hq,hl,hw⟩:=hw
 subst e1
 cases r
 obtain ⟨its,rv,ht,hz⟩:=I.tuple hq
 refine assign_Tuple_tuple (I.ok.hd hc) ht (by simp[hn,← hl,rv.length]) hst fun h' hx=>?_
 have I1:Inv X pins σ H { s with heap:=h' }:=I.kept (t':=s.toks) fun b o e=>hx b o (Nat.ne_of_lt (Heap.lt_size e)) e
 exact h pins _ σ H xs _ Q I1 (by simpa using rv) hw
def tAsg (te:TE) (g:TG):TS:=fun D σ H=>te σ H fun x H1=>g x σ H1 D.nx
theorem ps_asg {tg e:Expr}{te:TE}{g:TG} (he:PE X e te) (hg:PG X tg g) (hs:swapsWithSole [tg] e pos.line X.env=pure false:=by rfl) (hw:swappedStores [tg] e X.env=pure none:=by rfl)
  (h1:(assignEach [tg] X.env).map (·.2)=[assign tg X.env]:=by rfl):PS X (.Assign [tg] e pos) (tAsg te g):=by
 intro pins s σ H D I h
 refine wpAny_Assign_stores (thn (he pins s σ H _ I h) fun v s1 ⟨x,H1,I1,r1,q1⟩=>?_) hs hw
 rw[h1]
 exact thn (hg pins s1 σ H1 x v _ I1 r1 q1) fun _ s2 q=>q
theorem ybz {i:Nat}{x:Str}{e:Expr}{te:TE}{pos':Pos} (hN:X.N.Nodup) (hi:X.N[i]?=some x) (hx:Loc X.env.scope x) (he:PE X e te) (hs:swapsWith e (some (.Name x pos')) pos.line X.env=pure false:=by rfl) (hf:X.fn x=true∨X.env.scope.names.lookup x=some .local:=by first|exact .inl rfl|exact .inr rfl|assumption) :
  PS X (.Assign [.Name x pos'] e pos) (tAsg te (gName i)):=by
 intro pins s σ H D I h
 refine wpAny_Assign_Name (thn (he pins s σ H _ I h) fun v s1 ⟨y,H1,I1,r1,q1⟩=>?_) hs
 exact ydb I1 hN hi hx r1 (fun s2 I2=>⟨_,H1,I2,q1⟩) hf
end
structure It where
 go:Nat→Hp→Prop
 yld:Nat→Hp→V→Hp→Prop
 stop:Nat→Hp→Prop
def FpOk (X:Cx) (pins:List (Addr×Obj)) (H:Hp) (b:Addr):Prop:=
 H b=none∧b≠X.env.locals∧b∉X.fs∧(b∈X.ex∨X.s₀.heap.objs.size≤b)∧(∀ x c,X.env.cells.lookup x=some c→c≠b)∧∀ p∈X.pn++pins,p.1≠b
theorem Inv.fpOk {X:Cx}{pins:List (Addr×Obj)}{σ:St}{H H':Hp}{s:Shared}{b:Addr} (I:Inv X pins σ H s) (hb:s.heap.objs.size≤b) (hn:H' b=none):FpOk X pins H' b:=by
 refine ⟨hn,Nat.ne_of_gt (Nat.lt_of_lt_of_le I.lt hb),I.nofs hb,.inr (Nat.le_trans I.sz hb),fun x c e z=>?_,fun p hp z=>?_⟩
 ·obtain ⟨v,q⟩:=I.cell x c e
  exact absurd (Nat.lt_of_lt_of_le q.lt (by rw[z];exact hb)) (Nat.lt_irrefl _)
 ·exact absurd (Nat.lt_of_lt_of_le (Heap.lt_size (I.pin p hp).1) (by rw[z];exact hb)) (Nat.lt_irrefl _)
structure Turn (P:Program) (w:World) (K:PySem.W.Frag) (tg:Expr) (J:It) (fp:List Addr) (it:Addr) (tn:Nat→Heap→Prop):Prop where
 mem:it∈fp
 obj:∀ i h,tn i h→∀ b∈fp,∃ o,h.get? b=some o∧∀ v,o.data≠.cell v
 keep:∀ i h h',tn i h→(∀ b∈fp,∀ o,h.get? b=some o→h'.get? b=some o)→tn i h'
 item:∀ (X:Cx),X.prog=P→X.w=w→X.K=K→X.calm=true→∀ (i:Nat) (pins:List (Addr×Obj)) (s:Shared) (σ:St) (H:Hp) (E:Value→Shared→Prop),Inv X pins σ H s→(∀ b∈fp,FpOk X pins H b)→tn i s.heap→J.go i H→
  wpAny (model P w) X.A (pyNext (.ref it)) (fun r s1=>∃ u,r=some u∧
   wpAny (model P w) X.A (letOwnedTupleGo tg (.ref it) u) (fun _ s2=>∃ x H',Inv X pins σ H' s2∧RelV x u∧J.yld i H x H'∧tn (i+1) s2.heap∧∀ b∈fp,H' b=none) E s1) E s
 done:∀ (X:Cx),X.prog=P→X.w=w→X.K=K→X.calm=true→∀ (i:Nat) (pins:List (Addr×Obj)) (s:Shared) (σ:St) (H:Hp) (E:Value→Shared→Prop),Inv X pins σ H s→(∀ b∈fp,FpOk X pins H b)→tn i s.heap→J.stop i H→
  wpAny (model P w) X.A (pyNext (.ref it)) (fun r s1=>r=none∧Inv X pins σ H s1) E s
 self:∀ (A:Around) (i:Nat) (s:Shared) (Q:Value→Shared→Prop) (E:Value→Shared→Prop),tn i s.heap→Q (.ref it) s→wpAny (model P w) A (pyIter (.ref it)) Q E s
abbrev TI:=St→Hp→(It→Hp→Prop)→Prop
def PIE (X:Cx) (pins:List (Addr×Obj)) (σ:St) (tg:Expr) (R:It→Hp→Prop) (itv:Value) (s2:Shared):Prop:=
 ∃ (it:Addr) (fp:List Addr) (tn:Nat→Heap→Prop) (J:It) (H':Hp),itv=.ref it∧Inv X pins σ H' s2∧Turn X.prog X.w X.K tg J fp it tn∧tn 0 s2.heap∧(∀ b∈fp,FpOk X pins H' b)∧R J H'
def PI (X:Cx) (tg iter:Expr) (wi:TI):Prop:=
 ∀ (pins:List (Addr×Obj)) (s:Shared) (σ:St) (H:Hp) (R:It→Hp→Prop),Inv X pins σ H s→wi σ H R→
  wpAny (model X.prog X.w) X.A (eval iter X.env) (fun v s1=>wpAny (model X.prog X.w) X.A (pyIter v) (PIE X pins σ tg R) X.xe s1) X.xe s
theorem go_of {M:Model}{A:Around}{E:Value→Shared→Prop}{s:Shared}{tg:Expr}{it:Addr}{u:Value}{o:Obj}{n:String}{vs:Array Value}{Q:Unit→Shared→Prop} (ho:s.heap.get? it=some o) (hc:o.cls=.type n) (hd:o.data=.fields vs)
    (hn:["enumerate","zip","dict_itemiterator","dict_reverseitemiterator","odict_iterator","itertools.zip_longest","itertools.pairwise"].contains n=false) (hQ:Q () s):wpAny M A (letOwnedTupleGo tg (.ref it) u) Q E s:=by
  unfold letOwnedTupleGo
  cases tg<;>first
    | exact wpAny_pure hQ
    | (cases u<;>first
        | exact wpAny_pure hQ
        | (refine wpAny_bind (wpAny_load ho ?_)
           rw[hc,hd]
           show wpAny M A (if (["enumerate","zip","dict_itemiterator","dict_reverseitemiterator","odict_iterator","itertools.zip_longest","itertools.pairwise"].contains n&&vs[0]? == some (rawInt _))=true then _ else _) Q E s
           rw[if_neg (by intro h;rw[hn,Bool.false_and] at h;cases h)]
           exact wpAny_pure hQ))
def Itl (K:PySem.W.Frag) (a:Addr):It:=
 ⟨fun i H=>∃ xs x,SqL K H a xs∧xs[i]?=some x,fun i H x H'=>H'=H∧∀ xs,SqL K H a xs→xs[i]?=some x,fun i H=>∃ xs,SqL K H a xs∧xs.length≤i⟩
def Itr (lo:Int) (n:Nat):It:=⟨fun i _=>i<n,fun i H x H'=>H'=H∧x=.int (lo+i),fun i _=>n≤i⟩
theorem ydn {P:Program}{w:World}{K:PySem.W.Frag}{tg:Expr} (a it:Addr):Turn P w K tg (Itl K a) [it] it (fun i h=>h.IsListIter it a i) where
 mem:=by simp
 obj:=fun i h st b hb=>by
  have e:b=it:=by simpa using hb
  subst e
  obtain ⟨o,e,c,d⟩:=st
  exact ⟨o,e,fun v z=>by rw[d] at z;cases z⟩
 keep:=fun i h h' st k=>st.at fun o e=>k it (by simp) o e
 item:=by
  intro X hP hw hK hc i pins s σ H E I hf st hg
  subst hP hw hK
  obtain ⟨xs,x,hq,hx⟩:=hg
  obtain ⟨its,rv,p,hz⟩:=I.list hq
  obtain ⟨u,hu,ru⟩:=rv.get hx
  obtain ⟨f0,f1,f2,f3,f4,f5⟩:=hf it (by simp)
  refine wpAny_pyNext_list_item st p.isList (x:=u) (by simpa using hu) fun h' st' sb=>?_
  have I1:Inv X pins σ H { s with heap:=h' }:=I.turned (t':=s.toks) (fun b o hb e=>(sb.2 b hb).trans e) f0 f1 f3 f4 f5
  obtain ⟨o,e,c,d⟩:=id st'
  exact ⟨u,rfl,go_of (s:={ s with heap:=h' }) e c d (by decide) ⟨x,H,I1,ru,⟨rfl,fun ys hy=>by rw[I.list_inj hy hq];exact hx⟩,st',fun b hb=>(hf b hb).1⟩⟩
 done:=by
  intro X hP hw hK hc i pins s σ H E I hf st hg
  subst hP hw hK
  obtain ⟨xs,hq,hx⟩:=hg
  obtain ⟨its,rv,p,hz⟩:=I.list hq
  obtain ⟨f0,f1,f2,f3,f4,f5⟩:=hf it (by simp)
  have hl:=rv.length
  exact wpAny_pyNext_list_end (I.ok.hd hc) st p.isList (by simp;omega) fun h' eb=>⟨rfl,I.turned (t':=s.toks) (fun b o hb e=>eb b o hb e) f0 f1 f3 f4 f5⟩
 self:=fun _ _ _ _ _ st h=>wpAny_pyIter_listiter st h
theorem qde {P:Program}{w:World}{K:PySem.W.Frag}{tg:Expr} (it:Addr) (lo:Int) (n:Nat):Turn P w K tg (Itr lo n) [it] it (fun i h=>IsRangeIter h it (lo+(i:Nat)*1) ((n:Int)-(i:Nat)) 1) where
 mem:=by simp
 obj:=fun i h st b hb=>by
  have e:b=it:=by simpa using hb
  subst e
  exact ⟨_,st,fun v z=>by
   have z':Data.fields _=Data.cell v:=z
   cases z'⟩
 keep:=fun i h h' st k=>k it (by simp) _ st
 item:=by
  intro X hP hw hK hc i pins s σ H E I hf st hg
  subst hP hw hK
  obtain ⟨f0,f1,f2,f3,f4,f5⟩:=hf it (by simp)
  have W:=Walks.range (prog:=X.prog) (w:=X.w) (I.ok.hd hc) it lo 1 n
  refine W.item i s _ _ hg st fun v h' tk hv st' kk=>?_
  obtain ⟨t,rfl⟩:=hv
  have I1:Inv X pins σ H { s with heap:=h',toks:=tk }:=I.turned (fun b o hb e=>kk b o (by simpa using hb) e) f0 f1 f3 f4 f5
  refine ⟨_,rfl,go_of (s:={ s with heap:=h',toks:=tk }) (n:="range_iterator") st' rfl rfl (by decide) ⟨.int (lo+i),H,I1,⟨t,?_⟩,⟨rfl,rfl⟩,st',fun b hb=>(hf b hb).1⟩⟩
  rw[Int.mul_one]
 done:=by
  intro X hP hw hK hc i pins s σ H E I hf st hg
  subst hP hw hK
  obtain ⟨f0,f1,f2,f3,f4,f5⟩:=hf it (by simp)
  exact wpAny_pyNext_range_end (I.ok.hd hc) st (by have:n≤i:=hg;omega) fun h' eb=>⟨rfl,I.turned (t':=s.toks) (fun b o hb e=>eb b o hb e) f0 f1 f3 f4 f5⟩
 self:=fun _ _ _ _ _ st h=>wpAny_pyIter_rangeiter st h
section
variable {X:Cx}{tg:Expr}
def iList (K:PySem.W.Frag) (tl:TE):TI:=fun σ H R=>tl σ H fun x H1=>∃ a,x=.ref a∧(∃ xs,SqL K H1 a xs)∧R (Itl K a) H1
theorem yca {l:Expr}{tl:TE} (hl:PE X l tl):PI X tg l (iList X.K tl):=by
 intro pins s σ H R I h
 refine thn (hl pins s σ H _ I h) fun v s1 ⟨x,H1,I1,r1,q1⟩=>?_
 obtain ⟨a,e,⟨xs,hq⟩,q⟩:=q1
 subst e
 cases r1
 obtain ⟨its,rv,p,hz⟩:=I1.list hq
 refine wpAny_pyIter_list p.isList ?_
 refine ⟨s1.heap.objs.size,[s1.heap.objs.size],_,_,H1,rfl,I1.kept (t':=s1.toks) fun b o e=>Heap.get?_push_of_some _ e,ydn a _,⟨_,Heap.get?_push_size _ rfl,rfl,rfl⟩,fun b hb=>?_,q⟩
 have e:b=s1.heap.objs.size:=by simpa using hb
 subst e
 exact I1.fpOk (Nat.le_refl _) (I1.hok.fresh (Nat.le_refl _))
theorem range_it {pins:List (Addr×Obj)}{σ:St}{H:Hp}{s:Shared}{R:It→Hp→Prop}{E:Value→Shared→Prop}{lo hi:Int}{t u v:Tok}{tk:Nat} (I:Inv X pins σ H s) (h1:-(2 ^ 62)≤lo) (h2:lo<2 ^ 62) (h3:-(2 ^ 62)≤hi) (h4:hi<2 ^ 62)
  (q:R (Itr lo (hi-lo).toNat) H):wpAny (model X.prog X.w) X.A (pyIter (.ref s.heap.objs.size)) (PIE X pins σ tg R) E { s with heap:=s.heap.push { cls:=.type "range",data:=.fields #[.int lo t,.int hi u,.int 1 v] },toks:=tk }:=by
 refine wpAny_pyIter_range (IsRange.new ..) (small_one h1 h2 h3 h4) ?_
 have I1:Inv X pins σ H { s with heap:=s.heap.push { cls:=.type "range",data:=.fields #[.int lo t,.int hi u,.int 1 v] },toks:=tk }:=I.kept fun b o e=>Heap.get?_push_of_some _ e
 refine ⟨(s.heap.push { cls:=.type "range",data:=.fields #[.int lo t,.int hi u,.int 1 v] }).objs.size,[(s.heap.push { cls:=.type "range",data:=.fields #[.int lo t,.int hi u,.int 1 v] }).objs.size],_,_,H,rfl,
  I1.kept (t':=tk) fun b o e=>Heap.get?_push_of_some _ e,qde _ lo (hi-lo).toNat,?_,fun b hb=>?_,q⟩
 ·have e1:lo+((0:Nat):Int)*1=lo:=by simp
  have e2:(((hi-lo).toNat:Nat):Int)-((0:Nat):Int)=Builtin.Range.rangeSize lo hi 1:=by rw[rangeSize_one];split<;>omega
  show IsRangeIter _ _ (lo+((0:Nat):Int)*1) ((((hi-lo).toNat:Nat):Int)-((0:Nat):Int)) 1
  rw[e1,e2]
  exact Heap.get?_push_size _ rfl
 ·have e:b=(s.heap.push { cls:=.type "range",data:=.fields #[.int lo t,.int hi u,.int 1 v] }).objs.size:=by simpa using hb
  subst e
  exact I1.fpOk (Nat.le_refl _) (I1.hok.fresh (Nat.le_refl _))
def iRng1 (ta:TA):TI:=fun σ H R=>ta σ H fun vs H1=>∃ j:Int,vs=[.int j]∧-(2 ^ 62)≤j∧j<2 ^ 62∧R (Itr 0 j.toNat) H1
theorem ybf {a:Expr}{ta:TA}{p pos:Pos} (hg:Gl X "range") (hm:X.mg "range" = none) (ha:PA X [a] ta) (hs:starEach [a] X.env=[(false,eval a X.env)]:=by rfl):PI X tg (.Call (.Name "range" p) [a] [] pos) (iRng1 ta):=by
 intro pins s σ H R I h
 refine Call_ (ycl I hg hm boot_range (PyProof.Rows.callWith_type1 (thn (ha pos pins s σ H _ I h) fun us s1 ⟨vs,H1,I1,r1,q1⟩=>?_) hs rfl))
 obtain ⟨j,e,q1,q2,q⟩:=q1
 subst e
 cases r1 with
 | cons r rr=>
  cases rr
  obtain ⟨t,rfl⟩:=r
  exact call_range_1 (range_it I1 (by omega) (by omega) q1 q2 (by simpa using q))
def tFor (wi:TI) (g:TG) (tb:TS):TS:=fun D σ H=>wi σ H fun J H1=>∃ W:Nat→Nat→St→Hp→Prop,(∃ m,W 0 m σ H1)∧∀ i m σ H,W i m σ H→
 (J.stop i H∧D.nx σ H)∨(J.go i H∧∃ N:St→Hp→Prop,(∀ σ' H',N σ' H'→∃ m',m' < m∧W (i+1) m' σ' H')∧∀ x H',J.yld i H x H'→g x σ H' fun σ2 H2=>tb { D with nx:=N,ct:=N,bk:=D.nx } σ2 H2)
def ycs (fp:List Addr) (h:Heap):List (Addr×Obj):=fp.filterMap fun b=>(h.get? b).map fun o=>(b,o)
theorem qa9 {fp:List Addr}{h:Heap}{b:Addr}{o:Obj} (hb:b∈fp) (e:h.get? b=some o):(b,o)∈ycs fp h:=List.mem_filterMap.mpr ⟨b,hb,by rw[e];rfl⟩
theorem qd4 {fp:List Addr}{h:Heap}{p:Addr×Obj} (hp:p∈ycs fp h):p.1∈fp∧h.get? p.1=some p.2:=by
 obtain ⟨b,hb,e⟩:=List.mem_filterMap.mp hp
 cases q:h.get? b with
 | none=>rw[q] at e;cases e
 | some o=>
  rw[q] at e
  have e':(b,o)=p:=Option.some.inj e
  subst e'
  exact ⟨hb,q⟩
theorem Inv.pinned {pins:List (Addr×Obj)}{σ:St}{H:Hp}{s:Shared}{fp:List Addr} (I:Inv X pins σ H s) (hf:∀ b∈fp,FpOk X pins H b) (ho:∀ b∈fp,∃ o,s.heap.get? b=some o∧∀ v,o.data≠.cell v):Inv X (pins++ycs fp s.heap) σ H s:=
 I.pins_of fun p hp=>(List.mem_append.mp hp).elim (fun z=>I.pin p (List.mem_append_right _ z)) fun z=>by
  obtain ⟨hb,e⟩:=qd4 z
  obtain ⟨f0,f1,f2,_⟩:=hf p.1 hb
  obtain ⟨o,e',d⟩:=ho p.1 hb
  rw[e] at e';cases e'
  exact ⟨e,f0,f1,f2,d⟩
theorem Inv.unpinned {pins pl:List (Addr×Obj)}{σ:St}{H:Hp}{s:Shared} (I:Inv X (pins++pl) σ H s):Inv X pins σ H s:=I.pins_of fun p hp=>I.pin p (List.mem_append_right _ (List.mem_append_left _ hp))
theorem ps_for {iter:Expr}{body:List Stmt}{wi:TI}{g:TG}{tb:TS}{pos:Pos} (hp:PassesOwn (model X.prog X.w) X.A X.env X.xe) (hc:X.calm=true) (hi:PI X tg iter wi) (hg:PG X tg g) (hb:PSs X body tb)
  (hs:∀ x,foldedSetIterable iter X.env x=pure x:=by intro _;rfl):PS X (.For tg iter body [] pos) (tFor wi g tb):=by
 intro pins s σ H D I h
 refine wpAny_For (thn (hi pins s σ H _ I h) fun v s1 h1=>thn h1 fun itv s2 h2=>?_) hs
 obtain ⟨it,fp,tn,J,H2,e,I2,T,st2,f2,W,⟨m0,w0⟩,turn⟩:=h2
 subst e
 -- what stays true of the iterator's objects through the loop
 have stat:∀ {H':Hp},(∀ b∈fp,H' b=none)→∀ b∈fp,FpOk X pins H' b:=fun hn b hb=>⟨hn b hb,(f2 b hb).2⟩
 refine codeAny_forLoop_any (fun n s'=>∃ i σ' H',Inv X pins σ' H' s'∧tn i s'.heap∧(∀ b∈fp,H' b=none)∧W i n σ' H') ?_ m0 ⟨0,σ,H2,I2,st2,fun b hb=>(f2 b hb).1,w0⟩
 rintro n s3 ⟨i,σ3,H3,I3,st3,fr3,w3⟩
 rcases turn i n σ3 H3 w3 with ⟨stop,qn⟩|⟨go,N,hN,step⟩
 ·refine wpAny_passesOwn hp (thn (T.done X rfl rfl rfl hc i pins s3 σ3 H3 X.xe I3 (stat fr3) st3 stop) fun r s4 ⟨hr,I4⟩=>?_)
  subst hr
  exact wpAny_execs_nil ⟨σ3,H3,I4,qn⟩
 ·refine wpAny_passesOwn hp (thn (T.item X rfl rfl rfl hc i pins s3 σ3 H3 X.xe I3 (stat fr3) st3 go) fun r s4 ⟨u,hr,h4⟩=>?_)
  subst hr
  refine wpAny_passesOwn hp (thn h4 fun _ s5 ⟨x,H5,I5,r5,y5,st5,fr5⟩=>?_)
  have I5':=I5.pinned (stat fr5) (T.obj _ _ st5)
  refine wpAny_passesOwn hp (thn (hg _ s5 σ3 H5 x u _ I5' r5 (step x H5 y5)) fun _ s6 ⟨σ6,H6,I6,q6⟩=>?_)
  refine wpAny_passesOwn hp (thn (hb _ s6 σ6 H6 _ I6 q6) fun f s7 q7=>?_)
  have again:∀ {σ7:St}{H7:Hp},Inv X (pins++ycs fp s5.heap) σ7 H7 s7→N σ7 H7→∃ m,m<n∧∃ i σ' H',Inv X pins σ' H' s7∧tn i s7.heap∧(∀ b∈fp,H' b=none)∧W i m σ' H':=fun {σ7 H7} I7 n7=>by
   obtain ⟨m',hm,w7⟩:=hN σ7 H7 n7
   refine ⟨m',hm,i+1,σ7,H7,I7.unpinned,T.keep _ _ _ st5 fun b hb o e=>(I7.pin (b,o) (List.mem_append_right _ (List.mem_append_right _ (qa9 hb e)))).1,fun b hb=>?_,w7⟩
   obtain ⟨o,e,d⟩:=T.obj _ _ st5 b hb
   exact (I7.pin (b,o) (List.mem_append_right _ (List.mem_append_right _ (qa9 hb e)))).2.1
  cases f with
  | next=>obtain ⟨σ7,H7,I7,n7⟩:=q7;exact again I7 n7
  | cont=>obtain ⟨σ7,H7,I7,n7⟩:=q7;exact again I7 n7
  | brk=>obtain ⟨σ7,H7,I7,q7⟩:=q7;exact ⟨σ7,H7,I7.unpinned,q7⟩
  | ret v=>obtain ⟨x7,σ7,H7,I7,r7,q7⟩:=q7;exact ⟨x7,σ7,H7,I7.unpinned,r7,q7⟩
end
theorem ybq {K:PySem.W.Frag}{a:Addr}{xs:List V}{g:TG}{tb:TS}{D:Ends}{σ:St}{H:Hp} (Pv:Nat→St→Hp→Prop) (h0:Pv 0 σ H) (hl:∀ i σ H,i≤xs.length→Pv i σ H→SqL K H a xs)
  (hs:∀ i x σ H,xs[i]?=some x→Pv i σ H→g x σ H fun σ2 H2=>tb { D with nx:=Pv (i+1),ct:=Pv (i+1),bk:=D.nx } σ2 H2) (hd:∀ σ H,Pv xs.length σ H→D.nx σ H) :
  ∃ W:Nat→Nat→St→Hp→Prop,(∃ m,W 0 m σ H)∧∀ i m σ H,W i m σ H→
   ((Itl K a).stop i H∧D.nx σ H)∨((Itl K a).go i H∧∃ N:St→Hp→Prop,(∀ σ' H',N σ' H'→∃ m',m' < m∧W (i+1) m' σ' H')∧∀ x H',(Itl K a).yld i H x H'→g x σ H' fun σ2 H2=>tb { D with nx:=N,ct:=N,bk:=D.nx } σ2 H2):=by
 refine ⟨fun i m σ H=>m=xs.length-i∧i≤xs.length∧Pv i σ H,⟨xs.length,by simp,Nat.zero_le _,h0⟩,?_⟩
 rintro i m σ H ⟨rfl,hi,p⟩
 have q:=hl i σ H hi p
 by_cases hlt:i<xs.length
 ·refine .inr ⟨⟨xs,xs[i],q,by simp[hlt]⟩,Pv (i+1),fun σ' H' p'=>⟨xs.length-(i+1),by omega,rfl,hlt,p'⟩,fun x H' y=>?_⟩
  obtain ⟨e,y⟩:=y
  subst e
  exact hs i x σ _ (y xs q) p
 ·have e:i=xs.length:=by omega
  subst e
  exact .inl ⟨⟨xs,q,Nat.le_refl _⟩,hd σ H p⟩
theorem qbj {lo:Int}{n:Nat}{g:TG}{tb:TS}{D:Ends}{σ:St}{H:Hp} (Pv:Nat→St→Hp→Prop) (h0:Pv 0 σ H)
  (hs:∀ i σ H,i<n→Pv i σ H→g (.int (lo+i)) σ H fun σ2 H2=>tb { D with nx:=Pv (i+1),ct:=Pv (i+1),bk:=D.nx } σ2 H2) (hd:∀ σ H,Pv n σ H→D.nx σ H) :
  ∃ W:Nat→Nat→St→Hp→Prop,(∃ m,W 0 m σ H)∧∀ i m σ H,W i m σ H→
   ((Itr lo n).stop i H∧D.nx σ H)∨((Itr lo n).go i H∧∃ N:St→Hp→Prop,(∀ σ' H',N σ' H'→∃ m',m' < m∧W (i+1) m' σ' H')∧∀ x H',(Itr lo n).yld i H x H'→g x σ H' fun σ2 H2=>tb { D with nx:=N,ct:=N,bk:=D.nx } σ2 H2):=by
 refine ⟨fun i m σ H=>m=n-i∧i≤n∧Pv i σ H,⟨n,by simp,Nat.zero_le _,h0⟩,?_⟩
 rintro i m σ H ⟨rfl,hi,p⟩
 by_cases hlt:i<n
 ·refine .inr ⟨hlt,Pv (i+1),fun σ' H' p'=>⟨n-(i+1),by omega,rfl,hlt,p'⟩,fun x H' y=>?_⟩
  obtain ⟨e,y⟩:=y
  subst e y
  exact hs i σ _ hlt p
 ·have e:i=n:=by omega
  subst e
  exact .inl ⟨Nat.le_refl _,hd σ H p⟩
abbrev R2:=V→V→Hp→VK→Prop
def OpR (X:Cx) (f:Value→Value→Sem Value) (r:R2):Prop:=
 ∀ (pins:List (Addr×Obj)) (s:Shared) (σ:St) (H:Hp) (x y:V) (v u:Value) (Q:VK),Inv X pins σ H s→RelV x v→RelV y u→r x y H Q→
  wpAny (model X.prog X.w) X.A (f v u) (EP X pins σ Q) X.xe s
def ybp (X:Cx) (f:Value) (r:List V→Hp→VK→Prop):Prop:=
 ∀ (pins:List (Addr×Obj)) (s:Shared) (σ:St) (H:Hp) (xs:List V) (us:List Value) (Q:VK),Inv X pins σ H s→Vals xs us→r xs H Q→
  wpAny (model X.prog X.w) X.A (call f us) (EP X pins σ Q) X.xe s
def tOp (r:R2) (ta tb:TE):TE:=fun σ H Q=>ta σ H fun x H1=>tb σ H1 fun y H2=>r x y H2 Q
def rI (C:Int→Int→Prop) (g:Int→Int→V):R2:=fun x y H Q=>∃ i j,x=.int i∧y=.int j∧C i j∧Q (g i j) H
def rI0 (g:Int→Int→V):R2:=fun x y H Q=>∃ i j,x=.int i∧y=.int j∧Q (g i j) H
section
variable {X:Cx}{a b c:Expr}{ta tb tc:TE}{pos:Pos}
theorem binT (ha:PE X a ta) (hb:PE X b tb) {pins:List (Addr×Obj)}{s:Shared}{σ:St}{H:Hp}{R:V→V→Hp→Prop} (I:Inv X pins σ H s)
  (h:ta σ H fun x H1=>tb σ H1 fun y H2=>R x y H2) {Q:Value→Shared→Prop}{f:Value→Value→Sem Value}
  (hf:∀ v u s2 x y H2,Inv X pins σ H2 s2→RelV x v→RelV y u→R x y H2→wpAny (model X.prog X.w) X.A (f v u) Q X.xe s2) :
  wpAny (model X.prog X.w) X.A (eval a X.env) (fun v s₁=>wpAny (model X.prog X.w) X.A (eval b X.env) (fun u s₂=>wpAny (model X.prog X.w) X.A (f v u) Q X.xe s₂) X.xe s₁) X.xe s:=by
 refine thn (ha pins s σ H _ I h) fun v s1 ⟨x,H1,I1,r1,q1⟩=>?_
 refine thn (hb pins s1 σ H1 _ I1 q1) fun u s2 ⟨y,H2,I2,r2,q2⟩=>?_
 exact hf v u s2 x y H2 I2 r1 r2 q2
theorem ybd {op:Operator}{r:R2} (ho:OpR X (binaryOp op) r) (ha:PE X a ta) (hb:PE X b tb):PE X (.BinOp a op b pos) (tOp r ta tb):=by
 intro pins s σ H Q I h
 exact wpAny_BinOp (binT ha hb I h fun v u s2 x y H2 I2 rx ry q=>ho pins s2 σ H2 x y v u Q I2 rx ry q)
theorem opI {f:Value→Value→Sem Value}{C:Int→Int→Prop}{g:Int→Int→Int}
  (rule:∀ (i j:Int) (t u:Tok) (s:Shared) (Q:Value→Shared→Prop) (E:Value→Shared→Prop),C i j→Q (.int (g i j) s.toks) { s with toks:=s.toks+1 }→wpAny (model X.prog X.w) X.A (f (.int i t) (.int j u)) Q E s) :
  OpR X f (rI C fun i j=>.int (g i j)):=by
 intro pins s σ H x y v u Q I rx ry h
 obtain ⟨i,j,rfl,rfl,hc,q⟩:=h
 obtain ⟨t,rfl⟩:=rx
 obtain ⟨t',rfl⟩:=ry
 exact rule i j t t' s _ _ hc ⟨.int (g i j),H,I.tok _,⟨_,rfl⟩,q⟩
theorem opI0 {f:Value→Value→Sem Value}{g:Int→Int→Int}
  (rule:∀ (i j:Int) (t u:Tok) (s:Shared) (Q:Value→Shared→Prop) (E:Value→Shared→Prop),Q (.int (g i j) s.toks) { s with toks:=s.toks+1 }→wpAny (model X.prog X.w) X.A (f (.int i t) (.int j u)) Q E s) :
  OpR X f (rI0 fun i j=>.int (g i j)):=by
 intro pins s σ H x y v u Q I rx ry h
 obtain ⟨i,j,rfl,rfl,q⟩:=h
 obtain ⟨t,rfl⟩:=rx
 obtain ⟨t',rfl⟩:=ry
 exact rule i j t t' s _ _ ⟨.int (g i j),H,I.tok _,⟨_,rfl⟩,q⟩
theorem opB0 {f:Value→Value→Sem Value}{g:Int→Int→Bool}
  (rule:∀ (i j:Int) (t u:Tok) (s:Shared) (Q:Value→Shared→Prop) (E:Value→Shared→Prop),Q (.bool (g i j)) s→wpAny (model X.prog X.w) X.A (f (.int i t) (.int j u)) Q E s) :
  OpR X f (rI0 fun i j=>.bl (g i j)):=by
 intro pins s σ H x y v u Q I rx ry h
 obtain ⟨i,j,rfl,rfl,q⟩:=h
 obtain ⟨t,rfl⟩:=rx
 obtain ⟨t',rfl⟩:=ry
 exact rule i j t t' s _ _ ⟨.bl (g i j),H,I,rfl,q⟩
def CDiv (i j:Int):Prop:=0<j∧j<1073741824
def CPow (i j:Int):Prop:=0≤j∧j≤1000000∧i.natAbs<2 ^ 64
def CMul (i j:Int):Prop:=(-(2 ^ 64)<i∧i<2 ^ 64)∨(-(2 ^ 64)<j∧j<2 ^ 64)
theorem CMul.ok {i j:Int} (h:CMul i j):IntMulOk i j:=by
 rcases h with ⟨h1,h2⟩|⟨h1,h2⟩
 ·exact .of_left (intBits_le_64 h1 h2)
 ·exact .of_right (intBits_le_64 h1 h2)
theorem ybi:OpR X (binaryOp .Add) (rI0 fun i j=>.int (i+j)):=opI0 fun _ _ _ _ _ _ _ q=>add_int q
theorem ydz:OpR X (binaryOp .Sub) (rI0 fun i j=>.int (i-j)):=opI0 fun _ _ _ _ _ _ _ q=>sub_int q
theorem qck:OpR X (binaryOp .Mult) (rI CMul fun i j=>.int (i*j)):=opI fun _ _ _ _ _ _ _ hc q=>mul_int q hc.ok
theorem qea:OpR X (binaryOp .FloorDiv) (rI CDiv fun i j=>.int (i / j)):=opI fun i j _ _ _ _ _ hc q=>by
 have h1:(0:Int)<j:=hc.1
 have h2:j<1073741824:=hc.2
 exact floordiv_int (by omega) (by rw[Int.fdiv_eq_ediv_of_nonneg i (by omega)];exact q) (.inl (PyProof.noPylong_small (by omega)))
theorem ybo:OpR X (binaryOp .Mod) (rI (fun _ j=>0<j) fun i j=>.int (i % j)):=opI fun i j _ _ _ _ _ hc q=>by
 have h1:(0:Int)<j:=hc
 exact mod_int' (by omega) (by rw[Int.fmod_eq_emod_of_nonneg i (by omega)];exact q)
theorem op_pow:OpR X (binaryOp .Pow) (rI CPow fun i j=>.int (i ^ j.toNat)):=opI fun _ _ _ _ _ _ _ hc q=>pow_int_small hc.1 hc.2.1 hc.2.2 q
end
def scal:V→V→Bool
 | .non,.non=>true | .non,.int _=>true | .int _,.non=>true | .non,.bl _=>true | .bl _,.non=>true | .non,.str _=>true | .str _,.non=>true
 | .int _,.int _=>true | .bl _,.bl _=>true | .str _,.str _=>true | .byt _,.byt _=>true
 | .int _,.str _=>true | .str _,.int _=>true | .bl _,.str _=>true | .str _,.bl _=>true
 | _,_=>false
def rEq:R2:=fun x y H Q=>scal x y=true∧Q (.bl (decide (x=y))) H
def rNe:R2:=fun x y H Q=>scal x y=true∧Q (.bl (!decide (x=y))) H
theorem qd7 {i j:Int}:decide (V.int i=V.int j)=(i == j):=by
 rw[Bool.eq_iff_iff]
 simp
theorem dec_bl {i j:Bool}:decide (V.bl i=V.bl j)=(i == j):=by
 rw[Bool.eq_iff_iff]
 simp
theorem yd3 {i j:Str}:decide (V.str i=V.str j)=(i == j):=by
 rw[Bool.eq_iff_iff]
 simp
theorem qdw {i j:Array UInt8}:decide (V.byt i=V.byt j)=(i.toList == j.toList):=by
 rw[Bool.eq_iff_iff]
 cases i
 cases j
 simp
section
variable {X:Cx}{a b c:Expr}{ta tb tc:TE}{pos:Pos}
theorem qah {pins:List (Addr×Obj)}{σ:St}{H:Hp}{s:Shared}{Q:VK}{k k':Bool} (I:Inv X pins σ H s) (q:Q (.bl k) H) (e:k=k'):EP X pins σ Q (.bool k') s:=by
 subst e
 exact ⟨.bl k,H,I,rfl,q⟩
theorem op_eq:OpR X (compareOp .Eq) rEq:=by
 intro pins s σ H x y v u Q I rx ry h
 obtain ⟨hs,q⟩:=h
 cases x with
 | non=>
  cases rx
  cases y with
  | non=>cases ry;exact PySem.EqNone.eq_none_none (qah I q (by simp))
  | bl j=>cases ry;exact PySem.EqNone.eq_none_bool (qah I q (by simp))
  | int j=>obtain ⟨t',rfl⟩:=ry;exact PySem.EqNone.eq_none_int (qah I q (by simp))
  | str j=>obtain ⟨t',rfl⟩:=ry;exact PySem.EqNone.eq_none_str (qah I q (by simp))
  | _=>exact absurd (show false=true from hs) Bool.false_ne_true
 | bl i=>
  cases rx
  cases y with
  | non=>cases ry;exact PySem.EqNone.eq_bool_none (qah I q (by simp))
  | bl j=>cases ry;exact eq_bool (qah I q dec_bl)
  | str j=>obtain ⟨t',rfl⟩:=ry;exact PySem.EqMixed.eq_bool_str (qah I q (by simp))
  | _=>exact absurd (show false=true from hs) Bool.false_ne_true
 | int i=>
  obtain ⟨t,rfl⟩:=rx
  cases y with
  | non=>cases ry;exact PySem.EqNone.eq_int_none (qah I q (by simp))
  | int j=>obtain ⟨t',rfl⟩:=ry;exact eq_int (qah I q qd7)
  | str j=>obtain ⟨t',rfl⟩:=ry;exact PySem.EqMixed.eq_int_str (qah I q (by simp))
  | _=>exact absurd (show false=true from hs) Bool.false_ne_true
 | str i=>
  obtain ⟨t,rfl⟩:=rx
  cases y with
  | non=>cases ry;exact PySem.EqNone.eq_str_none (qah I q (by simp))
  | bl j=>cases ry;exact PySem.EqMixed.eq_str_bool (qah I q (by simp))
  | int j=>obtain ⟨t',rfl⟩:=ry;exact PySem.EqMixed.eq_str_int (qah I q (by simp))
  | str j=>obtain ⟨t',rfl⟩:=ry;exact eq_str (qah I q yd3)
  | _=>exact absurd (show false=true from hs) Bool.false_ne_true
 | byt i=>
  obtain ⟨t,rfl⟩:=rx
  cases y with
  | byt j=>obtain ⟨t',rfl⟩:=ry;exact PySem.W.eq_bytes (qah I q qdw)
  | _=>exact absurd (show false=true from hs) Bool.false_ne_true
 | _=>cases y<;>exact absurd (show false=true from hs) Bool.false_ne_true
theorem op_ne:OpR X (compareOp .NotEq) rNe:=by
 intro pins s σ H x y v u Q I rx ry h
 obtain ⟨hs,q⟩:=h
 cases x with
 | non=>
  cases rx
  cases y with
  | non=>cases ry;exact PySem.EqNone.ne_none_none (qah I q (by simp))
  | bl j=>cases ry;exact PySem.EqNone.ne_none_bool (qah I q (by simp))
  | int j=>obtain ⟨t',rfl⟩:=ry;exact PySem.EqNone.ne_none_int (qah I q (by simp))
  | str j=>obtain ⟨t',rfl⟩:=ry;exact PySem.EqNone.ne_none_str (qah I q (by simp))
  | _=>exact absurd (show false=true from hs) Bool.false_ne_true
 | bl i=>
  cases rx
  cases y with
  | non=>cases ry;exact PySem.EqNone.ne_bool_none (qah I q (by simp))
  | bl j=>cases ry;exact ne_bool (qah I q (congrArg not dec_bl))
  | str j=>obtain ⟨t',rfl⟩:=ry;exact PySem.EqMixed.ne_bool_str (qah I q (by simp))
  | _=>exact absurd (show false=true from hs) Bool.false_ne_true
 | int i=>
  obtain ⟨t,rfl⟩:=rx
  cases y with
  | non=>cases ry;exact PySem.EqNone.ne_int_none (qah I q (by simp))
  | int j=>obtain ⟨t',rfl⟩:=ry;exact ne_int (qah I q (congrArg not qd7))
  | str j=>obtain ⟨t',rfl⟩:=ry;exact PySem.EqMixed.ne_int_str (qah I q (by simp))
  | _=>exact absurd (show false=true from hs) Bool.false_ne_true
 | str i=>
  obtain ⟨t,rfl⟩:=rx
  cases y with
  | non=>cases ry;exact PySem.EqNone.ne_str_none (qah I q (by simp))
  | bl j=>cases ry;exact PySem.EqMixed.ne_str_bool (qah I q (by simp))
  | int j=>obtain ⟨t',rfl⟩:=ry;exact PySem.EqMixed.ne_str_int (qah I q (by simp))
  | str j=>obtain ⟨t',rfl⟩:=ry;exact ne_str (qah I q (congrArg not yd3))
  | _=>exact absurd (show false=true from hs) Bool.false_ne_true
 | byt i=>
  obtain ⟨t,rfl⟩:=rx
  cases y with
  | byt j=>obtain ⟨t',rfl⟩:=ry;exact PySem.W.ne_bytes (qah I q (congrArg not qdw))
  | _=>exact absurd (show false=true from hs) Bool.false_ne_true
 | _=>cases y<;>exact absurd (show false=true from hs) Bool.false_ne_true
theorem op_lt:OpR X (compareOp .Lt) (rI0 fun i j=>.bl (decide (i<j))):=opB0 fun _ _ _ _ _ _ _ q=>lt_int q
theorem op_le:OpR X (compareOp .LtE) (rI0 fun i j=>.bl (decide (i≤j))):=opB0 fun _ _ _ _ _ _ _ q=>le_int q
theorem qdj:OpR X (compareOp .Gt) (rI0 fun i j=>.bl (decide (j<i))):=opB0 fun _ _ _ _ _ _ _ q=>gt_int q
theorem op_ge:OpR X (compareOp .GtE) (rI0 fun i j=>.bl (decide (j≤i))):=opB0 fun _ _ _ _ _ _ _ q=>ge_int q
theorem yaw (b:Expr) {op:CmpOp} (h:op≠.In:=by decide) (h2:op≠.NotIn:=by decide):behindInMarks op b=false:=by
 have e1:(op == CmpOp.In)=false:=by cases op<;>first|rfl|exact absurd rfl h
 have e2:(op == CmpOp.NotIn)=false:=by cases op<;>first|rfl|exact absurd rfl h2
 cases b<;>simp[behindInMarks,e1,e2]
theorem qd3 {op:CmpOp}{r:R2} (ho:OpR X (compareOp op) r) (ha:PE X a ta) (hb:PE X b tb) (hm:behindInMarks op b=false):PE X (.Compare a [op] [b] pos) (tOp r ta tb):=by
 intro pins s σ H Q I h
 exact wpAny_Compare1 (binT ha hb I h fun v u s2 x y H2 I2 rx ry q=>ho pins s2 σ H2 x y v u Q I2 rx ry q) hm
def tTest (t:TE):TT:=fun σ H Q=>t σ H fun x H'=>∃ k,x=.bl k∧Q k H'
theorem qbw {op:CmpOp}{r:R2} (ho:OpR X (compareOp op) r) (ha:PE X a ta) (hb:PE X b tb) (hm:behindInMarks op b=false):PT X (.Compare a [op] [b] pos) (tTest (tOp r ta tb)):=by
 intro pins s σ H Q I h
 refine wpAny_isTrue_Compare1 (thn (ha pins s σ H _ I h) fun v s1 ⟨x,H1,I1,r1,q1⟩=>thn (hb pins s1 σ H1 _ I1 q1) fun u s2 ⟨y,H2,I2,r2,q2⟩=>
  thn (ho pins s2 σ H2 x y v u _ I2 r1 r2 q2) fun c s3 ⟨z,H3,I3,r3,k,e,q3⟩=>?_) hm
 subst e
 cases r3
 exact wpAny_truthy_bool ⟨H3,I3,q3⟩
def tChain (r r':R2) (ta tb tc:TE):TE:=fun σ H Q=>ta σ H fun x H1=>tb σ H1 fun y H2=>r x y H2 fun z H3=>∃ k,z=.bl k∧
 (if k=true then tc σ H3 fun w' H4=>r' y w' H4 Q else Q (.bl false) H3)
theorem pt_chain {op op':CmpOp}{r r':R2} (ho:OpR X (compareOp op) r) (ho':OpR X (compareOp op') r') (ha:PE X a ta) (hb:PE X b tb) (hc:PE X c tc)
  (hm:lastMarks [op,op'] [b,c]=false:=by with_unfolding_all rfl):PT X (.Compare a [op,op'] [b,c] pos) (tTest (tChain r r' ta tb tc)):=by
 intro pins s σ H Q I h
 refine isTrue_chain (thn (ha pins s σ H _ I h) fun v s1 ⟨x,H1,I1,r1,q1⟩=>test_link (thn (hb pins s1 σ H1 _ I1 q1) fun u s2 ⟨y,H2,I2,r2,q2⟩=>
  thn (ho pins s2 σ H2 x y v u _ I2 r1 r2 q2) fun d s3 ⟨z,H3,I3,r3,k,e,q3⟩=>?_)) hm
 subst e
 cases r3
 refine wpAny_truthy_bool ?_
 cases k with
 | false=>
  obtain ⟨k',e',q'⟩:=q3
  cases e'
  exact ite_ff ⟨H3,I3,q'⟩
 | true=>
  refine ite_tt (test_last (thn (hc pins s3 σ H3 _ I3 q3) fun w' s4 ⟨z',H4,I4,r4,q4⟩=>thn (ho' pins s4 σ H4 y z' u w' _ I4 r2 r4 q4) fun d' s5 ⟨z2,H5,I5,r5,k2,e2,q5⟩=>?_))
  subst e2
  cases r5
  exact wpAny_truthy_bool ⟨H5,I5,q5⟩
theorem ydr:(sizeLine:Nat)<2 ^ 63:=by rw[sizeLine_eq];decide
theorem vals1 {x:V}{us:List Value} (r:Vals [x] us):∃ u,us=[u]∧RelV x u:=by
 cases r with
 | cons r1 r2=>cases r2;exact ⟨_,rfl,r1⟩
theorem call_abs:ybp X (.builtin "abs") (fun xs H Q=>∃ i,xs=[.int i]∧Q (.int (if i<0 then -i else i)) H):=by
 intro pins s σ H xs us Q I r h
 obtain ⟨i,rfl,q⟩:=h
 obtain ⟨u,rfl,t,rfl⟩:=vals1 r
 exact call_abs_int fun u tk=>⟨.int (if i<0 then -i else i),H,I.tok _,⟨_,rfl⟩,q⟩
end
structure ObjM (h:Heap) (x dx C:Addr) (mA:Str→Option Value):Prop where
 obj:h.get? x=some (PySem.W.instObj C dx)
 ns:h.Ns1 dx mA
 ne:dx≠x
theorem ydp {h:Heap}{dx:Addr}{mA:Str→Option Value} (n:h.Ns1 dx mA):∃ od,h.get? dx=some od∧∀ name,PySem.W.lookIn name od=some (mA name):=by
 obtain ⟨o,es,ep,ho,hd,hk,_,hm⟩:=n
 refine ⟨o,ho,fun name=>?_⟩
 have e:=hm name
 unfold nsFind findBy at e
 rw[← Array.find?_toList] at e
 unfold PySem.W.lookIn
 rw[hd]
 dsimp only
 split
 ·rename_i y q
  rw[q] at e
  exact congrArg some e
 ·rename_i q
  rw[q] at e
  have a:es.toList.any (·.refKey)=false:=by
   rw[List.any_eq_false]
   intro y hy
   obtain ⟨z,t,hkey⟩:=hk y (Array.mem_toList_iff.mp hy)
   simp[DictEntry.refKey,hkey]
  have a':¬ es.toList.any (·.refKey)=true:=by rw[a];exact Bool.false_ne_true
  rw[if_neg a']
  exact congrArg some e
theorem ObjM.look {h:Heap}{x dx C:Addr}{mA:Str→Option Value} (I:ObjM h x dx C mA):∃ od,PySem.W.InstAt h x (PySem.W.instObj C dx) C (some od)∧∀ name,PySem.W.lookIn name od=some (mA name):=
 let ⟨od,ho,hl⟩:=ydp I.ns
 ⟨od,⟨I.obj,rfl,rfl,ho⟩,hl⟩
theorem RelO.some_of {v:V}{o:Option Value} (r:RelO (some v) o):∃ u,o=some u∧RelV v u:=by
 cases o with
 | none=>exact (show False from r).elim
 | some u=>exact ⟨u,rfl,r⟩
section
variable {P:Program}{w:World}{H H':Hp}{h h':Heap}{a C dx:Addr}{fs fs':List (Str×V)}
theorem ins_get (hok:HOk P w H h) (e:H a=some (.ins C dx fs)):∃ mA,ObjM h a dx C mA∧(∀ f,RelO (fs.lookup f) (mA f))∧PySem.Within mA (fs.map (·.1))∧fs.length≤1000∧H dx=some (.own a):=by
 obtain ⟨d,z,ne,ob,mA,n,r,q⟩:=(show yak P w H h a (.ins C dx fs) from hok a _ e)
 exact ⟨mA,⟨ob,n,ne⟩,r,q,z,d⟩
end
structure Cls (K:PySem.W.Frag) (C:Addr):Prop where
 pg:PySem.W.plainGet K C Str.empty=true
 hd:PySem.W.hasDictIn K C=true
 po:PySem.W.plainOver K C=true
 sa:PySem.W.findIn K (.ref C) "__setattr__" = some (some (.builtin "object.__setattr__"))
theorem Cls.get {K:PySem.W.Frag}{C:Addr} (c:Cls K C) (f:Str):PySem.W.plainGet K C f=true:=c.pg
section
variable {X:Cx}{pins:List (Addr×Obj)}{σ:St}{H:Hp}{s:Shared}{A:Around}{E:Value→Shared→Prop}{Q:Value→Shared→Prop}{c:Value}{b:Bool}
inductive TyOf (K:PySem.W.Frag) (H:Hp):V→Value→Prop where
 | non:TyOf K H .non (.type "NoneType")
 | bl (x:Bool):TyOf K H (.bl x) (.type "bool")
 | int (i:Int):TyOf K H (.int i) (.type "int")
 | str (x:Str):TyOf K H (.str x) (.type "str")
 | flt (x:UInt64):TyOf K H (.flt x) (.type "float")
 | lst {a:Addr}{xs:List V} (e:H a=some (.lst xs)):TyOf K H (.ref a) (.type "list")
 | frz {a:Addr}{o:Obj}{xs:List V} (e:H a=some (.frz o (.lst xs))):TyOf K H (.ref a) (.type "list")
 | tup {a:Addr}{xs:List V} (e:H a=some (.tup xs)):TyOf K H (.ref a) (.type "tuple")
 | dK {a:Addr}{kvs:List (Key×V)} (e:H a=some (.dK kvs)):TyOf K H (.ref a) (.type "dict")
 | dT {a:Addr}{kvs:List (List Key×V)} (e:H a=some (.dT kvs)):TyOf K H (.ref a) (.type "dict")
 | ins {a C dx:Addr}{fs:List (Str×V)} (e:H a=some (.ins C dx fs)) (cl:Cls K C) (ha:PySem.W.findIn K (.ref C) "__class__" = some (some (.builtin "object.__class__")))
   (hn:PySem.W.specialIn K (.builtin "object.__class__") "__get__" = some (some (.builtin "getset_descriptor.__get__"))) (htk:PySem.W.takesIn K (.builtin "object.__class__")=some true)
   (hm:PySem.W.mroIn K C (.type "object")=some true):TyOf K H (.ref a) (.ref C)
theorem qed {x:V}{u t:Value} (I:Inv X pins σ H s) (rx:RelV x u) (ty:TyOf X.K H x t) (e:PySem.W.kitOne X.K t c=some b) (h:∀ tk,Q (.bool b) { s with toks:=tk }) :
  wpAny (model X.prog X.w) A (call (.builtin "isinstance") [u,c]) Q E s:=by
 cases ty with
 | non=>cases (show u=Value.none from rx);exact PySem.W.kia_one PySem.W.kitx_none I.kIn True.intro e (fun z=>nomatch z) h
 | bl y=>cases (show u=Value.bool y from rx);exact PySem.W.kia_one PySem.W.kitx_bool I.kIn True.intro e (fun z=>nomatch z) h
 | int i=>obtain ⟨t,q⟩:=(show ∃ t,u=Value.int i t from rx);cases q;exact PySem.W.kia_one PySem.W.kitx_int I.kIn True.intro e (fun z=>nomatch z) h
 | str y=>obtain ⟨t,q⟩:=(show ∃ t,u=Value.str y t from rx);cases q;exact PySem.W.kia_one PySem.W.kitx_str I.kIn True.intro e (fun z=>nomatch z) h
 | flt y=>obtain ⟨t,q⟩:=(show ∃ t,u=Value.float y t from rx);cases q;exact PySem.W.kia_one PySem.W.kitx_float I.kIn True.intro e (fun z=>nomatch z) h
 | @lst a xs ea=>
  cases (show u=Value.ref a from rx)
  obtain ⟨_,_,n,_,h1⟩:=(show yak X.prog X.w H s.heap a (.lst xs) from I.hok a _ ea)
  exact PySem.W.kia_one PySem.W.kitx_list I.kIn ⟨_,h1,rfl⟩ e (fun z=>nomatch z) h
 | @frz a ob xs ea=>
  cases (show u=Value.ref a from rx)
  obtain ⟨_,_,_,n,_,h1⟩:=(show yak X.prog X.w H s.heap a (.frz ob (.lst xs)) from I.hok a _ ea)
  exact PySem.W.kia_one PySem.W.kitx_list I.kIn ⟨_,h1,rfl⟩ e (fun z=>nomatch z) h
 | @tup a xs ea=>
  cases (show u=Value.ref a from rx)
  obtain ⟨_,_,_,p⟩:=(show yak X.prog X.w H s.heap a (.tup xs) from I.hok a _ ea)
  obtain ⟨o,h1,h2,_⟩:=p
  exact PySem.W.kia_one PySem.W.kitx_tuple I.kIn ⟨o,h1,h2⟩ e (fun z=>nomatch z) h
 | @dK a kvs ea=>
  cases (show u=Value.ref a from rx)
  obtain ⟨_,_,vs,_,p⟩:=(show yak X.prog X.w H s.heap a (.dK kvs) from I.hok a _ ea)
  obtain ⟨o,es,ep,h1,h2,_⟩:=p
  exact PySem.W.kia_one PySem.W.kitx_dict I.kIn ⟨o,h1,h2.1⟩ e (fun z=>nomatch z) h
 | @dT a kvs ea=>
  cases (show u=Value.ref a from rx)
  obtain ⟨_,_,xs,_,o,es,ep,h1,h2,_⟩:=(show yak X.prog X.w H s.heap a (.dT kvs) from I.hok a _ ea)
  exact PySem.W.kia_one PySem.W.kitx_dict I.kIn ⟨o,h1,h2.1⟩ e (fun z=>nomatch z) h
 | @ins a C dx fs ea cl ha hn htk hm=>
  cases (show u=Value.ref a from rx)
  obtain ⟨mA,O,_⟩:=ins_get I.hok ea
  obtain ⟨od,J,_⟩:=O.look
  exact PySem.W.kia_one (PySem.W.kitx_own (cl.get _) cl.hd ha hn htk hm) I.kIn J e (fun z=>nomatch z) h
end
structure Room (k:Nat) (A:Around):Prop where
 hd:A.handled=none
 dp:A.depth+3*k+5<recursionLimit
 un:A.units+16*k+200<cLine
 gd:A.guards=some []
theorem Room.mono {j k:Nat}{A:Around} (r:Room k A) (h:j≤k):Room j A:=⟨r.hd,by have:=r.dp;omega,by have:=r.un;omega,r.gd⟩
theorem Room.deeper {k:Nat}{A:Around} (r:Room (k+1) A) (env:Env):Room k (A.deeper env):=
 ⟨r.hd,by have:=r.dp;show A.depth+1+3*k+5<_;omega,by have:=r.un;show A.units+3+16*k+200<_;omega,r.gd⟩
theorem Room.depth {k:Nat}{A:Around} (r:Room k A):A.depth<recursionLimit:=by have:=r.dp;omega
theorem Room.units {k:Nat}{A:Around} (r:Room k A):A.units+64<cLine:=by have:=r.un;omega
def tNil:TA:=fun _ H Q=>Q [] H
def qb1 (ta:TE) (tr:TA):TA:=fun σ H Q=>ta σ H fun x H1=>tr σ H1 fun xs H2=>Q (x::xs) H2
section
variable {X:Cx}{e:Expr}{es:List Expr}{te:TE}{t:TA}{pos:Pos}
theorem qak:PA X [] tNil:=fun _ _ _ _ H Q I h=>Calls.spliced_nil ⟨[],H,I,.nil,h⟩
theorem yae (ha:PE X e te) (hr:PA X es t) (hs:starEach (e::es) X.env=(false,eval e X.env)::starEach es X.env:=by rfl):PA X (e::es) (qb1 te t):=by
 intro pos pins s σ H Q I h
 rw[hs]
 show wpAny _ _ (spliced ((false,eval e X.env)::backTo pos (starEach es X.env))) _ _ s
 refine Calls.spliced_cons (thn (ha pins s σ H _ I h) fun u s1 ⟨x,H1,I1,r1,q1⟩=>?_)
 exact thn (hr pos pins s1 σ H1 _ I1 q1) fun us s2 ⟨xs,H2,I2,r2,q2⟩=>⟨x::xs,H2,I2,.cons r1 r2,q2⟩
def tTup (t:TA):TE:=fun σ H Q=>t σ H fun xs H1=>xs.length≤sizeLine∧∀ p,H1 p=none→Q (.ref p) (upd H1 p (.tup xs))
def tLst (t:TA):TE:=fun σ H Q=>t σ H fun xs H1=>xs.length≤sizeLine∧∀ p,H1 p=none→Q (.ref p) (upd H1 p (.lst xs))
theorem ydx {x1} (h:PA X es t):PE X (.Tuple es x1 pos) (tTup t):=by
 intro pins s σ H Q I hq
 refine wpAny_Tuple_spliced (thn (h pos pins s σ H _ I hq) fun us s1 ⟨xs,H1,I1,r,z,q⟩=>⟨by rw[← r.length];exact z,?_⟩)
 have hf:H1 s1.heap.objs.size=none:=I1.hok.fresh (Nat.le_refl _)
 refine ⟨.ref s1.heap.objs.size,upd H1 s1.heap.objs.size (.tup xs),I1.laid (t':=s1.toks) (fun b u e=>Heap.get?_push_of_some _ e) (Nat.le_refl _) ?_,rfl,q _ hf⟩
 exact ⟨z,us,r,⟨_,Heap.get?_push_size _ rfl,rfl,_,rfl⟩⟩
theorem qce (h:PA X es t):PE X (.List es pos) (tLst t):=by
 intro pins s σ H Q I hq
 refine wpAny_List_spliced (thn (h pos pins s σ H _ I hq) fun us s1 ⟨xs,H1,I1,r,z,q⟩=>⟨by rw[← r.length];exact z,?_⟩)
 have hf:H1 s1.heap.objs.size=none:=I1.hok.fresh (Nat.le_refl _)
 refine ⟨.ref s1.heap.objs.size,upd H1 s1.heap.objs.size (.lst xs),I1.laid (t':=s1.toks) (fun b u e=>Heap.get?_push_of_some _ e) (Nat.le_refl _) ?_,rfl,q _ hf⟩
 exact ⟨z,us,0,r,Heap.get?_push_size _ rfl⟩
end
abbrev Sp:=List V→Hp→VK→XK→Prop
abbrev CXT:=List Env→Hp→Shared→XK→Value→Shared→Prop
structure Env0 (P:Program) (w:World) (K:PySem.W.Frag) (mg:Str→Option Value) (base:Heap) (A:Around) (outer:List Env) (s:Shared) (H:Hp):Prop where
 frames:A.frames=some outer
 mod:Mod K mg base
 bs:∀ b o,base.get? b=some o→s.heap.get? b=some o∧H b=none
 bsz:base.objs.size≤s.heap.objs.size
 funs:s.heap.FunFrames base outer
 frf:∀ b∈frs outer,H b=none
 hok:HOk P w H s.heap
 bare:AllBare s.gens
def CE (outer:List Env) (P:Program) (w:World) (H:Hp) (s:Shared) (Q:VK) (u:Value) (s':Shared):Prop:=
 ∃ v H',s'.os=s.os∧AllBare s'.gens∧Un (frs outer) [] H H' s.heap s'.heap∧HOk P w H' s'.heap∧RelV v u∧Q v H'
def CR (CX:CXT) (outer:List Env) (P:Program) (w:World) (H:Hp) (s:Shared) (Q:VK) (E:XK) (r:Result) (s':Shared):Prop:=
 match r with
 | .ok (.ret u)=>CE outer P w H s Q u s'
 | .ok _=>False
 | .error e=>CX outer H s E e s'
structure FnOk (P:Program) (w:World) (K:PySem.W.Frag) (mg:Str→Option Value) (base:Heap) (CX:CXT) (k:Nat) (f:Addr) (fd:FuncData) (ps:List Str) (sp:Sp):Prop where
 len:∀ vs H Q E,sp vs H Q E→vs.length=ps.length
 run:∀ (A:Around) (outer:List Env) (s:Shared) (H:Hp) (args:Args) (us:List Value) (vs:List V) (Q:VK) (E:XK),Room k A→Env0 P w K mg base A outer s H→BindsTo s fd args (ps.zip us)→Vals vs us→sp vs H Q E→
  codeAny (model P w) A (.call (.ref f) args) (CR CX outer P w H s Q E) s
section
variable {X:Cx}{pins:List (Addr×Obj)}{σ:St}{H:Hp}{s s':Shared}
theorem Inv.env0 (I:Inv X pins σ H s):Env0 X.prog X.w X.K X.mg X.base X.A X.stack s H:=
 ⟨I.ok.frames,I.ok.mod,I.bs,Nat.le_trans I.ok.bsz I.sz,I.stack,I.stkFree,I.hok,I.bare⟩
theorem Inv.after {Q:VK}{u:Value} (I:Inv X pins σ H s) (h:CE X.stack X.prog X.w H s Q u s'):EP X pins σ Q u s':=by
 obtain ⟨v,H',os,bare,un,hok,r,q⟩:=h
 obtain ⟨hh,g,d,t,os'⟩:=s'
 obtain rfl:os'=s.os:=os
 exact ⟨v,H',I.call (h':=hh) (g':=g) (d':=d) (t':=t) (ch:=[]) un hok bare (fun b z=>absurd z (by simp)),r,q⟩
end
def tCall (sp:Sp) (dvs:List V) (E:XK) (t:TA):TE:=fun σ H Q=>t σ H fun vs H1=>sp (vs++dvs) H1 Q E
def ycy (K:PySem.W.Frag) (fd:FuncData) (ps:List Str) (ds:List Value):Prop:=
 ∀ (s:Shared) (us:List Value),K.In s.heap→(us++ds).length=ps.length→BindsTo s fd ⟨us,[]⟩ (ps.zip (us++ds))
theorem ycy.all {K:PySem.W.Frag}{fd:FuncData}{ps:List Str} (h:∀ us:List Value,us.length=ps.length→bindArgs fd ⟨us,[]⟩=pure (ps.zip us)):ycy K fd ps []:=fun s us _ hl=>by
 rw[List.append_nil] at hl ⊢
 exact .of_eq (h us hl)
def ydo (CX:CXT) (X:Cx) (E:XK):Prop:=∀ (pins:List (Addr×Obj)) (σ:St) (H:Hp) (s:Shared) (e:Value) (s':Shared),Inv X pins σ H s→CX X.stack H s E e s'→X.xe e s'
section
variable {X:Cx}{CX:CXT}{k:Nat}{f C:Addr}{fd:FuncData}{ps:List Str}{sp:Sp}{dvs:List V}{ds:List Value}{E:XK}{x m:Str}{p pos apos:Pos}{e o:Expr}{es:List Expr}{ta:TE}{t:TA}
theorem run_fn {pins:List (Addr×Obj)}{σ:St}{H:Hp}{s:Shared}{Q:VK}{us:List Value}{vs:List V} (F:FnOk X.prog X.w X.K X.mg X.base CX k f fd ps sp) (hr:Room k X.A) (hb:ycy X.K fd ps ds) (hd:Vals dvs ds) (hx:ydo CX X E)
  (I:Inv X pins σ H s) (r:Vals vs us) (h:sp (vs++dvs) H Q E):wpAny (model X.prog X.w) X.A (call (.ref f) us) (EP X pins σ Q) X.xe s:=by
 have r2:Vals (vs++dvs) (us++ds):=r.append hd
 have hl:(us++ds).length=ps.length:=by rw[← r2.length];exact F.len _ _ _ _ h
 refine wpAny_call (codeAny_mono (F.run X.A X.stack s H ⟨us,[]⟩ (us++ds) (vs++dvs) Q E hr I.env0 (hb s us I.kIn hl) r2 h) fun r s' hq=>?_)
 cases r with
 | error e=>exact hx pins σ H s e s' I hq
 | ok fl=>
  cases fl with
  | ret u=>exact I.after hq
  | next=>exact False.elim hq
  | brk=>exact False.elim hq
  | cont=>exact False.elim hq
theorem pe_call (F:FnOk X.prog X.w X.K X.mg X.base CX k f fd ps sp) (hr:Room k X.A) (hg:Gl X x) (hm:X.mg x=some (.ref f)) (hk:PySem.W.keepIn X.K (.ref f)=true) (hb:ycy X.K fd ps ds) (hd:Vals dvs ds) (hx:ydo CX X E)
  (ha:PA X (e::es) t) (hdb:(x == ("__debug__" : Str))=false:=by decide) (he:starEach (e::es) X.env=(false,eval e X.env)::starEach es X.env:=by rfl) (hpl:(backTo pos (starEach es X.env)).any (·.1)=false:=by rfl) :
  PE X (.Call (.Name x p) (e::es) [] pos) (tCall sp dvs E t):=by
 intro pins s σ H Q I h
 refine wpAny_Call_Name_kw (ld_glob I hg hm ?_ hdb)
 refine PySem.W.callWith_K (h₀:=X.base) I.ok.mod.kin hk (thn (ha pos pins s σ H _ I h) fun us s1 ⟨vs,H1,I1,r,q⟩=>⟨I1.kIn,?_⟩) he hpl
 exact run_fn F hr hb hd hx I1 r q
end
structure FnScope (N P:List Str) (sc:Scope):Prop where
 kind:sc.kind=.function
 co:sc.isCoroutine=false
 gen:sc.isGenerator=false
 nd:N.Nodup
 pre:N.take P.length=P
 par:∀ x∈P,sc.names.lookup x=some .local∨sc.names.lookup x=some .cell
 nofree:∀ y∈sc.names,y.2≠.free
theorem qcn {kindOf:Str→Option NameKind}{x:Str}:∀ {binds:List (Str×Value)}{m:Str→Option Value},(∀ v,(x,v)∉binds)→bindL kindOf binds m x=m x
 | [],_,_=>rfl
 | (n,v)::r,m,h=>by
  unfold bindL
  rw[qcn fun w hw=>h w (List.mem_cons_of_mem _ hw)]
  split
  ·have:x≠n:=by rintro rfl;exact h v List.mem_cons_self
   simp[this]
  ·rfl
theorem yce {kindOf:Str→Option NameKind}{x:Str}:∀ {binds:List (Str×Value)}{m:Str→Option Value},(∀ v,(x,v)∉binds)→bindC kindOf binds m x=m x
 | [],_,_=>rfl
 | (n,v)::r,m,h=>by
  unfold bindC
  rw[yce fun w hw=>h w (List.mem_cons_of_mem _ hw)]
  split
  ·rfl
  ·have:x≠n:=by rintro rfl;exact h v List.mem_cons_self
   simp[this]
theorem ycf {kindOf:Str→Option NameKind}{x:Str}{v:Value}:∀ {P:List Str}{vs:List Value}{i:Nat}{m:Str→Option Value},P.Nodup→P[i]?=some x→vs[i]?=some v→kindOf x=some .local→
  bindL kindOf (P.zip vs) m x=some v
 | [],_,_,_,_,h,_,_=>by simp at h
 | _::_,[],_,_,_,_,h,_=>by simp at h
 | p::P,w::vs,0,m,nd,h1,h2,hk=>by
  simp at h1 h2;subst h1;subst h2
  show bindL kindOf ((p,w)::P.zip vs) m p=_
  unfold bindL
  rw[qcn fun v hv=>(List.nodup_cons.mp nd).1 (List.of_mem_zip hv).1,if_pos hk]
  simp
 | p::P,w::vs,i+1,m,nd,h1,h2,hk=>by
  show bindL kindOf ((p,w)::P.zip vs) m x=_
  unfold bindL
  exact ycf (i:=i) (List.nodup_cons.mp nd).2 (by simpa using h1) (by simpa using h2) hk
theorem qco {kindOf:Str→Option NameKind}{x:Str}{v:Value}:∀ {P:List Str}{vs:List Value}{i:Nat}{m:Str→Option Value},P.Nodup→P[i]?=some x→vs[i]?=some v→kindOf x≠some .local→
  bindC kindOf (P.zip vs) m x=some v
 | [],_,_,_,_,h,_,_=>by simp at h
 | _::_,[],_,_,_,_,h,_=>by simp at h
 | p::P,w::vs,0,m,nd,h1,h2,hk=>by
  simp at h1 h2;subst h1;subst h2
  show bindC kindOf ((p,w)::P.zip vs) m p=_
  unfold bindC
  rw[yce fun v hv=>(List.nodup_cons.mp nd).1 (List.of_mem_zip hv).1,if_neg hk]
  simp
 | p::P,w::vs,i+1,m,nd,h1,h2,hk=>by
  show bindC kindOf ((p,w)::P.zip vs) m x=_
  unfold bindC
  exact qco (i:=i) (List.nodup_cons.mp nd).2 (by simpa using h1) (by simpa using h2) hk
def start (N:List Str) (vs:List V):St:=vs.map some++List.replicate (N.length-vs.length) none
def cxOf (CX:CXT) (P:Program) (w:World) (K:PySem.W.Frag) (mg:Str→Option Value) (base:Heap) (N:List Str) (qual:Str) (scope:Scope) (f:Addr) (cd:Value) (A:Around) (outer:List Env) (s:Shared) (H:Hp) (E:XK):Cx where
 prog:=P
 w:=w
 K:=K
 mg:=mg
 base:=base
 A:=A.deeper (envOfC qual scope s.heap.objs.size f cd)
 N:=N
 s₀:=s
 H₀:=H
 env:=envOfC qual scope s.heap.objs.size f cd
 outer:=outer
 stack:=envOfC qual scope s.heap.objs.size f cd::outer
 ex:=[]
 calm:=true
 fn:=fun _=>true
 pn:=[]
 xe:=fun e s'=>wpAny (model P w) (A.deeper (envOfC qual scope s.heap.objs.size f cd)) (leaving (envOfC qual scope s.heap.objs.size f cd) e) (fun _ s''=>CX outer H s E e s'') (fun e' s''=>CX outer H s E e' s'') s'
theorem qc7 {sc:Scope}{n:Nat}{x:Str} (h:sc.names.lookup x=some .cell):∃ c,(cellsFrom n sc.names []).lookup x=some c:=by
 have q:=PySem.W.cellsFrom_some sc.names n [] (.inl h)
 exact Option.isSome_iff_exists.mp q
theorem qee {CX:CXT}{P:Program}{w:World}{K:PySem.W.Frag}{mg:Str→Option Value}{base:Heap}{N ps:List Str}{qual:Str}{scope:Scope}{f:Addr}{cd:Value}{A:Around}{outer:List Env}{s s1:Shared}{H:Hp}{E:XK}{us:List Value}{vs:List V}
  (S:FnScope N ps scope) (hd:A.handled=none) (e0:Env0 P w K mg base A outer s H) (hl:vs.length=ps.length) (r:Vals vs us)
  (x:InCallC s s.heap.objs.size (bindL (envOfC qual scope s.heap.objs.size f cd).kindOf (ps.zip us) fun _=>none) (cellsFrom (s.heap.objs.size+1) scope.names []) (bindC (envOfC qual scope s.heap.objs.size f cd).kindOf (ps.zip us) fun _=>none) s1) :
  Inv (cxOf CX P w K mg base N qual scope f cd A outer s H E) [] (start N vs) H s1:=by
 have hpl:ps.length≤N.length:=by have:=congrArg List.length S.pre;rw[List.length_take] at this;omega
 obtain ⟨h1,tk,rfl,hk⟩:=x.done
 have noA:∀ b:Addr,b∉(cxOf CX P w K mg base N qual scope f cd A outer s H E).ex:=fun b z=>absurd (show b∈([]:List Addr) from z) (by simp)
 refine ⟨⟨e0.mod,S.kind,rfl,rfl,Nat.le_refl _,fun y z c h1 h2=>?_,fun y hy=>?_,fun y c _ h=>?_,fun _=>hd,Around.frames_deeper e0.frames,.inr ⟨rfl,rfl⟩,fun b z=>absurd z (noA b),e0.bs,e0.bsz,fun b _ _=>noA b,fun b z=>absurd z (noA b),e0.funs,e0.frf⟩,
  rfl,e0.bare,Un.kept hk,⟨_,x.toInCall.ns,fun i y v h1 h2 h3=>?_⟩,fun y c h=>⟨_,x.cell y c h⟩,e0.hok.fresh (Nat.le_refl _),fun y c h=>?_,fun p hp=>absurd (show p∈([]:List (Addr×Obj)) from hp) (by simp),e0.hok.kept hk,?_⟩
 ·exact name_of_addr x.apart (PySem.mem_of_lookup h1) (PySem.mem_of_lookup h2)
 ·have hy:scope.names.lookup y=some .cell∨scope.names.lookup y=some .free:=hy
  rcases hy with hy|hy
  ·exact qc7 hy
  ·exact absurd rfl (S.nofree _ (PySem.mem_of_lookup hy))
 ·exact Nat.le_of_lt (x.above y c (PySem.mem_of_lookup h))
 ·have hi:i<vs.length:=by
   unfold start at h2
   by_cases hi:i<vs.length
   ·exact hi
   ·rw[List.getElem?_append_right (by simpa using hi)] at h2
    rw[List.getElem?_replicate] at h2
    split at h2<;>cases h2
  have ha:vs[i]?=some v:=by
   unfold start at h2
   rw[List.getElem?_append_left (by simpa using hi),List.getElem?_map] at h2
   cases e:vs[i]? with
   | none=>rw[e] at h2;cases h2
   | some a=>rw[e] at h2;cases h2;rfl
  obtain ⟨u,hu,rv⟩:=r.get ha
  have hp:ps[i]?=some y:=by
   rw[← S.pre,List.getElem?_take_of_lt (by omega)];exact h1
  have ndP:ps.Nodup:=by rw[← S.pre];exact S.nd.sublist (List.take_sublist _ _)
  refine ⟨u,rv,?_⟩
  rcases S.par y (List.mem_of_getElem? hp) with k|k
  ·exact .inl ⟨k,ycf ndP hp hu k⟩
  ·obtain ⟨c,e⟩:=qc7 (n:=s.heap.objs.size+1) k
   refine .inr ⟨.inl k,c,e,?_⟩
   have q:=x.cell y c e
   rw[qco ndP hp hu (by show scope.names.lookup y≠_;rw[k];decide)] at q
   exact q
 ·exact e0.hok.fresh (Nat.le_of_lt (x.above y c (PySem.mem_of_lookup h)))
 ·unfold start
  show _=N.length
  rw[List.length_append,List.length_map,List.length_replicate]
  omega
theorem fn_of {CX:CXT}{P:Program}{w:World}{K:PySem.W.Frag}{mg:Str→Option Value}{base:Heap}{k:Nat}{f:Addr}{name qual:Str}{params:Arguments}{body:List Stmt}{scope:Scope}{dV kV doc pm cdv ct oc:Value}{an od:Option Addr}
  {osl:Array (Option Value)}{N ps:List Str}{sp:Sp} (lk:K.lookup f=some ⟨oc,od,.func (PySem.W.fnOf name qual params body scope dV kV doc pm an cdv ct),osl⟩) (hcd:PySem.W.codeIn K cdv qual=true) (S:FnScope N ps scope)
  (len:∀ vs H Q E,sp vs H Q E→vs.length=ps.length)
  (hbody:∀ (A:Around) (outer:List Env) (s:Shared) (H:Hp) (vs:List V) (Q:VK) (E:XK),Room k (A.deeper (envOfC qual scope s.heap.objs.size f cdv))→sp vs H Q E→
   ∃ t,PSs (cxOf CX P w K mg base N qual scope f cdv A outer s H E) body t∧t { nx:=fun _ H'=>Q .non H',rt:=Q } (start N vs) H) :
  FnOk P w K mg base CX (k+1) f (PySem.W.fnOf name qual params body scope dV kV doc pm an cdv ct) ps sp:=by
 refine ⟨len,fun A outer s H args us vs Q E hr e0 hb r hsp=>?_⟩
 have hl:=len _ _ _ _ hsp
 have KX:K.In s.heap:=e0.mod.kin.keeps fun b o e=>(e0.bs b o e).1
 have lim:s.heap.NoLimit:=e0.mod.nolimit.keeps fun b o e=>(e0.bs b o e).1
 have hkind:∀ y∈ps.zip us,scope.names.lookup y.1=some .local∨(scope.names.lookup y.1=some .cell∧((cellsFrom (s.heap.objs.size+1) scope.names []).lookup y.1).isSome=true):=fun ⟨n,v⟩ hy=>by
  rcases S.par n (List.of_mem_zip hy).1 with q|q
  ·exact .inl q
  ·exact .inr ⟨q,PySem.W.cellsFrom_some _ _ _ (.inl q)⟩
 refine codeAny_call_function hr.depth (KX _ _ lk) rfl S.co S.gen rfl (PySem.W.codeRec_of KX hcd) (hb _ _ _ _ ?_)
 refine wpAny_newFunctionEnv_cells S.kind hkind fun env he s1 x=>?_
 subst he
 refine ⟨lim.keeps x.toInCall.keep,codeAny_func ?_⟩
 obtain ⟨t,ht,hq⟩:=hbody A outer s H vs Q E (hr.deeper _) hsp
 have I:Inv (cxOf CX P w K mg base N qual scope f cdv A outer s H E) [] (start N vs) H s1:=qee S hr.hd e0 hl r x
 refine wpAny_mono (ht [] s1 (start N vs) H _ I hq) (fun fl s' hs=>?_) fun e s' hs=>hs
 have fin:∀ {σ':St}{H':Hp}{v:V}{u:Value},Inv (cxOf CX P w K mg base N qual scope f cdv A outer s H E) [] σ' H' s'→RelV v u→Q v H'→CE outer P w H s Q u s':=
  fun {σ' H' v u} J rv q=>⟨v,H',J.os,J.bare,J.base,J.hok,rv,q⟩
 cases fl with
 | ret u=>
  obtain ⟨v,σ',H',J,rv,q⟩:=hs
  exact fin J rv q
 | next=>
  obtain ⟨σ',H',J,q⟩:=hs
  exact fin (v:=V.non) (u:=Value.none) J rfl q
 | brk=>
  obtain ⟨_,_,_,q⟩:=hs
  exact False.elim q
 | cont=>
  obtain ⟨_,_,_,q⟩:=hs
  exact False.elim q
section
variable {X:Cx}{x:Str}{p pos:Pos}{e:Expr}{es:List Expr}{t:TA}{id T:String}{r:List V→Hp→VK→Prop}
def tCB (r:List V→Hp→VK→Prop) (t:TA):TE:=fun σ H Q=>t σ H fun vs H1=>r vs H1 Q
theorem qa2 (hc:ybp X (.builtin id) r) (hg:Gl X x) (hm:X.mg x=none) (hv:bootBuiltins x=some (.builtin id)) (ha:PA X (e::es) t) (hn:x≠"__name__":=by decide) (hdb:(x == ("__debug__" : Str))=false:=by decide)
  (he:starEach (e::es) X.env=(false,eval e X.env)::starEach es X.env:=by rfl) (hpl:(backTo pos (starEach es X.env)).any (·.1)=false:=by rfl):PE X (.Call (.Name x p) (e::es) [] pos) (tCB r t):=by
 intro pins s σ H Q I h
 refine wpAny_Call_Name_kw (ycl I hg hm hv ?_ hn hdb)
 exact PyProof.Rows.callWith_builtin1 (thn (ha pos pins s σ H _ I h) fun us s1 ⟨vs,H1,I1,r1,q1⟩=>hc pins s1 σ H1 vs us Q I1 r1 q1) he hpl
theorem qdp (hc:ybp X (.type T) r) (hg:Gl X x) (hm:X.mg x=none) (hv:bootBuiltins x=some (.type T)) (ha:PA X (e::es) t) (hn:x≠"__name__":=by decide) (hdb:(x == ("__debug__" : Str))=false:=by decide)
  (he:starEach (e::es) X.env=(false,eval e X.env)::starEach es X.env:=by rfl) (hpl:(backTo pos (starEach es X.env)).any (·.1)=false:=by rfl):PE X (.Call (.Name x p) (e::es) [] pos) (tCB r t):=by
 intro pins s σ H Q I h
 refine wpAny_Call_Name_kw (ycl I hg hm hv ?_ hn hdb)
 exact PyProof.Rows.callWith_type1 (thn (ha pos pins s σ H _ I h) fun us s1 ⟨vs,H1,I1,r1,q1⟩=>hc pins s1 σ H1 vs us Q I1 r1 q1) he hpl
end
end L2
namespace HT
open PySem PyProof.Rows
section
variable {prog:Program}{w:World}{A:Around}{E:Value→Shared→Prop}{s:Shared}
def sIx (n d:Nat):Option Int→Nat
 | none=>d
 | some v=>if v<0 then (v+(n:Int)).toNat else min v.toNat n
theorem sIx_none (n d:Nat):sIx n d none=d:=rfl
theorem sIx_nat (n d k:Nat):sIx n d (some (k:Int))=min k n:=by
 show (if (k:Int)<0 then ((k:Int)+(n:Int)).toNat else min (k:Int).toNat n)=min k n
 rw[if_neg (by omega),Int.toNat_natCast]
end
end HT
namespace L2
open PySem PySem.Spec PyProof.Rows
abbrev TO:=St→Hp→(Option Int→Hp→Prop)→Prop
def PO (X:Cx) (e:Option Expr) (t:TO):Prop:=
 ∀ (pins:List (Addr×Obj)) (s:Shared) (σ:St) (H:Hp) (Q:Option Int→Hp→Prop),Inv X pins σ H s→t σ H Q→
  wpAny (model X.prog X.w) X.A (evalPart e X.env) (fun u s'=>∃ o H',Inv X pins σ H' s'∧IsPart u o∧Q o H') X.xe s
def tNoPart:TO:=fun _ H Q=>Q none H
def tPart (t:TE):TO:=fun σ H Q=>t σ H fun x H1=>∃ i,x=.int i∧Q (some i) H1
theorem yb5 {ns:List Int}:∀ {us:List Value},Vals (ns.map V.int) us→IntsAre us ns:=by
 induction ns with
 | nil=>intro us r;rw[List.map_nil] at r;cases r;exact .nil
 | cons n ns ih=>
  intro us r
  rw[List.map_cons] at r
  cases r with
  | cons r1 r2=>
   obtain ⟨t,e⟩:=r1
   subst e
   exact .cons n t (ih r2)
section
variable {X:Cx}{e:Expr}{te:TE}{lo hi:Option Expr}{tl th:TO}{pos p2:Pos}
theorem ybw:PO X none tNoPart:=by
 intro pins s σ H Q I h
 rw[evalPart_none]
 exact wpAny_pure ⟨none,H,I,.none,h⟩
theorem qbu (h:PE X e te):PO X (some e) (tPart te):=by
 intro pins s σ H Q I hw
 rw[evalPart_some]
 refine thn (h pins s σ H _ I hw) fun u s1 ⟨x,H1,I1,r1,q1⟩=>?_
 obtain ⟨i,rfl,q⟩:=q1
 obtain ⟨t,rfl⟩:=r1
 exact ⟨some i,H1,I1,.int i t,q⟩
def SlR (X:Cx) (r:V→Option Int→Option Int→Hp→VK→Prop):Prop:=
 ∀ (pins:List (Addr×Obj)) (s:Shared) (σ:St) (H:Hp) (x:V) (v vl vu:Value) (lo hi:Option Int) (sl:Addr) (Q:VK),Inv X pins σ H s→RelV x v→s.heap.IsSliceOf sl vl vu .none→IsPart vl lo→IsPart vu hi→r x lo hi H Q→
  ∃ T id,typeLookup (.type T) "__getitem__" = pure (some (.builtin id))∧s.TypeIs v T∧wpAny (model X.prog X.w) X.A (getItem v (.ref sl)) (EP X pins σ Q) X.xe s
def tSl (r:V→Option Int→Option Int→Hp→VK→Prop) (te:TE) (tl th:TO):TE:=fun σ H Q=>te σ H fun x H1=>tl σ H1 fun l H2=>th σ H2 fun u H3=>r x l u H3 Q
theorem qbm {r:V→Option Int→Option Int→Hp→VK→Prop} (hr:SlR X r) (he:PE X e te) (hl:PO X lo tl) (hu:PO X hi th):PE X (.Subscript e (.Slice lo hi none p2) pos) (tSl r te tl th):=by
 intro pins s σ H Q I h
 refine Subscript_ (thn (he pins s σ H _ I h) fun v s1 ⟨x,H1,I1,r1,q1⟩=>?_)
 refine wpAny_Slice (thn (hl pins s1 σ H1 _ I1 q1) fun vl s2 ⟨l,H2,I2,pl,q2⟩=>thn (hu pins s2 σ H2 _ I2 q2) fun vu s3 ⟨u,H3,I3,pu,q3⟩=>?_)
 rw[evalPart_none]
 refine wpAny_pure ?_
 have I4:Inv X pins σ H3 { s3 with heap:=s3.heap.push { cls:=.type "slice",data:=.fields #[vl,vu,.none] } }:=I3.kept (t':=s3.toks) fun b ob q=>Heap.get?_push_of_some _ q
 obtain ⟨T,id,hT,ht,hg⟩:=hr pins { s3 with heap:=s3.heap.push { cls:=.type "slice",data:=.fields #[vl,vu,.none] } } σ H3 x v vl vu l u s3.heap.objs.size Q I4 r1 (Heap.IsSliceOf.new ..) pl pu q3
 show wpAny (model X.prog X.w) X.A (subscriptTail e (.Slice lo hi none p2) v (.ref s3.heap.objs.size)) (EP X pins σ Q) X.xe { s3 with heap:=s3.heap.push { cls:=.type "slice",data:=.fields #[vl,vu,.none] } }
 exact tail_any (ops:=[.ref s3.heap.objs.size,v]) ht hT hg (by with_unfolding_all rfl)
def cutV (xs:List V) (lo hi:Option Int):List V:=(xs.drop (HT.sIx xs.length 0 lo)).take (HT.sIx xs.length xs.length hi-HT.sIx xs.length 0 lo)
theorem qcz (xs:List V) (lo hi:Option Int):(cutV xs lo hi).length≤xs.length:=by
 unfold cutV
 rw[List.length_take,List.length_drop]
 omega
end
def ixN (n:Nat) (i:Int):Option Nat:=if 0≤i then (if i<n then some i.toNat else none) else if -(n:Int)≤i then some (i+n).toNat else none
def atI {α:Type} (xs:List α) (i:Int):Option α:=(ixN xs.length i).bind fun j=>xs[j]?
theorem ixN_seq {n:Nat}{i:Int}{j:Nat} (h:ixN n i=some j):seqIndex? i n=some j∧j<n∧-(n:Int)≤i∧i<n:=by
 unfold ixN at h
 by_cases h0:0≤i
 ·rw[if_pos h0] at h
  by_cases h1:i<n
  ·rw[if_pos h1] at h
   have e:i.toNat=j:=Option.some.inj h
   exact ⟨by rw[seqIndex_of h0 h1,e],by omega,by omega,h1⟩
  ·rw[if_neg h1] at h;cases h
 ·rw[if_neg h0] at h
  by_cases h1:-(n:Int)≤i
  ·rw[if_pos h1] at h
   have e:(i+n).toNat=j:=Option.some.inj h
   exact ⟨by rw[seqIndex_neg (by omega) h1,e],by omega,h1,by omega⟩
  ·rw[if_neg h1] at h;cases h
theorem yeb {α:Type}{xs:List α}{i:Int}{v:α} (h:atI xs i=some v):∃ j,seqIndex? i xs.length=some j∧xs[j]?=some v∧j<xs.length∧-(xs.length:Int)≤i∧i<xs.length:=by
 unfold atI at h
 cases e:ixN xs.length i with
 | none=>rw[e] at h;cases h
 | some j=>
  rw[e] at h
  obtain ⟨h1,h2,h3,h4⟩:=ixN_seq e
  exact ⟨j,h1,h,h2,h3,h4⟩
theorem qbf {α:Type}{xs:List α}{j:Nat}{v:α} (h:xs[j]?=some v):atI xs (j:Int)=some v:=by
 have hj:j<xs.length:=(List.getElem?_eq_some_iff.mp h).1
 have e:ixN xs.length (j:Int)=some j:=by
  unfold ixN
  rw[if_pos (by omega),if_pos (by omega)];simp
 unfold atI;rw[e];exact h
def qd0 (b:Expr):Prop:=∀ o i,subscripted b false o i=operate [o,i] (getItem o i)
def IxR (X:Cx) (r:R2):Prop:=
 ∀ (value slice:Expr) (pins:List (Addr×Obj)) (s:Shared) (σ:St) (H:Hp) (x y:V) (v u:Value) (Q:VK),Inv X pins σ H s→RelV x v→RelV y u→r x y H Q→
  subscripted slice false v u=operate [v,u] (getItem v u)→wpAny (model X.prog X.w) X.A (subscriptTail value slice v u) (EP X pins σ Q) X.xe s
def MtR (X:Cx) (id:String) (r:V→List V→Hp→VK→Prop):Prop:=
 ∀ (pins:List (Addr×Obj)) (s:Shared) (σ:St) (H:Hp) (x:V) (xs:List V) (v:Value) (us:List Value) (Q:VK),Inv X pins σ H s→RelV x v→Vals xs us→r x xs H Q→
  wpAny (model X.prog X.w) X.A (call (.builtin id) (v::us)) (EP X pins σ Q) X.xe s
section
variable {X:Cx}{a b:Expr}{ta tb:TE}{pos:Pos}
theorem qdf {r:R2} (hr:IxR X r) (ha:PE X a ta) (hb:PE X b tb) (hs:qd0 b):PE X (.Subscript a b pos) (tOp r ta tb):=by
 intro pins s σ H Q I h
 exact Subscript_ (binT ha hb I h fun v u s2 x y H2 I2 rx ry q=>hr a b pins s2 σ H2 x y v u Q I2 rx ry q (hs _ _))
def rIxL (K:PySem.W.Frag):R2:=fun x y H Q=>∃ p xs i v,x=.ref p∧y=.int i∧SqL K H p xs∧atI xs i=some v∧Q v H
def rIxT (K:PySem.W.Frag):R2:=fun x y H Q=>∃ p xs i v,x=.ref p∧y=.int i∧SqT K H p xs∧atI xs i=some v∧Q v H
theorem yai:IxR X (rIxL X.K):=by
 intro value slice pins s σ H x y v u Q I rx ry h hs
 obtain ⟨p,xs,i,z,rfl,rfl,hq,he,q⟩:=h
 cases rx
 obtain ⟨t,rfl⟩:=ry
 obtain ⟨its,r,pl,hz⟩:=I.list hq
 obtain ⟨j,h1,h2,h3,h4,h5⟩:=yeb he
 obtain ⟨w,ew,rw'⟩:=r.get h2
 have hl:=r.length
 have hn:=ydr
 have fin:EP X pins σ Q w s:=⟨z,H,I,rw',q⟩
 by_cases h0:0≤i
 ·have hj:i.toNat=j:=by
   rw[seqIndex_of h0 h5] at h1
   exact Option.some.inj h1
  exact item_listR pl.isList h0 (by omega) (by rw[hj];simpa using ew) fin hs
 ·have hj:(i+(its.toArray.size:Int)).toNat=j:=by
   rw[seqIndex_neg (by omega) h4] at h1
   rw[List.size_toArray,← hl]
   exact Option.some.inj h1
  exact subscriptTail_builtinR (x:=w) pl.isList.typeIs slot_list_getitem.lookup
   (wpAny_getItem_list_neg (Q:=fun r s'=>r=w∧EP X pins σ Q r s') pl.isList (by omega) (by rw[List.size_toArray]<;>omega) (by omega) (by rw[hj];simpa using ew) ⟨rfl,fin⟩) hs
theorem qb4:IxR X (rIxT X.K):=by
 intro value slice pins s σ H x y v u Q I rx ry h hs
 obtain ⟨p,xs,i,z,rfl,rfl,hq,he,q⟩:=h
 cases rx
 obtain ⟨t,rfl⟩:=ry
 obtain ⟨its,r,pl,hz⟩:=I.tuple hq
 obtain ⟨j,h1,h2,h3,h4,h5⟩:=yeb he
 obtain ⟨w,ew,rw'⟩:=r.get h2
 have hl:=r.length
 have hn:=ydr
 have fin:EP X pins σ Q w s:=⟨z,H,I,rw',q⟩
 exact subscriptTail_builtinR (x:=w) pl.typeIs slot_tuple_getitem.lookup
  (getItem_tuple (j:=j) (Q:=fun r s'=>r=w∧EP X pins σ Q r s') pl (by omega) (by omega) (by rw[List.size_toArray,← hl];exact h1) (by simpa using ew) ⟨rfl,fin⟩) hs
theorem qcl (lo hi:Option Int) (n:Nat):(sliceBounds lo hi none n).1=((HT.sIx n 0 lo:Nat):Int)∧(sliceBounds lo hi none n).2.1=((HT.sIx n n hi:Nat):Int)∧(sliceBounds lo hi none n).2.2=1:=by
 refine ⟨?_,?_,rfl⟩
 ·cases lo with
  | none=>simp[sliceBounds,HT.sIx]
  | some i=>
   simp only[sliceBounds,HT.sIx,Option.getD_none,show (1:Int)>0 by decide,if_true]
   by_cases h:i<0
   ·simp only[h,if_true]<;>omega
   ·simp only[h,if_false]<;>omega
 ·cases hi with
  | none=>simp[sliceBounds,HT.sIx]
  | some i=>
   simp only[sliceBounds,HT.sIx,Option.getD_none,show (1:Int)>0 by decide,if_true]
   by_cases h:i<0
   ·simp only[h,if_true]<;>omega
   ·simp only[h,if_false]<;>omega
theorem yb8 (its:List Value) (lo hi:Option Int):slicePick its.toArray lo hi none=((its.drop (HT.sIx its.length 0 lo)).take (HT.sIx its.length its.length hi-HT.sIx its.length 0 lo)).toArray:=by
 obtain ⟨h1,h2,h3⟩:=qcl lo hi its.toArray.size
 unfold slicePick
 rw[h1,h2,h3]
 simp only[sliceRange_one,pick_run,List.size_toArray]<;>rfl
def rSlL (K:PySem.W.Frag):V→Option Int→Option Int→Hp→VK→Prop:=fun x lo hi H Q=>∃ a xs,x=.ref a∧SqL K H a xs∧∀ p,H p=none→Q (.ref p) (upd H p (.lst (cutV xs lo hi)))
theorem qbz:SlR X (rSlL X.K):=by
 intro pins s σ H x v vl vu lo hi sl Q I rx hs pl pu h
 obtain ⟨a,xs,rfl,hx,q⟩:=h
 cases rx
 obtain ⟨its,r,ht,hz⟩:=I.list hx
 have hlen:=r.length
 refine ⟨"list",_,slot_list_getitem.lookup,ht.isList.typeIs,?_⟩
 refine wpAny_getItem_list_slice ht.isList hs pl pu .none (by simp) ?_ (by rw[List.size_toArray]<;>omega)
 rw[yb8,← hlen]
 refine ⟨.ref s.heap.objs.size,_,I.laid (t':=s.toks) (o:=.lst (cutV xs lo hi)) (fun b ob q=>Heap.get?_push_of_some _ q) (Nat.le_refl _) ?_,rfl,q _ (I.hok.fresh (Nat.le_refl _))⟩
 exact ⟨Nat.le_trans (qcz xs lo hi) hz,_,0,(r.drop (HT.sIx xs.length 0 lo)).take (HT.sIx xs.length xs.length hi-HT.sIx xs.length 0 lo),Heap.get?_push_size _ rfl⟩
def qca:V→Bool
 | .non=>true
 | .bl _=>true
 | .int _=>true
 | .str _=>true
 | _=>false
def eqV:V→V→Bool
 | .non,.non=>true
 | .bl a,.bl b=>a == b
 | .bl a,.int b=>(if a then 1 else 0) == b
 | .int a,.bl b=>a == (if b then 1 else 0)
 | .int a,.int b=>a == b
 | .str a,.str b=>a == b
 | _,_=>false
theorem eqAt_V {A:Around}{s:Shared}{y x:V}{u v:Value} (ry:RelV y u) (rx:RelV x v) (fy:qca y=true) (fx:qca x=true):SeqAt.EqAt A s u v (eqV y x):=by
 cases y with
 | non=>
  cases ry
  cases x with
  | non=>cases rx;exact SeqAt.EqAt.same _
  | bl b=>cases rx;exact SeqAt.EqAt.none_bool b
  | int b=>obtain ⟨t,rfl⟩:=rx;exact SeqAt.EqAt.none_int b t
  | str b=>obtain ⟨t,rfl⟩:=rx;exact SeqAt.EqAt.none_str b t
  | _=>exact absurd (show false=true from fx) Bool.false_ne_true
 | bl a=>
  cases ry
  cases x with
  | non=>cases rx;exact SeqAt.EqAt.bool_none a
  | bl b=>cases rx;exact SeqAt.EqAt.bool_bool a b
  | int b=>obtain ⟨t,rfl⟩:=rx;exact SeqAt.EqAt.bool_int a b t
  | str b=>obtain ⟨t,rfl⟩:=rx;exact SeqAt.EqAt.bool_str a b t
  | _=>exact absurd (show false=true from fx) Bool.false_ne_true
 | int a=>
  obtain ⟨t',rfl⟩:=ry
  cases x with
  | non=>cases rx;exact SeqAt.EqAt.int_none a t'
  | bl b=>cases rx;exact SeqAt.EqAt.int_bool a t' b
  | int b=>obtain ⟨t,rfl⟩:=rx;exact SeqAt.EqAt.int_int a t' b t
  | str b=>obtain ⟨t,rfl⟩:=rx;exact SeqAt.EqAt.int_str a t' b t
  | _=>exact absurd (show false=true from fx) Bool.false_ne_true
 | str a=>
  obtain ⟨t',rfl⟩:=ry
  cases x with
  | non=>cases rx;exact SeqAt.EqAt.str_none a t'
  | bl b=>cases rx;exact SeqAt.EqAt.str_bool a t' b
  | int b=>obtain ⟨t,rfl⟩:=rx;exact SeqAt.EqAt.str_int a t' b t
  | str b=>obtain ⟨t,rfl⟩:=rx;exact SeqAt.EqAt.str_str a t' b t
  | _=>exact absurd (show false=true from fx) Bool.false_ne_true
 | _=>exact absurd (show false=true from fy) Bool.false_ne_true
def eqU (x:V) (u:Value):Bool:=match u with
 | .none=>eqV .non x
 | .bool b=>eqV (.bl b) x
 | .int i _=>eqV (.int i) x
 | .str z _=>eqV (.str z) x
 | _=>false
theorem eqU_of {x y:V}{u:Value} (r:RelV y u) (f:qca y=true):eqU x u=eqV y x:=by
 cases y with
 | non=>cases r;rfl
 | bl b=>cases r;rfl
 | int i=>obtain ⟨t,rfl⟩:=r;rfl
 | str z=>obtain ⟨t,rfl⟩:=r;rfl
 | _=>exact absurd (show false=true from f) Bool.false_ne_true
theorem ybx {x:V}:∀ {xs:List V}{us:List Value},Vals xs us→xs.all qca=true→us.any (eqU x)=xs.any fun y=>eqV y x
 | _,_,.nil,_=>rfl
 | y::xs,u::us,.cons r t,f=>by
  rw[List.all_cons,Bool.and_eq_true] at f
  rw[List.any_cons,List.any_cons,eqU_of r f.1,ybx t f.2]
theorem ybk {A:Around}{s:Shared}{x:V}{v:Value} (rx:RelV x v) (fx:qca x=true):∀ {xs:List V}{us:List Value},Vals xs us→xs.all qca=true→∀ u∈us,SeqAt.EqAt A s u v (eqU x u)
 | _,_,.nil,_=>fun u hu=>by cases hu
 | y::xs,u::us,.cons r t,f=>fun u' hu=>by
  rw[List.all_cons,Bool.and_eq_true] at f
  rcases List.mem_cons.mp hu with rfl|hu
  ·rw[eqU_of r f.1];exact eqAt_V r rx f.1 fx
  ·exact ybk rx fx t f.2 u' hu
def inV (x:V) (xs:List V):Bool:=xs.any fun y=>eqV y x
def rIn (K:PySem.W.Frag) (neg:Bool):R2:=fun x y H Q=>∃ p xs,y=.ref p∧(SqL K H p xs∨SqT K H p xs)∧qca x=true∧xs.all qca=true∧Q (.bl (if neg then !inV x xs else inV x xs)) H
theorem yd4:OpR X (compareOp .In) (rIn X.K false):=by
 intro pins s σ H x y v u Q I rx ry h
 obtain ⟨p,xs,rfl,hq,fx,fs,q⟩:=h
 cases ry
 rcases hq with hq|hq
 ·obtain ⟨its,r,pl,hz⟩:=I.list hq
  refine SeqAt.in_listAt (eqU x) pl.isList (fun w hw=>ybk rx fx r fs w (by simpa using hw)) ⟨.bl _,H,I,rfl,?_⟩
  rw[show its.toArray.any (eqU x)=its.any (eqU x) by simp,ybx r fs]
  exact q
 ·obtain ⟨its,r,pl,hz⟩:=I.tuple hq
  refine SeqAt.in_tupleAt (eqU x) pl (fun w hw=>ybk rx fx r fs w (by simpa using hw)) ⟨.bl _,H,I,rfl,?_⟩
  rw[show its.toArray.any (eqU x)=its.any (eqU x) by simp,ybx r fs]
  exact q
theorem qcr:OpR X (compareOp .NotIn) (rIn X.K true):=by
 intro pins s σ H x y v u Q I rx ry h
 obtain ⟨p,xs,rfl,hq,fx,fs,q⟩:=h
 cases ry
 rcases hq with hq|hq
 ·obtain ⟨its,r,pl,hz⟩:=I.list hq
  refine SeqAt.notIn_listAt (eqU x) pl.isList (fun w hw=>ybk rx fx r fs w (by simpa using hw)) ⟨.bl _,H,I,rfl,?_⟩
  rw[show its.toArray.any (eqU x)=its.any (eqU x) by simp,ybx r fs]
  exact q
 ·obtain ⟨its,r,pl,hz⟩:=I.tuple hq
  refine SeqAt.notIn_tupleAt (eqU x) pl (fun w hw=>ybk rx fx r fs w (by simpa using hw)) ⟨.bl _,H,I,rfl,?_⟩
  rw[show its.toArray.any (eqU x)=its.any (eqU x) by simp,ybx r fs]
  exact q
theorem yah:ybp X (.builtin "len") (fun xs H Q=>∃ p ys,xs=[.ref p]∧(SqL X.K H p ys∨SqT X.K H p ys)∧Q (.int ys.length) H):=by
 intro pins s σ H xs us Q I r h
 obtain ⟨p,ys,rfl,hq,q⟩:=h
 obtain ⟨u,rfl,rx⟩:=vals1 r
 cases rx
 have hn:=ydr
 rcases hq with hq|hq
 ·obtain ⟨its,r',pl,hz⟩:=I.list hq
  have hlen:=r'.length
  exact Calls.call_len_list pl.isList (by simp only[List.size_toArray]<;>omega) ⟨.int ys.length,H,I.tok _,⟨s.toks+1,by rw[List.size_toArray,hlen]⟩,q⟩
 ·obtain ⟨its,r',pl,hz⟩:=I.tuple hq
  have hlen:=r'.length
  exact len_tuple pl (by simp only[List.size_toArray]<;>omega) ⟨.int ys.length,H,I.tok _,⟨s.toks+1,by rw[List.size_toArray,hlen]⟩,q⟩
theorem qcs:ybp X (.type "list") (fun xs H Q=>∃ p ys,xs=[.ref p]∧(SqL X.K H p ys∨SqT X.K H p ys)∧∀ l,H l=none→Q (.ref l) (upd H l (.lst ys))):=by
 intro pins s σ H xs us Q I r h
 obtain ⟨p,ys,rfl,hq,q⟩:=h
 obtain ⟨u,rfl,rx⟩:=vals1 r
 cases rx
 have fin:∀ (its:List Value),Vals ys its→ys.length≤sizeLine→∀ (h':Heap) (c':Nat),(∀ b o',s.heap.get? b=some o'→h'.get? b=some o')→
   h'.get? s.heap.objs.size=some { cls:=.type "list",dict:=none,data:=.seq its.toArray c',slots:=#[] }→EP X pins σ Q (.ref s.heap.objs.size) { s with heap:=h' }:=fun its r' hz h' c' kp e=>
  ⟨.ref s.heap.objs.size,_,I.laid (t':=s.toks) kp (Nat.le_refl _) (show yak X.prog X.w _ h' _ (.lst ys) from ⟨hz,its,c',r',e⟩),rfl,q _ (I.hok.fresh (Nat.le_refl _))⟩
 rcases hq with hq|hq
 ·obtain ⟨its,r',pl,hz⟩:=I.list hq
  have hlen:=r'.length
  obtain ⟨o,ho,hc,n,hd⟩:=pl.isList
  exact call_list_seq p (.inl rfl) ho hc hd (fun h' c' kp e=>fin its r' hz h' c' kp e) (by simp only[List.size_toArray]<;>omega)
 ·obtain ⟨its,r',pl,hz⟩:=I.tuple hq
  have hlen:=r'.length
  obtain ⟨o,ho,hc,n,hd⟩:=pl
  exact call_list_seq p (.inr rfl) ho hc hd (fun h' c' kp e=>fin its r' hz h' c' kp e) (by simp only[List.size_toArray]<;>omega)
def tyV (K:PySem.W.Frag) (T:String) (x:V) (H:Hp):Prop:=match x with
 | .str _=>T="str"
 | .int _=>T="int"
 | .ref p=>(T="list"∧∃ xs,SqL K H p xs)∨(T="tuple"∧∃ o,K.lookup p=some o∧o.cls=.type "tuple"∧o.dict=none)∨
   (T="dict"∧((∃ kvs,H p=some (.dK kvs))∨∃ kvs,H p=some (.dT kvs)))∨(T="set"∧∃ S n,H p=some (.set S n))
 | _=>False
theorem tyV_is {pins:List (Addr×Obj)}{σ:St}{H:Hp}{s:Shared}{T:String}{x:V}{v:Value} (I:Inv X pins σ H s) (r:RelV x v) (ty:tyV X.K T x H) :
  s.TypeIs v T∧∀ a,v=.ref a→∃ ob,s.heap.get? a=some ob∧ob.dict=none:=by
 cases x with
 | str z=>
  obtain ⟨t,rfl⟩:=r
  cases (show T="str" from ty)
  exact ⟨typeIs_str s z t,fun _ e=>nomatch e⟩
 | int i=>
  obtain ⟨t,rfl⟩:=r
  cases (show T="int" from ty)
  exact ⟨typeIs_int s i t,fun _ e=>nomatch e⟩
 | ref p=>
  cases r
  rcases ty with ⟨rfl,xs,hq⟩|⟨rfl,o,hk,hc,hd⟩|⟨rfl,hk⟩|⟨rfl,S,n,hk⟩
  ·obtain ⟨its,_,pl,_⟩:=I.list hq
   refine ⟨pl.isList.typeIs,fun a e=>?_⟩
   cases e
   obtain ⟨o,n,e,c,hd,_⟩:=pl
   exact ⟨o,e,hd⟩
  ·refine ⟨⟨o,I.kIn p o hk,hc⟩,fun a e=>?_⟩
   cases e
   exact ⟨o,I.kIn _ o hk,hd⟩
  ·have z:∃ o,s.heap.get? p=some o∧o.ExactDict:=by
    rcases hk with ⟨kvs,hk⟩|⟨kvs,hk⟩
    ·obtain ⟨_,_,_,_,o,_,_,e,ex,_⟩:=I.hok p _ hk
     exact ⟨o,e,ex⟩
    ·obtain ⟨_,_,_,_,o,_,_,e,ex,_⟩:=I.hok p _ hk
     exact ⟨o,e,ex⟩
   obtain ⟨o,e,ex⟩:=z
   refine ⟨⟨o,e,ex.1⟩,fun a e2=>?_⟩
   cases e2
   exact ⟨o,e,ex.2.1⟩
  ·obtain ⟨o,_,_,_,e,ex,_⟩:=I.hok p _ hk
   refine ⟨⟨o,e,ex.1⟩,fun a e2=>?_⟩
   cases e2
   exact ⟨o,e,ex.2.1⟩
 | _=>exact False.elim ty
def tBM0 (K:PySem.W.Frag) (T:String) (r:V→List V→Hp→VK→Prop) (to:TE):TE:=fun σ H Q=>to σ H fun x H1=>tyV K T x H1∧r x [] H1 Q
def tBM (K:PySem.W.Frag) (T:String) (r:V→List V→Hp→VK→Prop) (to:TE) (t:TA):TE:=fun σ H Q=>to σ H fun x H1=>tyV K T x H1∧t σ H1 fun xs H2=>r x xs H2 Q
variable {o e:Expr}{es:List Expr}{to:TE}{t:TA}{name:Str}{apos cpos:Pos}{T id:String}{r:V→List V→Hp→VK→Prop}
theorem pe_bm0 (pa:PlainAttrs T) (slot:Slot T name id) (hty:typeOf (.builtin id)=pure (.type "method_descriptor")) (hm:MtR X id r) (ho:PE X o to)
  (hbase:attributeBase o name X.env (eval o X.env)=eval o X.env:=by rfl) (hline:(apos.endLine == cpos.line)=true:=by rfl):PE X (.Call (.Attribute o name apos) [] [] cpos) (tBM0 X.K T r to):=by
 intro pins s σ H Q I h
 refine wpAny_Call_method0_late hbase hline (thn (ho pins s σ H _ I h) fun v s1 ⟨x,H1,I1,r1,ty,q1⟩=>?_)
 obtain ⟨h1,h2⟩:=tyV_is I1 r1 ty
 exact ⟨T,id,pa,slot,hty,h1,h2,Calls.callWith_builtin rfl (PySem.evalArgs_none (hm pins s1 σ H1 x [] v [] Q I1 r1 .nil q1))⟩
theorem ydg (pa:PlainAttrs T) (slot:Slot T name id) (hty:typeOf (.builtin id)=pure (.type "method_descriptor")) (hm:MtR X id r) (ho:PE X o to) (ha:PA X (e::es) t)
  (hbase:attributeBase o name X.env (eval o X.env)=eval o X.env:=by rfl)
  (hfew:((backTo cpos (starEach (e::es) X.env)).all (fun x=>!x.1)&&(backToKw cpos (keywordEach [] X.env)).all (fun x=>x.1.isSome)
   && decide ((e::es).length+([]:List Keyword).length+(if ([]:List Keyword).isEmpty then 0 else 1)<30))=true:=by rfl)
  (hline:(apos.endLine == cpos.line)=true:=by rfl) (hs:starEach (e::es) X.env=(false,eval e X.env)::starEach es X.env:=by rfl) (hplain:(backTo cpos (starEach es X.env)).any (·.1)=false:=by rfl) :
  PE X (.Call (.Attribute o name apos) (e::es) [] cpos) (tBM X.K T r to t):=by
 intro pins s σ H Q I h
 refine wpAny_Call_method_late hbase hfew hline rfl (thn (ho pins s σ H _ I h) fun v s1 ⟨x,H1,I1,r1,ty,q1⟩=>?_)
 obtain ⟨h1,h2⟩:=tyV_is I1 r1 ty
 refine ⟨T,id,pa,slot,hty,h1,h2,?_⟩
 have hA:=ha cpos pins s1 σ H1 _ I1 q1
 rw[hs] at hA ⊢
 refine Calls.callWith_builtin (by show (false||(backTo cpos (starEach es X.env)).any (·.1))=false;rw[hplain]<;>rfl) (Calls.evalArgs_plain ?_)
 exact thn hA fun us s2 ⟨vs,H2,I2,r2,q2⟩=>hm pins s2 σ H2 x vs v us Q I2 r1 r2 q2
/- xs.append(e),list.index on a module's tuple .. are MtR facts of 06m -/
end
def MtM (X:Cx) (id:String) (r:V→List V→Hp→VK→Prop):Prop:=
 ∀ (pins:List (Addr×Obj)) (s:Shared) (σ:St) (H:Hp) (x:V) (xs:List V) (v:Value) (us:List Value) (Q:VK),Inv X pins σ H s→RelV x v→Vals xs us→r x xs H Q→
  wpAny (model X.prog X.w) X.A (call (.builtin id) (v::us)) (EP X pins σ Q) X.xe s
theorem Vals.one:∀ {x:V}{us:List Value},Vals [x] us→∃ u,us=[u]∧RelV x u
 | _,_,.cons r .nil=>⟨_,rfl,r⟩
theorem Vals.zero:∀ {us:List Value},Vals [] us→us=[]
 | _,.nil=>rfl
theorem Vals.rep {xs:List V}{us:List Value} (h:Vals xs us):∀ k:Nat,Vals (List.replicate k xs).flatten (List.replicate k us).flatten
 | 0=>.nil
 | k+1=>by
  rw[List.replicate_succ,List.replicate_succ,List.flatten_cons,List.flatten_cons]
  exact Vals.append h (Vals.rep h k)
theorem erase_last {α:Type} (l:List α):l.eraseIdx (l.length-1)=l.dropLast:=by
 induction l with
 | nil=>rfl
 | cons a r ih=>
  cases r with
  | nil=>rfl
  | cons b r=>
   have e:(a::b::r).length-1=((b::r).length-1)+1:=by
    have h1:(a::b::r).length=r.length+2:=rfl
    have h2:(b::r).length=r.length+1:=rfl
    omega
   rw[e,List.eraseIdx_cons_succ,ih]
   all_goals rfl
theorem ycn (its:List Value):∀ (k:Nat) (acc:List Value),
  List.foldl (fun x1 x2=>x1++x2) acc.toArray (List.replicate k its.toArray)=(acc++(List.replicate k its).flatten).toArray
 | 0,acc=>by simp
 | k+1,acc=>by
  have e:acc.toArray++its.toArray=(acc++its).toArray:=by simp
  have e2:(acc++its)++(List.replicate k its).flatten=acc++(List.replicate (k+1) its).flatten:=by
   rw[List.replicate_succ,List.flatten_cons,List.append_assoc]
  rw[← e2,← ycn its k (acc++its),← e,List.replicate_succ,List.foldl_cons]
section
variable {X:Cx}{pins:List (Addr×Obj)}{σ:St}{H:Hp}{s:Shared}{l b:Addr}{xs ys zs:List V}
theorem Inv.lset {its its':List Value}{n:Nat}{f:Array Value→Array Value}{t':Nat} (I:Inv X pins σ H s) (hH:H l=some (.lst xs))
  (e:s.heap.get? l=some { cls:=.type "list",data:=.seq its.toArray n }) (hf:f its.toArray=its'.toArray) (hv:Vals ys its') (hz:ys.length≤sizeLine) :
  Inv X pins σ (upd H l (.lst ys)) { s with heap:=s.heap.update l (Obj.mapSeq f),toks:=t' }:=by
 have q:=PySem.IsL.update e f
 rw[hf] at q
 refine I.write (x:=l) (e:=l) (by rw[hH];exact trivial) (.inl rfl) (fun b' u hb hu=>(Heap.get?_update_other s.heap (Obj.mapSeq f) (Ne.symm hb)).trans hu) ⟨_,q⟩ ?_
 exact ⟨hz,its',_,hv,q⟩
theorem Inv.lnew {its:List Value}{t':Nat} (I:Inv X pins σ H s) (hv:Vals ys its) (hz:ys.length≤sizeLine) :
  Inv X pins σ (upd H s.heap.objs.size (.lst ys)) { s with heap:=s.heap.push { cls:=.type "list",data:=.seq its.toArray },toks:=t' }:=
 I.laid (fun _ _ q=>Heap.get?_push_of_some _ q) (Nat.le_refl _) ⟨hz,its,0,hv,Heap.get?_push_size _ rfl⟩
theorem Inv.fresh (I:Inv X pins σ H s):H s.heap.objs.size=none:=I.hok.fresh (Nat.le_refl _)
theorem Inv.lstM (I:Inv X pins σ H s) (hH:H l=some (.lst xs)):xs.length≤sizeLine∧∃ (its:List Value) (n:Nat),Vals xs its∧xs.length=its.length∧s.heap.get? l=some { cls:=.type "list",data:=.seq its.toArray n }:=by
 obtain ⟨z,its,n,r,e⟩:=I.hok l _ hH
 exact ⟨z,its,n,r,r.length,e⟩
theorem notLongL {n:Nat} (h:n≤sizeLine):Builtin.List.listTooLong n=false:=by
 unfold Builtin.List.listTooLong
 exact decide_eq_false (by omega)
end
section
variable {X:Cx}
def rAppend:V→List V→Hp→VK→Prop:=fun x vs H Q=>∃ l xs y,x=.ref l∧vs=[y]∧H l=some (.lst xs)∧xs.length<sizeLine∧Q .non (upd H l (.lst (xs++[y])))
theorem yax:MtM X "list.append" rAppend:=by
 intro pins s σ H x vs v us Q I rx rv h
 obtain ⟨l,xs,y,rfl,rfl,hH,hz,q⟩:=h
 cases rx
 obtain ⟨u,rfl,ru⟩:=rv.one
 obtain ⟨z,its,n,r,hl,e⟩:=I.lstM hH
 refine call_meets F.slot_list_append ⟨_,e,rfl⟩ F.entry_list_append (F.args_list_append_2 _ _) (PySem.list_append l its.toArray n u (by rw[List.size_toArray];omega)) ⟨e,?_⟩
 refine ⟨.non,_,I.lset (its':=its++[u]) hH e (by simp) (r.append (.cons ru .nil)) ?_,rfl,q⟩
 rw[List.length_append,List.length_singleton]
 omega
def rClear:V→List V→Hp→VK→Prop:=fun x vs H Q=>∃ l xs,x=.ref l∧vs=[]∧H l=some (.lst xs)∧Q .non (upd H l (.lst []))
theorem mt_clear:MtM X "list.clear" rClear:=by
 intro pins s σ H x vs v us Q I rx rv h
 obtain ⟨l,xs,rfl,rfl,hH,q⟩:=h
 cases rx
 have hus:=rv.zero
 subst hus
 obtain ⟨z,its,n,r,hl,e⟩:=I.lstM hH
 refine call_meets F.slot_list_clear ⟨_,e,rfl⟩ F.entry_list_clear (F.args_list_clear_1 _) (AutoSeq1.list_clear_list_0 l its.toArray n (by rw[List.size_toArray];omega)) ⟨e,?_⟩
 exact ⟨.non,_,I.lset (its':=[]) (ys:=[]) hH e rfl .nil (Nat.zero_le _),rfl,q⟩
def rCat:R2:=fun x y H Q=>∃ l b xs zs,x=.ref l∧y=.ref b∧H l=some (.lst xs)∧H b=some (.lst zs)∧xs.length+zs.length≤sizeLine∧∀ p,H p=none→Q (.ref p) (upd H p (.lst (xs++zs)))
theorem op_cat:OpR X (binaryOp .Add) rCat:=by
 intro pins s σ H x y v u Q I rx ry h
 obtain ⟨l,b,xs,zs,rfl,rfl,hH,hB,hz,q⟩:=h
 cases rx
 cases ry
 obtain ⟨z,its,n,r,hl,e⟩:=I.lstM hH
 obtain ⟨z2,its2,n2,r2,hl2,e2⟩:=I.lstM hB
 refine PySem.P.add_list e e2 ?_ (by rw[List.size_toArray,List.size_toArray];omega)
 have ea:its.toArray++its2.toArray=(its++its2).toArray:=by simp
 rw[ea]
 exact ⟨.ref _,_,I.lnew (t':=s.toks) (r.append r2) (by rw[List.length_append];omega),rfl,q _ I.fresh⟩
def rRep:R2:=fun x y H Q=>∃ l k xs,x=.ref l∧y=.int k∧H l=some (.lst xs)∧-(2 ^ 63)≤k∧k<2 ^ 63∧xs.length*k.toNat≤sizeLine∧
 ∀ p,H p=none→Q (.ref p) (upd H p (.lst (List.replicate k.toNat xs).flatten))
theorem ycz {α:Type} (xs:List α) (k:Nat):(List.replicate k xs).flatten.length=k*xs.length:=by
 induction k with
 | zero=>simp
 | succ k ih=>rw[List.replicate_succ,List.flatten_cons,List.length_append,ih,Nat.succ_mul,Nat.add_comm]
theorem op_rep:OpR X (binaryOp .Mult) rRep:=by
 intro pins s σ H x y v u Q I rx ry h
 obtain ⟨l,k,xs,rfl,rfl,hH,h1,h2,hz,q⟩:=h
 cases rx
 obtain ⟨t,rfl⟩:=ry
 obtain ⟨z,its,n,r,hl,e⟩:=I.lstM hH
 have hlen:its.toArray.size*k.toNat≤sizeLine:=by rw[List.size_toArray,← hl];exact hz
 have hcap:¬ its.toArray.size*k.toNat>(2 ^ 63-1) / 8:=by
  have:(sizeLine:Nat)≤(2 ^ 63-1) / 8:=by decide
  omega
 have hfit:¬ (!Builtin.List.listFitsIndex k)=true:=by
  rw[fitsIndex_both h1 h2]
  exact Bool.false_ne_true
 have hlong:¬ Builtin.List.listTooLong (its.toArray.size*k.toNat)=true:=by
  rw[notLongL hlen]
  exact Bool.false_ne_true
 have hnew:List.foldl (fun x1 x2=>x1++x2) #[] (List.replicate (if its.toArray.isEmpty=true then 0 else k.toNat) its.toArray)=(List.replicate k.toNat its).flatten.toArray:=by
  have f0:∀ m:Nat,List.foldl (fun x1 x2=>x1++x2) #[] (List.replicate m its.toArray)=(List.replicate m its).flatten.toArray:=fun m=>by
   have:=ycn its m []
   rw[List.nil_append] at this
   exact this
  rw[f0]
  cases its with
  | nil=>simp
  | cons a r'=>rw[if_neg (by simp)]
 refine wpAny_binaryOp_repeat_ref (T:="list") (U:="int") (by decide) ⟨_,e,rfl⟩ (fun s'=>typeIs_int s' k t) noFill_list_mul F.fills_int_mul F.slot_int_rmul repeat_list F.slot_int_index.lookup
  (call_meets F.slot_int_rmul (typeIs_int s k t) F.entry_int_rmul (F.args_int_rmul_2 _ _) (int___rmul___int_list k t l its.toArray n)
   ⟨e,rfl,⟨_,e,rfl⟩,call_meets F.slot_list_mul ⟨_,e,rfl⟩ F.entry_list_mul (F.args_list_mul_2 _ _) (AutoListH.list___mul___list_int_3 l its.toArray n k t hfit hcap hlong) ⟨e,?_⟩⟩)
 rw[hnew]
 exact ⟨.ref _,_,I.lnew (t':=s.toks) (r.rep k.toNat) (by rw[ycz,Nat.mul_comm];exact hz),rfl,q _ I.fresh⟩
end
end L2
namespace Att
open PySem PySem.W PySem.Calls PyProof.Rows
theorem qby {P:Params}{h:Heap}:∀ (ns:List Int) (vs:List Value),WellAll P h vs (ns.map WData.int)→IntsAre vs ns:=by
 intro ns
 induction ns with
 | nil=>
  intro vs w
  rw[List.map_nil] at w
  cases w
  exact .nil
 | cons n ns ih=>
  intro vs w
  rw[List.map_cons] at w
  cases w with
  | cons a b=>
   cases a
   exact .cons _ _ (ih _ b)
theorem ydy {l:OpenLaw}{n:Nat} (hn:l.most=some n) {P:Params}{h:Heap}{args:List WData}{vals:List Value}
  (hpre:l.row.toRowW.claim.pre args=true) (hwl:WellAll P h vals args) :
  ∃ a vs ns,vals=[Value.ref a]∧args=[WData.list (ns.map WData.int)]∧h.get? a=some { cls:=.type "list",data:=.seq vs.toArray }∧IntsAre vs ns∧ns.length≤n:=by
 have hsh:WShape.hasAll [] args [.list .int]=true:=(pre_splitW hpre).1
 have hc:l.pre.holds [] { args:=args }=true:=(pre_splitW hpre).2
 obtain ⟨d,r,rfl,h1,h2⟩:=hasAllW_cons hsh
 obtain rfl:=hasAllW_nil h2
 obtain ⟨xs,rfl,h3⟩:=hasW_list h1
 obtain ⟨ns,rfl⟩:=items_int h3
 have hlen:ns.length≤n:=by
  unfold OpenLaw.pre at hc
  have h4:(WTm.not (.lt (.lit (.int (n:Int))) (.len (.arg 0)))).holds [] { args:=[.list (ns.map .int)] }=true:=by
   have h4:=(holds_andW hc).1
   rw[hn] at h4
   exact h4
  have h5:=condW_of h4 (w_not (w_lt w_lit (w_len_list (w_arg rfl))))
  rw[List.length_map] at h5
  refine Nat.le_of_not_lt fun q=>?_
  have q':(n:Int)<((ns.length:Nat):Int):=by omega
  first
   | (rw[decide_eq_true q'] at h5;exact absurd h5 (by decide))
   | (simp at h5;omega)
 cases hwl with
 | cons w1 w2=>
  cases w2
  cases w1 with
  | list ho hall=>exact ⟨_,_,ns,rfl,rfl,ho,qby ns _ hall,hlen⟩
theorem qdl (l:OpenLaw) (args:List WData):l.row.toRowW.claim.post args (.bool true) args=true:=
 postW_of (r:=l.row.toRowW) (X:=(true == true))
  (show WShape.has [] (.bool true) .bool=true by first|rfl|decide|simp[WShape.has,WShape.arms,WShape.armsAll])
  (show (WTm.eq .res (.lit (.bool true))).value [] { args:=args,res:=some (.bool true),after:=args }=some (.bool (true == true)) from w_eq_bool (w_res rfl) w_lit) rfl
theorem attach_call {l:OpenLaw}{n:Nat}{q:Program}{loose:List Str}{XP:(Str→Option Value)→Heap→Prop}{YP:World→Heap→Prop}{d:DefRec}
  (hn:l.most=some n) (hdf:d.params.defaults=[])
  (call:∀ (w:World) (s₀ s₁:Shared) (mg mb:Str→Option Value) (fa:Addr) (o:Obj) (pm cd doc:Value) (a:Addr) (vs:List Value) (ns:List Int),
   Ground q loose [] XP w s₀ mg mb s₁.heap→YP w s₁.heap→
   s₁.heap.get? fa=some o→o.data=.func (docDef d.name d.params d.body d.scope pm cd doc)→s₁.heap.CodeRec cd d.name→mg d.name=some (.ref fa)→
   s₁.heap.get? a=some { cls:=.type "list",data:=.seq vs.toArray }→IntsAre vs ns→ns.length≤n→s₁.gens=#[]→
   codeAny (model l.prog w) callerA (.call (.ref fa) ⟨[.ref a],[]⟩) (fun r s'=>r=.ok (.ret (.bool true))∧OldK s₁.heap s'.heap∧s'.os=s₁.os∧AllBare s'.gens) s₁) :
  WalkO q loose XP YP l.row.toRowW d [] (fun f vs=>PySem.call f vs):=by
 intro w s₀ s₁ mg mb G Y fa o pm cd doc dV kV ho hd hcd hD hmg hg args vals as hpre hlay hrd hwl hlo
 obtain rfl:dV=.none:=Dflts.none hD hdf
 obtain rfl:kV=.none:=Dflts.noKw hD
 obtain ⟨a,vs,ns,rfl,rfl,hobj,hints,hlen⟩:=ydy hn hpre hwl
 refine enter_call (codeAny_mono (call w s₀ s₁ mg mb fa o pm cd doc a vs ns G Y ho (fd_plain hd) hcd hmg hobj hints hlen hg) fun r s' hq=>?_)
 obtain ⟨rfl,h2,h3,h4⟩:=hq
 exact ⟨.inl ⟨.bool true,.bool true,[],rfl,fun _=>rfl,.bool true,qdl l _,fun _=>⟨List.Pairwise.nil,fun _ hm=>(nomatch hm)⟩⟩,h2,h3,h4⟩
end Att
namespace L2
open PySem PySem.Spec PyProof.Rows
theorem qcq:∀ {vs:List Value}{ns:List Int},IntsAre vs ns→Vals (ns.map V.int) vs
 | _,_,.nil=>.nil
 | _,_,.cons n t h=>.cons ⟨t,rfl⟩ (qcq h)
def Only (H:Hp):Prop:=∀ b,H b=none∨∃ o xs,H b=some (.frz o (.lst xs))
theorem law_call {P:Program}{w:World}{K:PySem.W.Frag}{mg mb:Str→Option Value}{CX:CXT}{k:Nat}{fa a:Addr}{fd:FuncData}{x:Str}{sp:Sp}{s₁:Shared}{vs:List Value}{ns:List Int}
  (KX:K.In s₁.heap) (hns:s₁.heap.Ns mainGlobals mg) (hb:s₁.heap.Ns builtinsNs mb) (hbb:∀ x:Str,x≠"__name__"→mb x=bootBuiltins x) (hlim:s₁.heap.NoLimit) (hg:s₁.gens=#[])
  (ha:s₁.heap.get? a=some { cls:=.type "list",data:=.seq vs.toArray }) (hi:IntsAre vs ns) (hl:ns.length≤sizeLine) (hr:Room k callerA)
  (F:∀ base:Heap,K.In base→base.Ns mainGlobals mg→FnOk P w K mg base CX k fa fd [x] sp) (hbind:∀ (s:Shared) (u:Value),BindsTo s fd ⟨[u],[]⟩ [(x,u)])
  (hsp:∀ H:Hp,Only H→SqL K H a (ns.map V.int)→sp [.ref a] H (fun v _=>v=.bl true) fun _ _ _=>False)
  (hCX:∀ H e s',CX [] H s₁ (fun _ _ _=>False) e s'→False) :
  codeAny (model P w) callerA (.call (.ref fa) ⟨[.ref a],[]⟩) (fun r s'=>r=.ok (.ret (.bool true))∧OldK s₁.heap s'.heap∧s'.os=s₁.os∧AllBare s'.gens) s₁:=by
 have rv:=qcq hi
 have lenV:=hi.length
 -- from an abstract heap in which nothing but the script may be tracked
 have core:∀ H:Hp,Only H→SqL K H a (ns.map V.int)→HOk P w H s₁.heap→(∀ b,H b≠none→b=a)→(H a≠none→K.lookup a=none)→
   codeAny (model P w) callerA (.call (.ref fa) ⟨[.ref a],[]⟩) (fun r s'=>r=.ok (.ret (.bool true))∧OldK s₁.heap s'.heap∧s'.os=s₁.os∧AllBare s'.gens) s₁:=by
  intro H hO hS hok hA hK
  have base_of:∀ {b:Addr}{o:Obj},s₁.heap.get? b=some o→H b=none→(hidT s₁.heap H).get? b=some o:=fun e n=>hidT_get e n
  have noA:∀ {b:Addr}{o:Obj}{es:Array DictEntry}{ep:Nat},s₁.heap.get? b=some o→o.data=.dict es ep→H b=none:=fun {b o es ep} e d=>by
   cases q:H b with
   | none=>rfl
   | some u=>
    have e':b=a:=hA b (by rw[q];simp)
    subst e'
    rw[ha] at e;cases e
    have d':Data.seq vs.toArray _=Data.dict es ep:=d
    cases d'
  have nsK:∀ {b:Addr}{m:Str→Option Value},s₁.heap.Ns b m→(hidT s₁.heap H).Ns b m:=fun {b m} ⟨o,es,ep,e,d,r⟩=>⟨o,es,ep,base_of e (noA e d),d,r⟩
  have hKb:K.In (hidT s₁.heap H):=fun b o e=>base_of (KX b o e) (by
   cases q:H b with
   | none=>rfl
   | some u=>
    have e':b=a:=hA b (by rw[q];simp)
    subst e'
    rw[hK (by rw[q];simp)] at e;cases e)
  have hM:Mod K mg (hidT s₁.heap H):=⟨hKb,nsK hns,⟨mb,nsK hb,hbb⟩,let ⟨mc,h1,h2⟩:=hlim;⟨mc,nsK h1,h2⟩⟩
  have e0:Env0 P w K mg (hidT s₁.heap H) callerA [] s₁ H:=⟨rfl,hM,fun b o e=>of_hidT e,Nat.le_of_eq (qdq _ _),trivial,fun b hb=>absurd (show b∈([]:List Addr) from hb) (by simp),hok,.of_eq hg⟩
  refine codeAny_mono ((F _ hKb (nsK hns)).run callerA [] s₁ H ⟨[.ref a],[]⟩ [.ref a] [.ref a] _ _ hr e0 (hbind s₁ (.ref a)) (.cons rfl .nil) (hsp H hO hS)) fun r s' h=>?_
  cases r with
  | error e=>exact (hCX H e s' h).elim
  | ok fl=>
   cases fl with
   | next=>exact False.elim h
   | brk=>exact False.elim h
   | cont=>exact False.elim h
   | ret u=>
    obtain ⟨v,H',os,bare,un,hok',r',q⟩:=h
    have q':v=.bl true:=q
    subst q'
    obtain rfl:u=Value.bool true:=r'
    refine ⟨rfl,OldK.of_keep fun b o e=>?_,os,bare⟩
    cases q:H b with
    | none=>exact un.keep b o e q (by intro z;exact absurd (show b∈([]:List Addr) from z) (by simp)) (by simp)
    | some u=>
     rcases hO b with z|⟨ob,xs,z⟩
     ·rw[q] at z;cases z
     ·have z2:=un.frzs b ob _ z
      obtain ⟨e1,_⟩:=hok b _ z
      obtain ⟨e2,_⟩:=hok' b _ z2
      rw[e] at e1;cases e1
      exact e2
 cases hk:K.lookup a with
 | some o=>
  -- the script is one of the module's own objects
  have e:=KX a o hk
  rw[ha] at e
  cases e
  refine core (fun _=>none) (fun _=>.inl rfl) (.inr ⟨_,vs.toArray,_,hk,rfl,rfl,rfl,by rw[List.size_toArray,lenV];exact hl,by simpa using rv⟩) (fun b u z=>by have z':(none:Option HO)=some u:=z;cases z') (fun b z=>absurd rfl z) fun z=>absurd rfl z
 | none=>
  refine core (fun b=>if b=a then some (.frz { cls:=.type "list",data:=.seq vs.toArray } (.lst (ns.map V.int))) else none) (fun b=>?_) (.inl (.inr ⟨{ cls:=.type "list",data:=.seq vs.toArray },if_pos rfl⟩)) (fun b u z=>?_) (fun b z=>?_) fun _=>hk
  ·by_cases hb:b=a
   ·exact .inr ⟨_,_,if_pos hb⟩
   ·exact .inl (if_neg hb)
  ·by_cases hb:b=a
   ·have z':=(if_pos hb).symm.trans z
    cases z'
    subst hb
    exact ⟨ha,by rw[List.length_map];exact hl,vs,_,rv,ha⟩
   ·have z':=(if_neg hb).symm.trans z
    cases z'
  ·by_cases hb:b=a
   ·exact hb
   ·exact absurd (if_neg hb) z
theorem walk_of {l:PySem.W.OpenLaw}{n k:Nat}{q:Program}{loose:List Str}{XP:(Str→Option Value)→Heap→Prop}{YP:World→Heap→Prop}{d:DefRec}{K:Params→PySem.W.Frag}{CX:World→CXT}{sp:World→Sp}{x:Str}
  (hn:l.most=some n) (hn2:n≤sizeLine) (hdf:d.params.defaults=[]) (hr:Room k callerA)
  (hY:∀ (w:World) (h:Heap),YP w h→(K w.params).In h)
  (F:∀ (w:World) (mg:Str→Option Value) (fa:Addr) (h:Heap),(K w.params).In h→h.Ns mainGlobals mg→mg d.name=some (.ref fa)→
   ∃ fd:FuncData,(∀ (s:Shared) (u:Value),BindsTo s fd ⟨[u],[]⟩ [(x,u)])∧
    ∀ base:Heap,(K w.params).In base→base.Ns mainGlobals mg→FnOk l.prog w (K w.params) mg base (CX w) k fa fd [x] (sp w))
  (hsp:∀ (w:World) (H:Hp) (a:Addr) (ns:List Int),ns.length≤n→Only H→SqL (K w.params) H a (ns.map V.int)→sp w [.ref a] H (fun v _=>v=.bl true) fun _ _ _=>False)
  (hCX:∀ (w:World) (H:Hp) (s:Shared) (e:Value) (s':Shared),CX w [] H s (fun _ _ _=>False) e s'→False) :
  PySem.W.WalkO q loose XP YP l.row.toRowW d [] (fun f vs=>PySem.call f vs):=by
 refine Att.attach_call hn hdf fun w s₀ s₁ mg mb fa o pm cd doc a vs ns G Y ho hd hcd hmg hobj hints hlen hg=>?_
 have KX:=hY w _ Y
 obtain ⟨fd,hb,hF⟩:=F w mg fa _ KX G.T.g hmg
 exact law_call KX G.T.g G.T.b G.T.builtins G.T.nolimit hg hobj hints (Nat.le_trans hlen hn2) hr hF hb (fun H hO hS=>hsp w H a ns hlen hO hS) fun H e s'=>hCX w H s₁ e s'
def qa3 (s:Stmt):Arguments:=match s with
 | .FunctionDef _ a _ _ _ _ _ _ _ _=>a
 | _=>{ posonlyargs:=[],args:=[],vararg:=none,kwonlyargs:=[],kw_defaults:=[],kwarg:=none,defaults:=[] }
def yaq (s:Stmt):List Stmt:=match s with
 | .FunctionDef _ _ b _ _ _ _ _ _ _=>b
 | _=>[]
def yad (s:Stmt):Scope:=match s with
 | .FunctionDef _ _ _ _ _ _ sc _ _ _=>sc
 | _=>{ kind:=.function,names:=[],isGenerator:=false,isCoroutine:=false }
abbrev CX0:CXT:=fun _ _ _ _ _ _=>False
abbrev E0:XK:=fun _ _ _=>False
theorem pass0 {X:Cx}:ydo CX0 X E0:=fun _ _ _ _ _ _ _ h=>h.elim
structure Fun (K:PySem.W.Frag) (x qual:Str) (st:Stmt) (f:Addr) (fd:FuncData):Prop where
 ex:∃ (oc:Value) (od:Option Addr) (kV doc pm:Value) (an:Option Addr) (cdv ct:Value) (osl:Array (Option Value)),
  fd=PySem.W.fnOf x qual (qa3 st) (yaq st) (yad st) .none kV doc pm an cdv ct∧K.lookup f=some ⟨oc,od,.func fd,osl⟩∧PySem.W.codeIn K cdv qual=true
 kp:PySem.W.keepIn K (.ref f)=true
section
variable {P:Program}{w:World}{K:PySem.W.Frag}{mg:Str→Option Value}{base:Heap}
theorem Fun.ok {x qual:Str}{st:Stmt}{f:Addr}{fd:FuncData}{N ps:List Str}{k:Nat}{sp:Sp} (F:Fun K x qual st f fd) (S:FnScope N ps (yad st)) (len:∀ vs H Q E,sp vs H Q E→vs.length=ps.length)
  (hbody:∀ (cdv:Value) (A:Around) (outer:List Env) (s:Shared) (H:Hp) (vs:List V) (Q:VK) (E:XK),Room k (A.deeper (envOfC qual (yad st) s.heap.objs.size f cdv))→sp vs H Q E→
   ∃ t,PSs (cxOf CX0 P w K mg base N qual (yad st) f cdv A outer s H E).nox (yaq st) t∧t { nx:=fun _ H'=>Q .non H',rt:=Q } (start N vs) H):FnOk P w K mg base CX0 (k+1) f fd ps sp:=by
 obtain ⟨oc,od,kV,doc,pm,an,cdv,ct,osl,rfl,lk,hcd⟩:=F.ex
 refine fn_of lk hcd S len fun A outer s H vs Q E hr hsp=>?_
 obtain ⟨t,h,q⟩:=hbody cdv A outer s H vs Q E hr hsp
 exact ⟨t,h.nox,q⟩
theorem Fun.binds {x qual:Str}{st:Stmt}{f:Addr}{fd:FuncData}{ps:List Str} (F:Fun K x qual st f fd)
  (h:∀ (kV doc pm:Value) (an:Option Addr) (cdv ct:Value) (us:List Value),us.length=ps.length→bindArgs (PySem.W.fnOf x qual (qa3 st) (yaq st) (yad st) .none kV doc pm an cdv ct) ⟨us,[]⟩=pure (ps.zip us)):ycy K fd ps []:=by
 obtain ⟨oc,od,kV,doc,pm,an,cdv,ct,osl,rfl,lk,hcd⟩:=F.ex
 exact .all (h kV doc pm an cdv ct)
theorem fun_mk {x qual:Str}{st:Stmt}{f:Addr}{oc:Value}{od an:Option Addr}{osl:Array (Option Value)}{kV doc pm cdv ct:Value} (l:K.lookup f=some ⟨oc,od,.func (PySem.W.fnOf x qual (qa3 st) (yaq st) (yad st) .none kV doc pm an cdv ct),osl⟩)
  (c:PySem.W.codeIn K cdv qual=true) (k:PySem.W.keepIn K (.ref f)=true):Fun K x qual st f (PySem.W.fnOf x qual (qa3 st) (yaq st) (yad st) .none kV doc pm an cdv ct):=⟨⟨oc,od,kV,doc,pm,an,cdv,ct,osl,rfl,l,c⟩,k⟩
end
theorem ycr {A:Around}{k:Nat} (hr:Room k A):A.units+1<cLine:=Nat.lt_of_le_of_lt (Nat.add_le_add_left (by decide:1≤64) _) hr.units
section
variable {X:Cx}
theorem pv (i:Nat) {x:Str}{pos:Pos} (hN:X.N[i]?=some x:=by rfl) (hv:Vis X.env.scope x:=by first|exact Or.inl rfl|exact Or.inr (Or.inl rfl)|exact Or.inr (Or.inr rfl)) (hd:(x == ("__debug__" : Str))=false:=by decide)
  (hcd:(x == ("__classdict__" : Str))=false:=by decide):PE X (.Name x pos) (tVar i):=pe_var hN hv hd hcd
end
theorem iteF {A B:Prop} (h:B):if false=true then A else B:=by
 rw[if_neg Bool.false_ne_true]
 exact h
theorem iteT {A B:Prop} (h:A):if true=true then A else B:=by
 rw[if_pos rfl]
 exact h
def Same (H H':Hp):Prop:=∀ b o,H b=some o→H' b=some o
theorem Same.refl (H:Hp):Same H H:=fun _ _ h=>h
theorem Same.trans {H H1 H2:Hp} (a:Same H H1) (b:Same H1 H2):Same H H2:=fun c o h=>b c o (a c o h)
theorem Same.free {H H':Hp} (e:Same H H') {l:Addr} (h:H' l=Option.none):H l=Option.none:=by
 cases q:H l with
 | none=>rfl
 | some o=>
  rw[e l o q] at h
  cases h
theorem Same.seq {K:PySem.W.Frag}{H H':Hp}{a:Addr}{xs:List V} (e:Same H H') (h:SqL K H a xs):SqL K H' a xs:=by
 rcases h with (h|⟨o,h⟩)|h
 ·exact .inl (.inl (e _ _ h))
 ·exact .inl (.inr ⟨o,e _ _ h⟩)
 ·exact .inr h
mutual
inductive At (H:Hp):V→PyData→Prop
 | non:At H .non .none
 | bl (b:Bool):At H (.bl b) (.bool b)
 | int (i:Int):At H (.int i) (.int i)
 | str (x:Str):At H (.str x) (.str x)
 | lst {a:Addr}{vs:List V}{ds:List PyData}:H a=some (.lst vs)→AtAll H vs ds→At H (.ref a) (.list ds)
 | tup {a:Addr}{vs:List V}{ds:List PyData}:H a=some (.tup vs)→AtAll H vs ds→At H (.ref a) (.tuple ds)
inductive AtAll (H:Hp):List V→List PyData→Prop
 | nil:AtAll H [] []
 | cons {v:V}{d:PyData}{vs:List V}{ds:List PyData}:At H v d→AtAll H vs ds→AtAll H (v::vs) (d::ds)
end
mutual
theorem At.reads {P:Program}{w:World}{H:Hp}{h:Heap} (ok:HOk P w H h):∀ {v:V}{d:PyData}{u:Value},At H v d→RelV v u→∃ as,Reads h u d as
 | _,_,_,.non,r=>by cases r;exact ⟨_,.none⟩
 | _,_,_,.bl b,r=>by cases r;exact ⟨_,.bool b⟩
 | _,_,_,.int i,r=>by obtain ⟨t,rfl⟩:=r;exact ⟨_,.int i t⟩
 | _,_,_,.str x,r=>by obtain ⟨t,rfl⟩:=r;exact ⟨_,.str x t⟩
 | _,_,_,.lst e t,r=>by
  cases r
  obtain ⟨z,its,n,rv,ho⟩:=ok _ _ e
  obtain ⟨as,q⟩:=AtAll.reads ok t rv
  exact ⟨_,.list ho rfl rfl (by simpa using q)⟩
 | _,_,_,.tup e t,r=>by
  cases r
  obtain ⟨z,its,rv,o,ho,hc,n,hd⟩:=ok _ _ e
  obtain ⟨as,q⟩:=AtAll.reads ok t rv
  exact ⟨_,.tuple ho hc hd (by simpa using q)⟩
theorem AtAll.reads {P:Program}{w:World}{H:Hp}{h:Heap} (ok:HOk P w H h):∀ {vs:List V}{ds:List PyData}{us:List Value},AtAll H vs ds→Vals vs us→∃ as,ReadsAll h us ds as
 | _,_,_,.nil,.nil=>⟨_,.nil⟩
 | _,_,_,.cons a b,.cons r s=>by
  obtain ⟨as,q⟩:=At.reads ok a r
  obtain ⟨bs,q2⟩:=AtAll.reads ok b s
  exact ⟨_,.cons q q2⟩
end
section
variable {X:Cx}{pins:List (Addr×Obj)}{σ:St}{H:Hp}{s:Shared}{h':Heap}
theorem Inv.turnedL {ch:List Addr}{a:Addr}{o:HO}{t':Nat} (I:Inv X pins σ H s) (k:∀ b u,b∉ch→s.heap.get? b=some u→h'.get? b=some u) (hf:∀ b∈ch,FpOk X pins H b)
  (hp:s.heap.objs.size≤a) (new:yak X.prog X.w (upd H a o) h' a o):Inv X pins σ (upd H a o) { s with heap:=h',toks:=t' }:=by
 have hn:H a=none:=I.hok.fresh hp
 have nit:∀ b u,H b=some u→b∉ch:=fun b u e z=>by rw[(hf b z).1] at e;cases e
 refine I.step (g':=s.gens) (d':=s.drawn) (ch:=ch) (fun b hb=>?_) (fun b u _ _ hc e _=>k b u hc e) (fun b u _ _ hc e _=>⟨u.slots,k b u hc e⟩) (fun b u _ e n=>?_)
  (fun b u hc e=>⟨u,k b u hc e⟩) (fun b xs e=>?_) (fun b u xs e=>?_) (fun b ps e=>⟨#[],?_⟩) (fun m hm=>?_) (fun b u e=>?_) I.bare
 ·obtain ⟨_,f1,_,f3,f4,f5⟩:=hf b hb
  exact ⟨f3,f1,f4,f5⟩
 ·rw[yab (Nat.ne_of_lt (Nat.lt_of_lt_of_le (Heap.lt_size e) hp))];exact n
 ·rw[yab (qaa e hn)];exact e
 ·rw[yab (qaa e hn)];exact e
 ·rw[yab (qaa e hn),e];simp
 ·obtain ⟨ob,es,ep,ho,r⟩:=hm
  exact ⟨ob,es,ep,k _ ob (fun z=>(hf _ z).2.1 rfl) ho,r⟩
 ·by_cases hb:b=a
  ·subst hb;rw[yaa] at e;cases e;exact new
  ·rw[yab hb] at e
   refine (I.hok b u e).stay (fun c v hc q=>k c v ?_ q) (fun c q=>by rw[yab (qaa q hn)];exact q) fun c xs q=>by rw[yab (qaa q hn)];exact q
   rcases hc with rfl|hc
   ·exact nit _ u e
   ·exact nit c _ hc
end
def Ite (K:PySem.W.Frag) (a:Addr):It:=
 ⟨fun i H=>∃ xs x,SqL K H a xs∧xs[i]?=some x,fun i H x H'=>∃ p y,H p=none∧x=.ref p∧H'=upd H p (.tup [.int i,y])∧∀ xs,SqL K H a xs→xs[i]?=some y,fun i H=>∃ xs,SqL K H a xs∧xs.length≤i⟩
theorem qd5 {P:Program}{w:World}{K:PySem.W.Frag}{es:List Expr}{k:Nat}{tp:Pos} (a e it:Addr) (hne:e≠it) :
  Turn P w K (.Tuple es k tp) (Ite K a) [e,it] e (fun i h=>(∃ old,IsEnum h e it i old)∧h.IsListIter it a i) where
 mem:=by simp
 obj:=fun i h st b hb=>by
  obtain ⟨⟨old,he⟩,o,ho,hc,hd⟩:=st
  have hb':b=e∨b=it:=by simpa using hb
  rcases hb' with rfl|rfl
  ·exact ⟨_,he,fun v z=>by
    have z':Data.fields _=Data.cell v:=z
    cases z'⟩
  ·exact ⟨o,ho,fun v z=>by rw[hd] at z;cases z⟩
 keep:=fun i h h' st kk=>⟨st.1.imp fun _ z=>kk e (by simp) _ z,st.2.at fun o z=>kk it (by simp) o z⟩
 item:=by
  intro X hP hw hK hc i pins s σ H E I hf st hg
  subst hP hw hK
  obtain ⟨xs,x,hq,hx⟩:=hg
  obtain ⟨its,rv,p,hz⟩:=I.list hq
  obtain ⟨u,hu,ru⟩:=rv.get hx
  obtain ⟨⟨old,he⟩,hit⟩:=st
  refine wpAny_pyNext_enum_item he hit p.isList (x:=u) (by simpa using hu) hne fun h' ho hit' hT hsz hk=>?_
  have hel:e<s.heap.objs.size:=Heap.lt_size he
  have hil:it<s.heap.objs.size:=by obtain ⟨_,z,_⟩:=hit;exact Heap.lt_size z
  refine ⟨_,rfl,wpAny_letOwnedTupleGo_enum ho fun h2 he2 hs2=>?_⟩
  have keep2:∀ b ob,b∉[e,it]→s.heap.get? b=some ob→h2.get? b=some ob:=fun b ob hb z=>by
   have h1:b≠e:=fun q=>hb (by simp[q])
   have h3:b≠it:=fun q=>hb (by simp[q])
   exact (hs2.2 b h1).trans (hk b ob h1 h3 z)
  have hT2:h2.get? s.heap.objs.size=some { cls:=.type "tuple",data:=.seq #[.int i s.toks,u] }:=(hs2.2 _ (Nat.ne_of_gt hel)).trans hT
  have fresh:H s.heap.objs.size=none:=I.hok.fresh (Nat.le_refl _)
  have new:yak X.prog X.w (upd H s.heap.objs.size (.tup [.int i,x])) h2 s.heap.objs.size (.tup [.int i,x]):=
   ⟨by show 2≤sizeLine;decide,[.int i s.toks,u],.cons ⟨_,rfl⟩ (.cons ru .nil),⟨_,hT2,rfl,_,rfl⟩⟩
  refine ⟨.ref s.heap.objs.size,upd H s.heap.objs.size (.tup [.int i,x]),I.turnedL keep2 hf (Nat.le_refl _) new,rfl,⟨_,x,fresh,rfl,rfl,fun ys hy=>by rw[I.list_inj hy hq];exact hx⟩,⟨⟨_,by simpa using he2⟩,hit'.at fun o z=>(hs2.2 it hne.symm).trans z⟩,fun b hb=>?_⟩
  rw[yab]
  ·exact (hf b hb).1
  ·have hb':b=e∨b=it:=by simpa using hb
   rcases hb' with rfl|rfl
   ·exact Nat.ne_of_lt hel
   ·exact Nat.ne_of_lt hil
 done:=by
  intro X hP hw hK hc i pins s σ H E I hf st hg
  subst hP hw hK
  obtain ⟨xs,hq,hx⟩:=hg
  obtain ⟨its,rv,p,hz⟩:=I.list hq
  obtain ⟨⟨old,he⟩,hit⟩:=st
  have hl:=rv.length
  obtain ⟨f0,f1,f2,f3,f4,f5⟩:=hf it (by simp)
  exact wpAny_pyNext_enum_end (I.ok.hd hc) he hit p.isList (by simp;omega) fun h' eb=>⟨rfl,I.turned (t':=s.toks) (fun b o hb z=>eb b o hb z) f0 f1 f3 f4 f5⟩
 self:=fun _ _ _ _ _ st h=>wpAny_pyIter_enum st.1.choose_spec h
def iEnum (K:PySem.W.Frag) (ta:TA):TI:=fun σ H R=>ta σ H fun vs H1=>∃ a xs,vs=[.ref a]∧SqL K H1 a xs∧R (Ite K a) H1
section
variable {X:Cx}
theorem yee {a:Expr}{ta:TA}{p pos tp:Pos}{es:List Expr}{k:Nat} (hg:Gl X "enumerate") (hm:X.mg "enumerate" = none) (ha:PA X [a] ta) (hs:starEach [a] X.env=[(false,eval a X.env)]:=by rfl) :
  PI X (.Tuple es k tp) (.Call (.Name "enumerate" p) [a] [] pos) (iEnum X.K ta):=by
 intro pins s σ H R I h
 refine Call_ (ycl I hg hm boot_enumerate (PyProof.Rows.callWith_type1 (thn (ha pos pins s σ H _ I h) fun us s1 ⟨vs,H1,I1,r1,q1⟩=>?_) hs rfl))
 obtain ⟨l,xs,e,hq,q⟩:=q1
 subst e
 cases r1 with
 | cons r rr=>
  cases rr
  cases r
  obtain ⟨its,rv,pl,hz⟩:=I1.list hq
  refine call_enumerate_list pl.isList fun h' he hit hsz hk=>?_
  refine wpAny_pyIter_enum he ⟨_,[s1.heap.objs.size+1,s1.heap.objs.size],_,Ite X.K l,H1,rfl,I1.kept (t':=s1.toks) hk,qd5 l (s1.heap.objs.size+1) s1.heap.objs.size (Nat.succ_ne_self _),⟨⟨_,he⟩,hit⟩,fun b hb=>?_,q⟩
  have hb':b=s1.heap.objs.size+1∨b=s1.heap.objs.size:=by simpa using hb
  rcases hb' with rfl|rfl
  ·exact I1.fpOk (Nat.le_succ _) (I1.hok.fresh (Nat.le_succ _))
  ·exact I1.fpOk (Nat.le_refl _) (I1.hok.fresh (Nat.le_refl _))
end
theorem qc9 {K:PySem.W.Frag}{a:Addr}{xs:List V}{g:TG}{tb:TS}{D:Ends}{σ:St}{H:Hp} (Pv:Nat→St→Hp→Prop) (h0:Pv 0 σ H) (hl:∀ i σ H,i≤xs.length→Pv i σ H→SqL K H a xs)
  (hs:∀ i x p σ H,xs[i]?=some x→Pv i σ H→H p=none→g (.ref p) σ (upd H p (.tup [.int i,x])) fun σ2 H2=>tb { D with nx:=Pv (i+1),ct:=Pv (i+1),bk:=D.nx } σ2 H2) (hd:∀ σ H,Pv xs.length σ H→D.nx σ H) :
  ∃ W:Nat→Nat→St→Hp→Prop,(∃ m,W 0 m σ H)∧∀ i m σ H,W i m σ H→
   ((Ite K a).stop i H∧D.nx σ H)∨((Ite K a).go i H∧∃ N:St→Hp→Prop,(∀ σ' H',N σ' H'→∃ m',m' < m∧W (i+1) m' σ' H')∧∀ x H',(Ite K a).yld i H x H'→g x σ H' fun σ2 H2=>tb { D with nx:=N,ct:=N,bk:=D.nx } σ2 H2):=by
 refine ⟨fun i m σ H=>m=xs.length-i∧i≤xs.length∧Pv i σ H,⟨xs.length,by simp,Nat.zero_le _,h0⟩,?_⟩
 rintro i m σ H ⟨rfl,hi,p⟩
 have q:=hl i σ H hi p
 by_cases hlt:i<xs.length
 ·refine .inr ⟨⟨xs,xs[i],q,by simp[hlt]⟩,Pv (i+1),fun σ' H' p'=>⟨xs.length-(i+1),by omega,rfl,hlt,p'⟩,fun x H' y=>?_⟩
  obtain ⟨pp,z,hn,e1,e2,y⟩:=y
  subst e1 e2
  exact hs i z pp σ _ (y xs q) p hn
 ·have e:i=xs.length:=by omega
  subst e
  exact .inl ⟨⟨xs,q,Nat.le_refl _⟩,hd σ H p⟩
def clOf (cells:List (Str×Addr)):List (Str×NameKind)→List (Str×Addr)→List (Str×Addr)
 | [],cs=>cs
 | (n,k)::r,cs=>if k=.free then clOf cells r ((n,(cells.lookup n).getD 0)::cs) else clOf cells r cs
theorem ya7 {scope:Scope}{env:Env} (h:∀ x∈scope.names,x.2=.free→∃ c,env.cells.lookup x.1=some c):closureFor scope env=pure (clOf env.cells scope.names []):=by
 unfold closureFor
 generalize hn:scope.names=names at h
 suffices hh:∀ (l:List (Str×NameKind)) (cs:List (Str×Addr)),(∀ x∈l,x.2=.free→∃ c,env.cells.lookup x.1=some c)→
   (forIn l cs (fun (x:Str×NameKind) r=>if (x.2 == NameKind.free)=true then (do let a ← cellOf env x.1;pure (ForInStep.yield ((x.1,a)::r))) else pure (ForInStep.yield r)):Sem (List (Str×Addr)))=pure (clOf env.cells l cs) by
  have:=hh names [] h
  simp only[bind_pure]
  exact this
 intro l
 induction l with
 | nil=>intro cs _;rfl
 | cons x l ih=>
  intro cs hl
  obtain ⟨n,k⟩:=x
  rw[List.forIn_cons]
  by_cases hk:k=.free
  ·subst hk
   obtain ⟨c,hc⟩:=hl (n,.free) List.mem_cons_self rfl
   have e1:cellOf env n=pure c:=by unfold cellOf;rw[hc]
   have ec:clOf env.cells ((n,NameKind.free)::l) cs=clOf env.cells l ((n,c)::cs):=by
    show (if NameKind.free=NameKind.free then _ else _)=_
    rw[if_pos rfl,hc];rfl
   rw[ec]
   simp only[e1,pure_bind,beq_self_eq_true,if_true]
   exact ih _ fun y hy=>hl y (List.mem_cons_of_mem _ hy)
  ·have hb:(k == NameKind.free)=false:=by cases k<;>first|rfl|exact absurd rfl hk
   have ec:clOf env.cells ((n,k)::l) cs=clOf env.cells l cs:=by
    show (if k=NameKind.free then _ else _)=_
    rw[if_neg hk]
   rw[ec]
   simp only[hb,pure_bind,Bool.false_eq_true,if_false]
   exact ih _ fun y hy=>hl y (List.mem_cons_of_mem _ hy)
theorem ya9 {cells:List (Str×Addr)}:∀ {l:List (Str×NameKind)}{cs:List (Str×Addr)},(∀ x∈l,x.2=.free→∃ c,cells.lookup x.1=some c)→(∀ p∈cs,cells.lookup p.1=some p.2)→∀ p∈clOf cells l cs,cells.lookup p.1=some p.2
 | [],_,_,h=>h
 | (n,k)::r,cs,hl,h=>by
  unfold clOf
  split
  ·rename_i hk
   refine ya9 (fun x hx=>hl x (List.mem_cons_of_mem _ hx)) fun p hp=>?_
   rcases List.mem_cons.mp hp with rfl|hp
   ·obtain ⟨c,hc⟩:=hl (n,k) List.mem_cons_self hk
    show cells.lookup n=some ((cells.lookup n).getD 0)
    have hc':cells.lookup n=some c:=hc
    rw[hc'];rfl
   ·exact h p hp
  ·exact ya9 (fun x hx=>hl x (List.mem_cons_of_mem _ hx)) h
theorem qbg {l:List (Str×Addr)}{x:Str} (h:∃ c,(x,c)∈l):∃ c,l.lookup x=some c:=by
 obtain ⟨c,h⟩:=h
 induction l with
 | nil=>cases h
 | cons p r ih=>
  obtain ⟨y,d⟩:=p
  by_cases e:(x == y)=true
  ·exact ⟨d,by rw[List.lookup_cons,e]⟩
  ·have e':(x == y)=false:=by simpa using e
   rcases List.mem_cons.mp h with q|q
   ·cases q;exact absurd (beq_self_eq_true _) e
   ·obtain ⟨c',z⟩:=ih q
    exact ⟨c',by rw[List.lookup_cons,e'];exact z⟩
theorem ybr {cells:List (Str×Addr)}{x:Str}:∀ {l:List (Str×NameKind)}{cs:List (Str×Addr)},((x,NameKind.free)∈l∨∃ c,(x,c)∈cs)→∃ c,(x,c)∈clOf cells l cs
 | [],_,h=>by
  rcases h with h|h
  ·cases h
  ·exact h
 | (n,k)::r,cs,h=>by
  unfold clOf
  split
  ·rename_i hk
   refine ybr ?_
   rcases h with h|⟨c,h⟩
   ·rcases List.mem_cons.mp h with q|q
    ·cases q;exact .inr ⟨_,List.mem_cons_self⟩
    ·exact .inl q
   ·exact .inr ⟨c,List.mem_cons_of_mem _ h⟩
  ·rename_i hk
   refine ybr ?_
   rcases h with h|h
   ·rcases List.mem_cons.mp h with q|q
    ·cases q;exact absurd rfl hk
    ·exact .inl q
   ·exact .inr h
theorem qbo {env:Env}{x:Str}:∀ {l:List (Str×NameKind)},l.lookup x=some .free→
  (l.map fun (n,k)=>if (k == NameKind.free&&env.scope.kind == .function&&env.kindOf n == some .cell) then (n,NameKind.cell) else (n,k)).lookup x=some .cell∨
  (l.map fun (n,k)=>if (k == NameKind.free&&env.scope.kind == .function&&env.kindOf n == some .cell) then (n,NameKind.cell) else (n,k)).lookup x=some .free
 | [],h=>by simp at h
 | (n,k)::r,h=>by
  rw[List.map_cons]
  cases hx:x == n with
  | true=>
   rw[List.lookup_cons,hx] at h
   cases h
   by_cases hc:(NameKind.free == NameKind.free&&env.scope.kind == .function&&env.kindOf n == some .cell)=true
   ·left;simp only[hc,if_true,List.lookup_cons,hx]
   ·right;simp only[hc,Bool.false_eq_true,if_false,List.lookup_cons,hx]
  | false=>
   rw[List.lookup_cons,hx] at h
   have ih:=qbo (env:=env) (l:=r) h
   by_cases hc:(k == NameKind.free&&env.scope.kind == .function&&env.kindOf n == some .cell)=true
   ·simp only[hc,if_true,List.lookup_cons,hx];exact ih
   ·simp only[hc,Bool.false_eq_true,if_false,List.lookup_cons,hx];exact ih
theorem ybv {env:Env}{x:Str}:∀ {l:List (Str×NameKind)},(∀ y∈l,y.2≠.cell)→
  ((l.map fun (n,k)=>if (k == NameKind.free&&env.scope.kind == .function&&env.kindOf n == some .cell) then (n,NameKind.cell) else (n,k)).lookup x=some .cell∨
  (l.map fun (n,k)=>if (k == NameKind.free&&env.scope.kind == .function&&env.kindOf n == some .cell) then (n,NameKind.cell) else (n,k)).lookup x=some .free)→(x,NameKind.free)∈l
 | [],_,h=>by simp at h
 | (n,k)::r,hn,h=>by
  rw[List.map_cons] at h
  cases hx:x == n with
  | true=>
   have e:x=n:=by simpa using hx
   subst e
   by_cases hc:(k == NameKind.free&&env.scope.kind == .function&&env.kindOf x == some .cell)=true
   ·have:k=.free:=by
     simp only[Bool.and_eq_true,beq_iff_eq] at hc
     exact hc.1.1
    subst this
    exact List.mem_cons_self
   ·simp only[hc,Bool.false_eq_true,if_false,List.lookup_cons,hx,Option.some.injEq] at h
    rcases h with h|h
    ·exact absurd h (hn (x,k) List.mem_cons_self)
    ·subst h;exact List.mem_cons_self
  | false=>
   have h':(r.map fun (n,k)=>if (k == NameKind.free&&env.scope.kind == .function&&env.kindOf n == some .cell) then (n,NameKind.cell) else (n,k)).lookup x=some .cell∨
     (r.map fun (n,k)=>if (k == NameKind.free&&env.scope.kind == .function&&env.kindOf n == some .cell) then (n,NameKind.cell) else (n,k)).lookup x=some .free:=by
    by_cases hc:(k == NameKind.free&&env.scope.kind == .function&&env.kindOf n == some .cell)=true
    ·simp only[hc,if_true,List.lookup_cons,hx] at h;exact h
    ·simp only[hc,Bool.false_eq_true,if_false,List.lookup_cons,hx] at h;exact h
   exact List.mem_cons_of_mem _ (ybv (fun y hy=>hn y (List.mem_cons_of_mem _ hy)) h')
def qal (X:Cx) (M:List Str) (scope:Scope) (C:Addr) (fp:List Addr) (s2:Shared) (H2:Hp):Cx:=
 {prog:=X.prog,w:=X.w,K:=X.K,mg:=X.mg,base:=X.base,A:=X.A,N:=M,s₀:=s2,H₀:=H2,env:=compEnvC scope (clOf X.env.cells scope.names []) C X.env,
  outer:=X.stack,stack:=X.stack,ex:=fp,fn:=fun _=>false,calm:=X.calm,pn:=[],xe:=fun _ _=>False }
def capS (ix:List (Option Nat)) (σ:St):St:=ix.map fun o=>match o with
 | none=>none
 | some j=>(σ[j]?).getD none
structure CompOk (N M:List Str) (ix:List (Option Nat)) (sc xs:Scope):Prop where
 kind:sc.kind=.function
 len:M.length=ix.length
 nocell:∀ y∈sc.names,y.2≠.cell
 loc:∀ y∈sc.names,y.2=.local→sc.names.lookup y.1=some .local
 fr:∀ y∈sc.names,y.2=.free→xs.names.lookup y.1=some .cell∨xs.names.lookup y.1=some .free
 cap:∀ (i:Nat) (j:Nat),ix[i]?=some (some j)→∃ x,M[i]?=some x∧N[j]?=some x∧sc.names.lookup x=some .free
def qd8 (N M:List Str) (ix:List (Option Nat)) (sc xs:Scope):Bool:=
 decide (sc.kind=.function)&&decide (M.length=ix.length)&&sc.names.all (fun y=>decide (y.2≠.cell))&&sc.names.all (fun y=>decide (y.2≠.local)||decide (sc.names.lookup y.1=some .local)) &&
 sc.names.all (fun y=>decide (y.2≠.free)||decide (xs.names.lookup y.1=some .cell)||decide (xs.names.lookup y.1=some .free)) &&
 (List.range ix.length).all (fun i=>match ix[i]? with
  | some (some j)=>match M[i]? with
   | some x=>decide (N[j]?=some x)&&decide (sc.names.lookup x=some .free)
   | none=>false
  | _=>true)
theorem ya8 {N M:List Str}{ix:List (Option Nat)}{sc xs:Scope} (h:qd8 N M ix sc xs=true):CompOk N M ix sc xs:=by
 unfold qd8 at h
 simp only[Bool.and_eq_true,List.all_eq_true,decide_eq_true_eq,Bool.or_eq_true] at h
 obtain ⟨⟨⟨⟨⟨h1,h2⟩,h3⟩,h4⟩,h5⟩,h6⟩:=h
 refine ⟨h1,h2,h3,fun y hy e=>?_,fun y hy e=>?_,fun i j e=>?_⟩
 ·rcases h4 y hy with q|q
  ·exact absurd e q
  ·exact q
 ·rcases h5 y hy with (q|q)|q
  ·exact absurd e q
  ·exact .inl q
  ·exact .inr q
 ·have hi:i<ix.length:=(List.getElem?_eq_some_iff.mp e).1
  have q:=h6 i (List.mem_range.mpr hi)
  rw[e] at q
  cases hm:M[i]? with
  | none=>rw[hm] at q;cases q
  | some x=>
   rw[hm] at q
   simp only[Bool.and_eq_true,decide_eq_true_eq] at q
   exact ⟨x,rfl,q.1,q.2⟩
section
variable {X:Cx}
def PTs (X:Cx) (ifs:List Expr) (t:TT):Prop:=
 ∀ (pins:List (Addr×Obj)) (s:Shared) (σ:St) (H:Hp) (Q:Bool→Hp→Prop),Inv X pins σ H s→t σ H Q→
  wpAny (model X.prog X.w) X.A (forIn ifs true fun c r=>if r=true then do let ok ← isTrue c X.env (eval c X.env);pure (ForInStep.yield ok) else pure (ForInStep.yield r)) (TP X pins σ Q) X.xe s
def tYes:TT:=fun _ H Q=>Q true H
theorem yea:PTs X [] tYes:=fun _ _ _ H _ I h=>wpAny_tests_nil ⟨H,I,h⟩
theorem yc2 {c:Expr}{t:TT} (h:PT X c t):PTs X [c] t:=fun pins s σ H Q I hq=>wpAny_tests_one (h pins s σ H Q I hq)
end
theorem Un.butNew {fs ex:List Addr}{H H':Hp}{h h1 h2:Heap}{C:Addr} (u:Un fs ex H H' h h1) (hC:h.objs.size≤C) (sb:Heap.SameBut C h1 h2):Un fs ex H H' h h2:=by
 have ne:∀ b o,h.get? b=some o→b≠C:=fun b o e=>Nat.ne_of_lt (Nat.lt_of_lt_of_le (Heap.lt_size e) hC)
 refine ⟨fun b o e n h3 h4=>(sb.2 b (ne b o e)).trans (u.keep b o e n h3 h4),fun b o e n h3 h4=>?_,u.free,fun b o e h4=>?_,u.tups,u.frzs,u.tbls⟩
 ·obtain ⟨sl,q⟩:=u.slot b o e n h3 h4
  exact ⟨sl,(sb.2 b (ne b o e)).trans q⟩
 ·obtain ⟨o',q⟩:=u.there b o e h4
  exact ⟨o',(sb.2 b (ne b o e)).trans q⟩
section
variable {X:Cx}{pins:List (Addr×Obj)}{σ:St}{H2:Hp}{s2:Shared}{M:List Str}{ix:List (Option Nat)}{scope:Scope}{fp:List Addr}
theorem comp_ok {C:Addr} (I:Inv X pins σ H2 s2) (ck:CompOk X.N M ix scope X.env.scope) (hC:s2.heap.objs.size≤C) (f2:∀ b∈fp,FpOk X pins H2 b) (hfp:∀ b∈fp,b<s2.heap.objs.size):(qal X M scope C fp s2 H2).Ok:=by
 have hfree:∀ x∈scope.names,x.2=.free→∃ c,X.env.cells.lookup x.1=some c:=fun x hx e=>I.ok.has x.1 (ck.fr x hx e)
 have snd:∀ x c,(clOf X.env.cells scope.names []).lookup x=some c→X.env.cells.lookup x=some c:=fun x c e=>ya9 (cs:=[]) hfree (by intro p hp;cases hp) (x,c) (PySem.mem_of_lookup e)
 refine ⟨I.ok.mod,ck.kind,I.ok.glob,I.ok.blt,hC,fun x y c h1 h2=>I.ok.inj x y c (snd x c h1) (snd y c h2),fun x hx=>?_,(by intro x c h;cases h),I.ok.hd,I.ok.frames,.inl rfl,fun b hb=>⟨?_,fun x c e=>?_⟩,fun b o e=>I.bs b o e,
  Nat.le_trans I.ok.bsz I.sz,fun b o e hb=>?_,fun b hb hb2=>?_,I.stack,I.stkFree⟩
 ·exact qbg (ybr (.inl (ybv ck.nocell hx)))
 ·exact Nat.ne_of_lt (Nat.lt_of_lt_of_le (hfp b hb) hC)
 ·exact (f2 b hb).2.2.2.2.1 x c (snd x c e)
 ·rcases (f2 b hb).2.2.2.1 with z|z
  ·exact I.ok.noex b o e z
  ·exact absurd (Nat.lt_of_lt_of_le (Heap.lt_size e) (Nat.le_trans I.ok.bsz z)) (Nat.lt_irrefl _)
 ·obtain ⟨_,n1,n2,_⟩:=f2 b hb
  rcases List.mem_cons.mp (I.stkSub b hb2) with z|z
  ·exact n1 z
  ·exact n2 z
theorem comp_inv {C D:Addr}{h1:Heap}{tk:Nat} (I:Inv X pins σ H2 s2) (ck:CompOk X.N M ix scope X.env.scope) (hC:s2.heap.objs.size≤C) (hD:s2.heap.objs.size≤D) (hDC:C≠D) (f2:∀ b∈fp,FpOk X pins H2 b) (hfp:∀ b∈fp,b<s2.heap.objs.size)
  (old:∀ b o,s2.heap.get? b=some o→h1.get? b=some o) (hn:h1.Ns C fun _=>none) (hnew:h1.get? D=some { cls:=.type "list",data:=.seq #[] }) :
  Inv (qal X M scope C fp s2 H2) [] (capS ix σ) (upd H2 D (.lst [])) { s2 with heap:=h1,toks:=tk }:=by
 have hfree:∀ x∈scope.names,x.2=.free→∃ c,X.env.cells.lookup x.1=some c:=fun x hx e=>I.ok.has x.1 (ck.fr x hx e)
 have snd:∀ x c,(clOf X.env.cells scope.names []).lookup x=some c→X.env.cells.lookup x=some c:=fun x c e=>ya9 (cs:=[]) hfree (by intro p hp;cases hp) (x,c) (PySem.mem_of_lookup e)
 have fD:H2 D=none:=I.hok.fresh hD
 refine ⟨comp_ok I ck hC f2 hfp,rfl,I.bare,Un.laid old hD fD,⟨_,hn,fun i x v e1 e2 e3=>?_⟩,fun x c e=>?_,?_,fun x c e=>?_,(by intro p hp;cases hp),I.hok.laid (o:=.lst []) old hD ⟨Nat.zero_le _,[],0,.nil,hnew⟩,?_⟩
 ·obtain ⟨j,hj,hv⟩:∃ j,ix[i]?=some (some j)∧σ[j]?=some (some v):=by
   unfold capS at e2
   rw[List.getElem?_map] at e2
   cases q:ix[i]? with
   | none=>rw[q] at e2;cases e2
   | some o=>
    rw[q] at e2
    cases o with
    | none=>cases e2
    | some j=>
     refine ⟨j,rfl,?_⟩
     have e2':(σ[j]?).getD none=some v:=Option.some.inj e2
     cases z:σ[j]? with
     | none=>rw[z] at e2';cases e2'
     | some y=>rw[z] at e2';rw[show y=some v from e2']
  obtain ⟨y,hm,hN,hf⟩:=ck.cap i j hj
  have e1':M[i]?=some x:=e1
  rw[hm] at e1';cases e1'
  obtain ⟨m,hnl,hl⟩:=I.loc
  have hmem:(x,NameKind.free)∈scope.names:=PySem.mem_of_lookup hf
  have hk:=ck.fr _ hmem rfl
  obtain ⟨u,ru,lk⟩:=hl j x v hN hv (hk.elim (fun z=>.inr (.inl z)) fun z=>.inr (.inr z))
  refine ⟨u,ru,.inr ⟨qbo hf,?_⟩⟩
  rcases lk with ⟨kl,_⟩|⟨_,c,hc,hcell⟩
  ·have kl':X.env.scope.names.lookup x=some .local:=kl
   rcases hk with z|z
   ·rw[z] at kl';cases kl'
   ·rw[z] at kl';cases kl'
  ·obtain ⟨c2,h2⟩:=qbg (ybr (cells:=X.env.cells) (cs:=[]) (.inl hmem))
   have h3:=snd x c2 h2
   rw[hc] at h3;cases h3
   obtain ⟨o,ho,hd⟩:=hcell
   exact ⟨c,h2,o,old c o ho,hd⟩
 ·obtain ⟨v,o,ho,hd⟩:=I.cell x c (snd x c e)
  exact ⟨v,o,old c o ho,hd⟩
 ·show upd H2 D (.lst []) C=none
  rw[yab hDC]
  exact I.hok.fresh hC
 ·show upd H2 D (.lst []) c=none
  obtain ⟨v,z⟩:=I.cell x c (snd x c e)
  rw[yab (Nat.ne_of_lt (Nat.lt_of_lt_of_le z.lt hD))]
  exact I.freeC x c (snd x c e)
 ·show (capS ix σ).length=M.length
  unfold capS
  rw[List.length_map,ck.len]
theorem yd9 {C:Addr}{σ':St}{H':Hp}{s':Shared}{h2:Heap}{pl:List (Addr×Obj)} (I:Inv X pins σ H2 s2) (J:Inv (qal X M scope C fp s2 H2) pl σ' H' s') (f2:∀ b∈fp,FpOk X pins H2 b) (sb:Heap.SameBut C s'.heap h2):Inv X pins σ H' { s' with heap:=h2 }:=by
 have hC:s2.heap.objs.size≤C:=J.ok.above
 refine I.call' (s':={ s' with heap:=h2 }) (ch:=fp) J.os (Un.butNew J.base hC sb) (fun a o e=>?_) J.bare fun b hb=>?_
 ·have fr:H' C=none:=J.free
  refine (J.hok a o e).stay (fun c v hc q=>(sb.2 c ?_).trans q) (fun _ q=>q) fun _ _ q=>q
  rintro rfl
  rcases hc with z|z
  ·rw[← z,fr] at e;cases e
  ·rw[fr] at z;cases z
 ·obtain ⟨_,n1,_,n3,n4,n5⟩:=f2 b hb
  exact ⟨n3,n1,n4,n5⟩
end
def yay (l l':St):Prop:=l'.length=l.length∧∀ (i:Nat) (v:V),l[i]?=some (some v)→l'[i]?=some (some v)
theorem yay.refl (l:St):yay l l:=⟨rfl,fun _ _ h=>h⟩
theorem yay.set {l l':St}{i:Nat}{x:Option V} (h:yay l l') (hi:l[i]?=some none):yay l (l'.set i x):=by
 refine ⟨by rw[List.length_set];exact h.1,fun j v e=>?_⟩
 by_cases hj:j=i
 ·subst hj;rw[hi] at e;cases e
 ·rw[List.getElem?_set_ne (Ne.symm hj)];exact h.2 j v e
def tComp (wi:TI) (ix:List (Option Nat)) (g:TG) (tt:TT) (te:TE):TE:=fun σ H Q=>wi σ H fun J H1=>∀ D,H1 D=none→∃ W:Nat→Nat→Hp→Prop,(∃ m,W 0 m (upd H1 D (.lst [])))∧∀ i m H,W i m H→
 (J.stop i H∧Q (.ref D) H)∨(J.go i H∧∃ N:Hp→Prop,(∀ H',N H'→∃ m',m' < m∧W (i+1) m' H')∧∀ x H',J.yld i H x H'→g x (capS ix σ) H' fun σ2 H2=>yay (capS ix σ) σ2∧tt σ2 H2 fun b H3=>
  if b=true then te σ2 H3 fun v H4=>∃ ys,H4 D=some (.lst ys)∧ys.length<sizeLine∧N (upd H4 D (.lst (ys++[v]))) else N H3)
section
variable {X:Cx}{elt tg iter:Expr}{ifs:List Expr}{scope:Scope}{pos:Pos}{wi:TI}{g:TG}{tt:TT}{te:TE}{M:List Str}{ix:List (Option Nat)}
theorem yd7 {pins:List (Addr×Obj)}{σ:St}{H2 H4:Hp}{s2 s4:Shared}{fp:List Addr}{it C D:Addr}{tn:Nat→Heap→Prop}{J:It}{R:Result→Shared→Prop}{QD:Hp→Prop} (I2:Inv X pins σ H2 s2) (hc:X.calm=true)
  (f2:∀ b∈fp,FpOk X pins H2 b) (T:Turn X.prog X.w X.K tg J fp it tn)
  (hg:PG (qal X M scope C fp s2 H2) tg g) (ht:PTs (qal X M scope C fp s2 H2) ifs tt) (he:PE (qal X M scope C fp s2 H2) elt te)
  (I4:Inv (qal X M scope C fp s2 H2) [] (capS ix σ) H4 s4) (st4:tn 0 s4.heap) (fr4:∀ b∈fp,H4 b=none) (W:Nat→Nat→Hp→Prop) (m0:Nat) (w0:W 0 m0 H4)
  (turn:∀ i m H,W i m H→(J.stop i H∧QD H)∨(J.go i H∧∃ N:Hp→Prop,(∀ H',N H'→∃ m',m' < m∧W (i+1) m' H')∧∀ x H',J.yld i H x H'→g x (capS ix σ) H' fun σ2 H2=>yay (capS ix σ) σ2∧tt σ2 H2 fun b H3=>
   if b=true then te σ2 H3 fun v H4=>∃ ys,H4 D=some (.lst ys)∧ys.length<sizeLine∧N (upd H4 D (.lst (ys++[v]))) else N H3))
  (fin:∀ H' s',Inv (qal X M scope C fp s2 H2) [] (capS ix σ) H' s'→QD H'→R (.ok .next) s') :
  codeAny (model X.prog X.w) X.A (.compLoop (.ListComp elt [⟨tg,iter,ifs,0⟩] scope pos) 0 (.ref it) (.ref D) (compEnvC scope (clOf X.env.cells scope.names []) C X.env)) R s4:=by
 have stat:∀ {H':Hp},(∀ b∈fp,H' b=none)→∀ b∈fp,FpOk (qal X M scope C fp s2 H2) [] H' b:=fun {H'} hn b hb=>
  ⟨hn b hb,(I4.ok.exf b hb).1,I4.ok.exfs b hb,.inl hb,(I4.ok.exf b hb).2,by intro p hp;cases hp⟩
 refine codeAny_loop rfl (fun n s'=>∃ i H',Inv (qal X M scope C fp s2 H2) [] (capS ix σ) H' s'∧tn i s'.heap∧(∀ b∈fp,H' b=none)∧W i n H') ?_ m0 ⟨0,H4,I4,st4,fr4,w0⟩
 rintro n s5 ⟨i,H5,I5,st5,fr5,w5⟩
 show wpAny (model X.prog X.w) X.A ((compTurn (.ListComp elt [⟨tg,iter,ifs,0⟩] scope pos) 0 (.ref it) (.ref D) (compEnvC scope (clOf X.env.cells scope.names []) C X.env)).onRaise (fun x=>do noteFrame x (compEnvC scope (clOf X.env.cells scope.names []) C X.env);theTreesLotGoes x)) _ _ s5
 refine wpAny_noted ?_
 rw[compTurn_list]
 refine wpAny_bind (wpAny_standAt (wpAny_bind ?_))
 rcases turn i n H5 w5 with ⟨stop,qn⟩|⟨go,N,hN,step⟩
 ·refine thn (T.done (qal X M scope C fp s2 H2) rfl rfl rfl hc i [] s5 (capS ix σ) H5 _ I5 (stat fr5) st5 stop) fun r s6 ⟨hr,I6⟩=>?_
  subst hr
  exact wpAny_pure (fin H5 s6 I6 qn)
 ·refine thn (T.item (qal X M scope C fp s2 H2) rfl rfl rfl hc i [] s5 (capS ix σ) H5 _ I5 (stat fr5) st5 go) fun r s6 ⟨u,hr,h6⟩=>?_
  subst hr
  refine wpAny_bind (thn h6 fun _ s7 ⟨x,H7,I7,r7,y7,st7,fr7⟩=>?_)
  have I7':=I7.pinned (stat fr7) (T.obj _ _ st7)
  refine wpAny_bind (wpAny_mono (hg _ s7 (capS ix σ) H7 x u _ I7' r7 (step x H7 y7)) (fun _ s8 ⟨σ8,H8,I8,k8,q8⟩=>?_) fun _ _ z=>False.elim z)
  refine wpAny_bind (wpAny_mono (ht _ s8 σ8 H8 _ I8 q8) (fun ok s9 ⟨H9,I9,q9⟩=>?_) fun _ _ z=>False.elim z)
  have again:∀ {Ha:Hp}{sa:Shared},Inv (qal X M scope C fp s2 H2) ([]++ycs fp s7.heap) σ8 Ha sa→N Ha→∃ m,m<n∧∃ i H',Inv (qal X M scope C fp s2 H2) [] (capS ix σ) H' sa∧tn i sa.heap∧(∀ b∈fp,H' b=none)∧W i m H':=fun {Ha sa} Ia na=>by
   obtain ⟨m',hm,wa⟩:=hN Ha na
   refine ⟨m',hm,i+1,Ha,Ia.unpinned.weak k8.1.symm k8.2,T.keep _ _ _ st7 fun b hb o e=>(Ia.pin (b,o) (List.mem_append_right _ (List.mem_append_right _ (qa9 hb e)))).1,fun b hb=>?_,wa⟩
   obtain ⟨o,e,d⟩:=T.obj _ _ st7 b hb
   exact (Ia.pin (b,o) (List.mem_append_right _ (List.mem_append_right _ (qa9 hb e)))).2.1
  cases ok with
  | false=>exact wpAny_pure ⟨rfl,again I9 q9⟩
  | true=>
   refine wpAny_bind (wpAny_bind (wpAny_mono (he _ s9 σ8 H9 _ I9 q9) (fun xv s10 ⟨v,H10,I10,r10,ys,hD,hl,q10⟩=>?_) fun _ _ z=>False.elim z))
   refine wpAny_bind (wpAny_mono (yax (X:=qal X M scope C fp s2 H2) _ s10 σ8 H10 (.ref D) [v] (.ref D) [xv] (fun _ H'=>N H') I10 rfl (.cons r10 .nil) ⟨D,ys,v,rfl,rfl,hD,hl,q10⟩) (fun _ s11 ⟨_,H11,I11,_,q11⟩=>?_) fun _ _ z=>False.elim z)
   exact wpAny_pure (wpAny_pure ⟨rfl,again I11 q11⟩)
theorem yb4 {pins:List (Addr×Obj)}{σ:St}{H2:Hp}{s2:Shared}{fp:List Addr}{it:Addr}{tn:Nat→Heap→Prop}{J:It}{E:Value→Shared→Prop}{QD:Addr→Hp→Prop}{RR:Value→Addr→Result→Shared→Prop} (I2:Inv X pins σ H2 s2) (hc:X.calm=true)
  (ck:CompOk X.N M ix scope X.env.scope) (f2:∀ b∈fp,FpOk X pins H2 b) (T:Turn X.prog X.w X.K tg J fp it tn) (st2:tn 0 s2.heap)
  (hg:∀ C fp s2 H2,PG (qal X M scope C fp s2 H2) tg g) (ht:∀ C fp s2 H2,PTs (qal X M scope C fp s2 H2) ifs tt) (he:∀ C fp s2 H2,PE (qal X M scope C fp s2 H2) elt te)
  (rd:∀ D,H2 D=none→∃ W:Nat→Nat→Hp→Prop,(∃ m,W 0 m (upd H2 D (.lst [])))∧∀ i m H,W i m H→
   (J.stop i H∧QD D H)∨(J.go i H∧∃ N:Hp→Prop,(∀ H',N H'→∃ m',m' < m∧W (i+1) m' H')∧∀ x H',J.yld i H x H'→g x (capS ix σ) H' fun σ2 H2=>yay (capS ix σ) σ2∧tt σ2 H2 fun b H3=>
    if b=true then te σ2 H3 fun v H4=>∃ ys,H4 D=some (.lst ys)∧ys.length<sizeLine∧N (upd H4 D (.lst (ys++[v]))) else N H3))
  (fin:∀ D C H' s',QD D H'→(∃ m,s'.heap.Ns C m)→(∀ h2,Heap.SameBut C s'.heap h2→Inv X pins σ H' { s' with heap:=h2 })→FpOk X pins H' C→RR (.ref D) C (.ok .next) s') :
  wpAny (model X.prog X.w) X.A (newList []) (fun acc s3=>wpAny (model X.prog X.w) X.A (newFunctionEnv scope X.env.globals (clOf X.env.cells scope.names []) [] X.env.qual none .none (some X.env)) (fun cenv s4=>
   codeAny (model X.prog X.w) X.A (.compStart (.ListComp elt [⟨tg,iter,ifs,0⟩] scope pos) 0 (.ref it) acc { cenv with scope:=relabel scope X.env }) (RR acc cenv.locals) s4) E s3) E s2:=by
 have hfp:∀ b∈fp,b<s2.heap.objs.size:=fun b hb=>by obtain ⟨o,e,_⟩:=T.obj 0 _ st2 b hb;exact Heap.lt_size e
 refine wpAny_newObj_type (wpAny_newFunctionEnv ck.nocell (by intro y hy;simp at hy) (fun h1 hn1 hsb1=>?_) ck.kind)
 dsimp only at hn1 hsb1 ⊢
 generalize hP:s2.heap.push { cls:=.type "list",dict:=none,data:=.seq ([]:List Value).toArray }=hh at hn1 hsb1 ⊢
 have hCz:hh.objs.size=s2.heap.objs.size+1:=by rw[← hP,Heap.size_push]
 have hCD:hh.objs.size≠s2.heap.objs.size:=by omega
 have old:∀ b o,s2.heap.get? b=some o→h1.get? b=some o:=fun b o e=>by
  have hb:b<s2.heap.objs.size:=Heap.lt_size e
  exact hsb1.extBut b o (Nat.ne_of_lt (by rw[hCz];exact Nat.lt_succ_of_lt hb)) (Heap.get?_push_of_some _ (hP ▸ Heap.get?_push_of_some _ e))
 have hnew:h1.get? s2.heap.objs.size=some { cls:=.type "list",data:=.seq #[] }:=hsb1.extBut _ _ hCD.symm (Heap.get?_push_of_some _ (hP ▸ Heap.get?_push_size _ rfl))
 obtain ⟨W,⟨m0,w0⟩,turn⟩:=rd s2.heap.objs.size (I2.hok.fresh (Nat.le_refl _))
 have I4:=comp_inv (M:=M) (ix:=ix) (scope:=scope) (fp:=fp) (tk:=s2.toks+([]:List (Str×Value)).length) I2 ck (C:=hh.objs.size) (D:=s2.heap.objs.size) (by omega) (Nat.le_refl _) hCD f2 hfp old hn1 hnew
 have st4:tn 0 h1:=T.keep _ _ _ st2 fun b _ o e=>old b o e
 have fr4:∀ b∈fp,upd H2 s2.heap.objs.size (.lst []) b=none:=fun b hb=>by rw[yab (Nat.ne_of_lt (hfp b hb))];exact (f2 b hb).1
 have lp:codeAny (model X.prog X.w) X.A (.compLoop (.ListComp elt [⟨tg,iter,ifs,0⟩] scope pos) 0 (.ref it) (.ref s2.heap.objs.size) (compEnvC scope (clOf X.env.cells scope.names []) hh.objs.size X.env)) (RR (.ref s2.heap.objs.size) hh.objs.size) { s2 with heap:=h1,toks:=s2.toks+([]:List (Str×Value)).length }:=by
  refine yd7 (QD:=QD s2.heap.objs.size) I2 hc f2 T (hg _ _ _ _) (ht _ _ _ _) (he _ _ _ _) I4 st4 fr4 W m0 w0 turn fun H' s' J' q'=>?_
  obtain ⟨m,hm,_⟩:=J'.loc
  exact fin _ _ H' s' q' ⟨m,hm⟩ (fun h2 sb=>yd9 I2 J' f2 sb) (I2.fpOk (by omega) J'.free)
 exact codeAny_compStart_list lp (T.self _ 0 _ _ _ st4 lp)
theorem qcw (hc:X.calm=true) (ck:CompOk X.N M ix scope X.env.scope) (hi:PI X tg iter wi) (hg:∀ C fp s2 H2,PG (qal X M scope C fp s2 H2) tg g) (ht:∀ C fp s2 H2,PTs (qal X M scope C fp s2 H2) ifs tt) (he:∀ C fp s2 H2,PE (qal X M scope C fp s2 H2) elt te)
  (hs:∀ x,foldedSetIterable iter X.env x=pure x:=by intro _;rfl):PE X (.ListComp elt [⟨tg,iter,ifs,0⟩] scope pos) (tComp wi ix g tt te):=by
 intro pins s σ H Q I h
 have hfree:∀ x∈scope.names,x.2=.free→∃ c,X.env.cells.lookup x.1=some c:=fun x hx e=>I.ok.has x.1 (ck.fr x hx e)
 rw[eval_ListComp]
 refine wpAny_comprehension_free (use:=none) (cl:=clOf X.env.cells scope.names []) rfl hs (ya7 hfree) ck.kind ck.loc (thn (hi pins s σ H _ I h) fun v s1 h1=>thn h1 fun itv s2 h2=>?_)
 obtain ⟨it,fp,tn,J,H2,e,I2,T,st2,f2,rd⟩:=h2
 subst e
 refine yb4 (QD:=fun D H'=>Q (.ref D) H') I2 hc ck f2 T st2 hg ht he rd fun D C H' s' q hm hb _=>?_
 obtain ⟨m,hm⟩:=hm
 exact ⟨m,hm,fun h2 sb=>⟨.ref D,H',hb h2 sb,rfl,q⟩⟩
def tCompSet (wi:TI) (ix:List (Option Nat)) (g:TG) (tt:TT) (te:TE) (i:Nat):TS:=fun D σ H=>tComp wi ix g tt te σ H fun x H1=>D.nx (σ.set i (some x)) H1
theorem yd5 {i:Nat}{x:Str}{pos' spos:Pos} (hsw:swapsWith (.ListComp elt [⟨tg,iter,ifs,0⟩] scope pos) (some (.Name x pos')) spos.line X.env=pure true) (hN:X.N.Nodup) (hix:X.N[i]?=some x) (hx:Loc X.env.scope x)
  (hc:X.calm=true) (ck:CompOk X.N M ix scope X.env.scope) (hi:PI X tg iter wi) (hg:∀ C fp s2 H2,PG (qal X M scope C fp s2 H2) tg g) (ht:∀ C fp s2 H2,PTs (qal X M scope C fp s2 H2) ifs tt) (he:∀ C fp s2 H2,PE (qal X M scope C fp s2 H2) elt te)
  (hs:∀ x,foldedSetIterable iter X.env x=pure x:=by intro _;rfl) (hf:X.fn x=true∨X.env.scope.names.lookup x=some .local:=by first|exact .inl rfl|exact .inr rfl|assumption) :
  PS X (.Assign [.Name x pos'] (.ListComp elt [⟨tg,iter,ifs,0⟩] scope pos) spos) (tCompSet wi ix g tt te i):=by
 intro pins s σ H D0 I h
 have hfree:∀ x∈scope.names,x.2=.free→∃ c,X.env.cells.lookup x.1=some c:=fun x hx e=>I.ok.has x.1 (ck.fr x hx e)
 rw[exec_Assign_Name_used _ _ _ _ hsw]
 refine wpAny_bind (wpAny_standAt (wpAny_bind ?_))
 show wpAny _ X.A (do let _ ← comprehension (.ListComp elt [⟨tg,iter,ifs,0⟩] scope pos) scope X.env _ (newList []) false (eval iter X.env) (some (assign (.Name x pos') X.env))) _ _ s
 refine wpAny_bind (wpAny_mono (wpAny_comprehension_free (use:=some (assign (.Name x pos') X.env)) (Q:=fun _ s'=>SP X pins D0 .next s') (cl:=clOf X.env.cells scope.names []) rfl hs (ya7 hfree) ck.kind ck.loc
  (thn (hi pins s σ H _ I h) fun v s1 h1=>thn h1 fun itv s2 h2=>?_)) (fun _ s' hq=>wpAny_pure (wpAny_pure hq)) fun _ _ e=>e)
 obtain ⟨it,fp,tn,J,H2,e,I2,T,st2,f2,rd⟩:=h2
 subst e
 refine yb4 (QD:=fun D H'=>D0.nx (σ.set i (some (.ref D))) H') I2 hc ck f2 T st2 hg ht he rd fun D C H' s' q hm hb fpk=>?_
 obtain ⟨m,hm⟩:=hm
 obtain ⟨g0,g1,g2,g3,g4,g5⟩:=fpk
 have I5:Inv X pins σ H' s':=hb s'.heap ⟨rfl,fun _ _=>rfl⟩
 show wpAny (model X.prog X.w) X.A (assign (.Name x pos') X.env (.ref D)) _ _ s'
 refine wpAny_assign_Name (qcj (v:=.ref D) I5 hN hix hx rfl (fun s6 I6 ⟨a,sb,ha⟩=>?_) hf)
 have hCa:C≠a:=by
  rcases ha with ha|ha
  ·rw[ha];exact g1
  ·exact (g4 x a ha).symm
 refine ⟨m,hm.sameBut sb hCa,fun h2 sb2=>⟨_,H',I6.turned (t':=s6.toks) (fun b o hb e=>(sb2.2 b hb).trans e) g0 g1 g3 g4 g5,q⟩⟩
end
def FnAt (K:PySem.W.Frag) (mg:Str→Option Value) (x:Str) (st:Stmt) (ps:List Str):Prop:=∃ f fd,mg x=some (.ref f)∧Fun K x x st f fd∧ycy K fd ps []
def Has (P:Program) (w:World) (K:PySem.W.Frag) (mg:Str→Option Value) (base:Heap) (k:Nat) (x:Str) (ps:List Str) (sp:Sp):Prop:=
 ∃ f fd,mg x=some (.ref f)∧PySem.W.keepIn K (.ref f)=true∧ycy K fd ps []∧FnOk P w K mg base CX0 k f fd ps sp
section
variable {P:Program}{w:World}{K:PySem.W.Frag}{mg:Str→Option Value}{base:Heap}
theorem Has.of {x:Str}{st:Stmt}{ps N:List Str}{k:Nat}{sp:Sp} (F:FnAt K mg x st ps) (S:FnScope N ps (yad st)) (len:∀ vs H Q E,sp vs H Q E→vs.length=ps.length)
  (hbody:∀ (f:Addr) (cdv:Value) (A:Around) (outer:List Env) (s:Shared) (H:Hp) (vs:List V) (Q:VK) (E:XK),Room k (A.deeper (envOfC x (yad st) s.heap.objs.size f cdv))→sp vs H Q E→
   ∃ t,PSs (cxOf CX0 P w K mg base N x (yad st) f cdv A outer s H E).nox (yaq st) t∧t { nx:=fun _ H'=>Q .non H',rt:=Q } (start N vs) H):Has P w K mg base (k+1) x ps sp:=by
 obtain ⟨f,fd,h1,h2,h3⟩:=F
 exact ⟨f,fd,h1,h2.kp,h3,h2.ok S len fun cdv A outer s H vs Q E hr h=>hbody f cdv A outer s H vs Q E hr h⟩
end
section
variable {X:Cx}
theorem pe_callH {k m:Nat}{x:Str}{ps:List Str}{sp:Sp}{e:Expr}{es:List Expr}{t:TA}{p pos:Pos} (h:Has X.prog X.w X.K X.mg X.base k x ps sp) (hr:Room m X.A) (ha:PA X (e::es) t) (hk:k≤m:=by decide) (hg:Gl X x:=by rfl)
  (hdb:(x == ("__debug__" : Str))=false:=by decide) (he:starEach (e::es) X.env=(false,eval e X.env)::starEach es X.env:=by rfl) (hpl:(backTo pos (starEach es X.env)).any (·.1)=false:=by rfl) :
  PE X (.Call (.Name x p) (e::es) [] pos) (tCall sp [] E0 t):=by
 obtain ⟨f,fd,h1,h2,h3,h4⟩:=h
 exact pe_call h4 (hr.mono hk) hg h1 h2 h3 .nil pass0 ha hdb he hpl
end
def qcy:List Str:=["len","abs","max","min","repr","isinstance","int","bool","str","tuple","list","dict","range","enumerate","sorted","sum"]
structure Bl (mg:Str→Option Value):Prop where
 all:∀ x∈qcy,mg x=none
theorem Bl.of {mg:Str→Option Value} (B:Bl mg) {x:Str} (h:qcy.contains x=true):mg x=none:=B.all x (by simpa using h)
section
variable {X:Cx}
def rIsi (K:PySem.W.Frag):List V→Hp→VK→Prop:=fun xs H Q=>∃ x T t b,xs=[x,.ty T]∧TyOf K H x t∧PySem.W.kitOne K t (.type T)=some b∧Q (.bl b) H
theorem yba:ybp X (.builtin "isinstance") (rIsi X.K):=by
 intro pins s σ H xs us Q I r h
 obtain ⟨x,T,t,b,rfl,ht,hk,q⟩:=h
 cases r with
 | cons r rr=>
  cases rr with
  | cons r' rr=>
   cases rr
   cases r'
   exact qed I r ht hk fun tk=>⟨.bl b,H,I.tok _,rfl,q⟩
end
def tCut (t u:TS):TS:=fun D σ H=>∃ R:St→Hp→Prop,t { D with nx:=R } σ H∧∀ σ' H',R σ' H'→u D σ' H'
theorem pss_cut {X:Cx}{st:Stmt}{rest:List Stmt}{t u:TS} (h1:PS X st t) (h2:PSs X rest u):PSs X (st::rest) (tCut t u):=by
 intro pins s σ H D I h
 obtain ⟨R,h,hR⟩:=h
 refine wpAny_execs_cons (thn (h1 pins s σ H { D with nx:=R } I h) fun f s1 q=>?_)
 cases f with
 | next=>
  obtain ⟨σ',H',I',q⟩:=q
  exact h2 pins s1 σ' H' D I' (hR σ' H' q)
 | ret v=>exact q
 | brk=>exact q
 | cont=>exact q
theorem Same.upd {H H1:Hp}{p:Addr}{o:HO} (s:Same H H1) (h:H1 p=none):Same H (upd H1 p o):=fun b u e=>by
 have e1:=s b u e
 rw[yab (qaa e1 h)];exact e1
theorem Same.at {H H1:Hp}{p:Addr}{o:HO} (s:Same H H1) (h:H p=none):Same H (L2.upd H1 p o):=fun b u e=>by
 rw[yab (qaa e h)];exact s b u e
theorem yb1 {n:Nat} (h:n≤100000):n≤sizeLine:=Nat.le_trans h (by decide)
theorem qa7 {n:Nat} (h:n≤100000):n<sizeLine:=Nat.lt_of_le_of_lt h (by decide)
theorem yas {α:Type}{xs:List α}{i:Int}{v:α} (j:Nat) (h:xs[j]?=some v) (e:i=(j:Int):=by rfl):atI xs i=some v:=by
 rw[e];exact qbf h
theorem qbv {J:It}{n:Nat}{g:TG}{tt:TT}{te:TE}{ix:List (Option Nat)}{σ:St}{H:Hp}{QD:Hp→Prop}{D:Addr} (Pv:Nat→Hp→Prop) (h0:Pv 0 (upd H D (.lst []))) (stop:∀ H',Pv n H'→J.stop n H'∧QD H')
  (step:∀ i H',i<n→Pv i H'→J.go i H'∧∀ x H2,J.yld i H' x H2→g x (capS ix σ) H2 fun σ2 H3=>yay (capS ix σ) σ2∧tt σ2 H3 fun b H4=>
   if b=true then te σ2 H4 fun v H5=>∃ ys,H5 D=some (.lst ys)∧ys.length<sizeLine∧Pv (i+1) (upd H5 D (.lst (ys++[v]))) else Pv (i+1) H4) :
  ∃ W:Nat→Nat→Hp→Prop,(∃ m,W 0 m (upd H D (.lst [])))∧∀ i m H,W i m H→
   (J.stop i H∧QD H)∨(J.go i H∧∃ N:Hp→Prop,(∀ H',N H'→∃ m',m' < m∧W (i+1) m' H')∧∀ x H',J.yld i H x H'→g x (capS ix σ) H' fun σ2 H2=>yay (capS ix σ) σ2∧tt σ2 H2 fun b H3=>
    if b=true then te σ2 H3 fun v H4=>∃ ys,H4 D=some (.lst ys)∧ys.length<sizeLine∧N (upd H4 D (.lst (ys++[v]))) else N H3):=by
 refine ⟨fun i m H=>m=n-i∧i≤n∧Pv i H,⟨n,by simp,Nat.zero_le _,h0⟩,?_⟩
 rintro i m H ⟨rfl,hi,p⟩
 by_cases hlt:i<n
 ·obtain ⟨g1,g2⟩:=step i H hlt p
  exact .inr ⟨g1,Pv (i+1),fun H' p'=>⟨n-(i+1),by omega,rfl,hlt,p'⟩,g2⟩
 ·have e:i=n:=by omega
  subst e
  exact .inl (stop H p)
theorem yc9 {xs:List V} (k:Nat):cutV xs none (some (k:Int))=xs.take k:=by
 unfold cutV
 rw[HT.sIx_none,HT.sIx_nat,List.drop_zero,Nat.sub_zero]
 by_cases h:k≤xs.length
 ·rw[Nat.min_eq_left h]
 ·rw[Nat.min_eq_right (by omega),List.take_length,List.take_of_length_le (by omega)]
theorem cut_drop {xs:List V} (k:Nat):cutV xs (some (k:Int)) none=xs.drop k:=by
 unfold cutV
 rw[HT.sIx_none,HT.sIx_nat]
 by_cases h:k≤xs.length
 ·rw[Nat.min_eq_left h]
  exact List.take_of_length_le (by rw[List.length_drop];exact Nat.le_refl _)
 ·rw[Nat.min_eq_right (by omega),List.drop_eq_nil_of_le (show xs.length≤k by omega),List.drop_length];simp
theorem yes {σ:St}{H:Hp}{A B:Hp→Prop} (h:A H):tYes σ H fun b H'=>if b=true then A H' else B H':=iteT (B:=B H) h
section
variable {X:Cx}{K:PySem.W.Frag}
theorem yc0 (h:X.K=K):IxR X (rIxT K):=h ▸ qb4
theorem sl_listK (h:X.K=K):SlR X (rSlL K):=h ▸ qbz
theorem ybj (h:X.K=K):OpR X (compareOp .NotIn) (rIn K true):=h ▸ qcr
theorem qec {es:List Expr}{k:Nat}{t:TGs}{n:Nat}{pos:Pos} (h:X.K=K) (hc:X.calm=true) (hh:PGs X es t)
  (hn:(assignEach es X.env).length=n:=by rfl) (hst:(assignEach es X.env).findIdx? (·.1)=none:=by rfl):PG X (.Tuple es k pos) (gTup K n t):=by
 subst h;exact yco hc hh hn hst
end
def rEqD:R2:=fun x y H Q=>∃ dx dy,At H x dx∧At H y dy∧dx.canLay0=true∧dy.canLay0=true∧dx.depth≤60∧Q (.bl (PyData.eqv dx dy)) H
def rNeD:R2:=fun x y H Q=>∃ dx dy,At H x dx∧At H y dy∧dx.canLay0=true∧dy.canLay0=true∧dx.depth≤60∧Q (.bl (!PyData.eqv dx dy)) H
section
variable {X:Cx}
theorem op_eqD {k:Nat} (hr:Room k X.A):OpR X (compareOp .Eq) rEqD:=by
 intro pins s σ H x y v u Q I rx ry h
 obtain ⟨dx,dy,h1,h2,c1,c2,hd,q⟩:=h
 obtain ⟨as,r1⟩:=h1.reads I.hok rx
 obtain ⟨bs,r2⟩:=h2.reads I.hok ry
 have hu:=hr.units
 exact PySem.SeqAt.rcAt_reads r1 r2 c1 c2 (by have:=Nat.min_le_left dx.depth dy.depth;omega) _ _ _ _ ⟨.bl _,H,I,rfl,q⟩
theorem op_neD {k:Nat} (hr:Room k X.A):OpR X (compareOp .NotEq) rNeD:=by
 intro pins s σ H x y v u Q I rx ry h
 obtain ⟨dx,dy,h1,h2,c1,c2,hd,q⟩:=h
 obtain ⟨as,r1⟩:=h1.reads I.hok rx
 obtain ⟨bs,r2⟩:=h2.reads I.hok ry
 have hu:=hr.units
 exact PySem.SeqAt.rcNeAt_reads r1 r2 c1 c2 (by have:=Nat.min_le_left dx.depth dy.depth;omega) _ _ _ _ ⟨.bl _,H,I,rfl,q⟩
end
end L2
namespace Mx
open PySem L2 PyProof.Rows
section
variable {X:Cx}{es:List Expr}{te:TE}{t:TA}{pos:Pos}
theorem pa_cs {k:Const}{j} (ha:PE X (.Constant k j pos) te) (hr:PA X es t):PA X (.Constant k j pos::es) (qb1 te t):=yae ha hr rfl
theorem pa_nm {x:Str} (ha:PE X (.Name x pos) te) (hr:PA X es t):PA X (.Name x pos::es) (qb1 te t):=yae ha hr rfl
theorem pa_cl {f xs ks} (ha:PE X (.Call f xs ks pos) te) (hr:PA X es t):PA X (.Call f xs ks pos::es) (qb1 te t):=yae ha hr rfl
end
structure QS (X:Cx) (st:Stmt) (t:TS):Prop where
 of:PS X st t
structure QSs (X:Cx) (ss:List Stmt) (t:TS):Prop where
 of:PSs X ss t
section
variable {X:Cx}{st:Stmt}{rest a b:List Stmt}{t u:TS}{pos:Pos}{e:Expr}{te:TE}
theorem qap:QSs X [] tNext:=⟨pss_nil⟩
theorem qae (h:QS X st t):QSs X [st] t:=⟨ybt h.of⟩
theorem qac (h:QS X st t) (r:QSs X rest u):QSs X (st::rest) (tSeq t u):=⟨ya1 h.of r.of⟩
theorem ydk (h:QS X st t) (r:QSs X rest u):QSs X (st::rest) (tCut t u):=⟨pss_cut h.of r.of⟩
theorem qd2 (h:PS X st t):QS X st t:=⟨h⟩
end
end Mx
namespace L2
open PySem PySem.Spec PyProof.Rows
theorem qau:bootBuiltins "sorted" = some (.builtin "sorted"):=by decide +kernel
theorem qbx:∀ {us:List Value}{ns:List Int},IntsAre us ns→Vals (ns.map V.int) us
 | _,_,.nil=>.nil
 | _,_,.cons n t r=>.cons ⟨t,rfl⟩ (qbx r)
section
variable {X:Cx}
def rSortI:List V→Hp→VK→Prop:=fun xs H Q=>∃ (l:Addr) (ns:List Int),xs=[.ref l]∧H l=some (.lst (ns.map V.int))∧ns.length<64∧∀ (p:Addr) (ns':List Int),H p=none→ns'.Perm ns→ns'.Pairwise (·≤·)→Q (.ref p) (upd H p (.lst (ns'.map V.int)))
theorem qcp:ybp X (.builtin "sorted") rSortI:=by
 intro pins s σ H xs us Q I r h
 obtain ⟨l,ns,rfl,hH,h64,q⟩:=h
 cases r with
 | cons r rr=>
  cases rr
  cases r
  obtain ⟨z,its,n,rv,hl,e⟩:=I.lstM hH
  have hil:its.length=ns.length:=by rw[← hl,List.length_map]
  refine sorted_ints (vs:=its) ⟨_,e,rfl,n,rfl⟩ (yb5 rv) (by omega) fun out ns' a1 a2 a3=>?_
  obtain ⟨ep,he⟩:=sortedAll_at s.heap its out
  have hf:H (s.heap.objs.size+1)=none:=I.hok.fresh (Nat.le_succ _)
  refine ⟨.ref (s.heap.objs.size+1),_,I.laid (o:=.lst (ns'.map V.int)) (t':=s.toks) (fun b u g=>sortedAll_old g) (Nat.le_succ _) ?_,rfl,q _ ns' hf a2 a3⟩
  exact ⟨by rw[List.length_map,a2.length_eq];omega,out.toList,ep,qbx a1,by simpa using he⟩
end
section
variable {X:Cx}{a b:Expr}{ta tb:TE}{pos:Pos}
def rCatS (K:PySem.W.Frag):R2:=fun x y H Q=>∃ l b xs zs,x=.ref l∧y=.ref b∧SqL K H l xs∧SqL K H b zs∧xs.length+zs.length≤sizeLine∧∀ p,H p=none→Q (.ref p) (upd H p (.lst (xs++zs)))
theorem op_catS:OpR X (binaryOp .Add) (rCatS X.K):=by
 intro pins s σ H x y v u Q I rx ry h
 obtain ⟨l,b,xs,zs,rfl,rfl,hH,hB,hz,q⟩:=h
 cases rx
 cases ry
 obtain ⟨vs,r,pl,_⟩:=I.list hH
 obtain ⟨ws,r2,pl2,_⟩:=I.list hB
 obtain ⟨⟨cls,dd,data,sl⟩,ho,hc,n,hd⟩:=pl.isList
 obtain ⟨⟨cls2,dd2,data2,sl2⟩,ho2,hc2,n2,hd2⟩:=pl2.isList
 simp only at hc hd hc2 hd2
 subst hc hd hc2 hd2
 have l1:=r.length
 have l2:=r2.length
 refine concat_meets ⟨_,ho,rfl⟩ ⟨_,ho2,rfl⟩ noFill_list_add seq_list_add PySem.F.slot_list_add PySem.F.entry_list_add (PySem.F.args_list_add_2 _ _) (list_addW l b vs.toArray ws.toArray n n2 dd dd2 sl sl2 (by simp;omega)) ⟨ho,ho2,?_⟩
 have ea:vs.toArray++ws.toArray=(vs++ws).toArray:=by simp
 rw[ea]
 exact ⟨.ref _,_,I.lnew (t':=s.toks) (r.append r2) (by rw[List.length_append];omega),rfl,q _ I.fresh⟩
end
section
variable {κ:Type} [DecidableEq κ]
def valV (kvs:List (κ×V)) (k:κ):Option V:=(kvs.find? fun kv=>decide (kv.1=k)).map (·.2)
def putK (kvs:List (κ×V)) (k:κ) (v:V):List (κ×V):=
 if (kvs.any fun kv=>decide (kv.1=k))=true then kvs.map (fun kv=>if kv.1=k then (kv.1,v) else kv) else kvs++[(k,v)]
theorem qan {p:κ×V}{r:List (κ×V)}{k:κ} (e:p.1=k):valV (p::r) k=some p.2:=by simp[valV,List.find?_cons,e]
theorem yan {p:κ×V}{r:List (κ×V)}{k:κ} (e:¬ p.1=k):valV (p::r) k=valV r k:=by simp[valV,List.find?_cons,e]
theorem ya4 (k:κ):∀ kvs:List (κ×V),(kvs.any fun kv=>decide (kv.1=k))=(valV kvs k).isSome
 | []=>rfl
 | p::r=>by
  rw[List.any_cons]
  by_cases e:p.1=k
  ·simp only[qan e,decide_eq_true e,Bool.true_or,Option.isSome_some]
  ·rw[yan e,decide_eq_false e,Bool.false_or];exact ya4 k r
theorem qdb (k j:κ) (y:V):∀ kvs:List (κ×V),valV (kvs.map fun kv=>if kv.1=k then (kv.1,y) else kv) j=(valV kvs j).map fun x=>if j=k then y else x
 | []=>rfl
 | p::r=>by
  have ih:=qdb k j y r
  rw[List.map_cons]
  by_cases h:p.1=k
  ·rw[if_pos h]
   by_cases e:p.1=j
   ·rw[qan (p:=(p.1,y)) e,qan e,Option.map_some,if_pos (e.symm.trans h)]
   ·rw[yan (p:=(p.1,y)) e,yan e,ih]
  ·rw[if_neg h]
   by_cases e:p.1=j
   ·rw[qan (p:=p) e,qan e,Option.map_some,if_neg (fun z=>h (e.trans z))]
   ·rw[yan (p:=p) e,yan e,ih]
theorem qch (k j:κ) (y:V):∀ kvs:List (κ×V),valV kvs k=none→valV (kvs++[(k,y)]) j=if j=k then some y else valV kvs j
 | [],_=>by
  by_cases e:k=j
  ·rw[if_pos e.symm];exact qan (p:=(k,y)) e
  ·rw[if_neg (fun z=>e z.symm)];exact yan (p:=(k,y)) e
 | p::r,hn=>by
  rw[List.cons_append]
  have hk:¬ p.1=k:=fun z=>by rw[qan z] at hn;cases hn
  rw[yan hk] at hn
  have ih:=qch k j y r hn
  by_cases e:p.1=j
  ·rw[qan e,qan e,if_neg (fun z=>hk (e.trans z))]
  ·rw[yan e,yan e,ih]
theorem ybs (kvs:List (κ×V)) (k j:κ) (y:V):valV (putK kvs k y) j=if j=k then some y else valV kvs j:=by
 unfold putK
 by_cases a:(kvs.any fun kv=>decide (kv.1=k))=true
 ·rw[if_pos a,qdb]
  rw[ya4] at a
  by_cases e:j=k
  ·obtain ⟨x,hx⟩:=Option.isSome_iff_exists.mp a
   rw[if_pos e,e,hx,Option.map_some,if_pos rfl]
  ·rw[if_neg e]
   cases valV kvs j with
   | none=>rfl
   | some x=>rw[Option.map_some,if_neg e]
 ·rw[if_neg a]
  refine qch k j y kvs ?_
  rw[ya4] at a
  cases q:valV kvs k with
  | none=>rfl
  | some x=>rw[q] at a;exact (a rfl).elim
theorem qbe (kvs:List (κ×V)) (k:κ) (v:V):(putK kvs k v).length≤kvs.length+1:=by
 unfold putK
 split
 ·rw[List.length_map];omega
 ·rw[List.length_append,List.length_cons,List.length_nil];omega
theorem yda {kvs:List (κ×V)}{k:κ} (v:V) (h:valV kvs k=none):putK kvs k v=kvs++[(k,v)]:=by
 unfold putK
 rw[ya4,h]
 exact if_neg (by decide)
theorem RelO.isSome_eq {o:Option V}{u:Option Value} (r:RelO o u):o.isSome=u.isSome:=by
 cases o with
 | none=>cases u with
  | none=>rfl
  | some _=>exact (show False from r).elim
 | some _=>cases u with
  | none=>exact (show False from r).elim
  | some _=>rfl
theorem KV.val {kvs:List (κ×V)}{vs:List (κ×Value)} (r:KV kvs vs) (k:κ):RelO (valV kvs k) (valueAt vs k):=by
 unfold KV at r
 induction r with
 | nil=>exact True.intro
 | @cons p q ps qs h t ih=>
  obtain ⟨h1,h2⟩:=h
  by_cases e:p.1=k
  ·have e':q.1=k:=h1.symm.trans e
   have b:valueAt (q::qs) k=some q.2:=by simp[valueAt,List.find?_cons,e']
   rw[qan e,b];exact h2
  ·have e':¬ q.1=k:=fun z=>e (h1.trans z)
   have b:valueAt (q::qs) k=valueAt qs k:=by simp[valueAt,List.find?_cons,e']
   rw[yan e,b];exact ih
theorem KV.any {kvs:List (κ×V)}{vs:List (κ×Value)} (r:KV kvs vs) (k:κ):(kvs.any fun kv=>decide (kv.1=k))=vs.any fun kv=>decide (kv.1=k):=by
 unfold KV at r
 induction r with
 | nil=>rfl
 | cons h t ih=>rw[List.any_cons,List.any_cons,ih,h.1]
theorem KV.repl {kvs:List (κ×V)}{vs:List (κ×Value)} (r:KV kvs vs) (k:κ) {y:V}{u:Value} (ry:RelV y u) :
  KV (kvs.map fun kv=>if kv.1=k then (kv.1,y) else kv) (vs.map fun kv=>if kv.1=k then (kv.1,u) else kv):=by
 unfold KV at r ⊢
 induction r with
 | nil=>exact .nil
 | @cons p q ps qs h t ih=>
  rw[List.map_cons,List.map_cons]
  refine .cons ?_ ih
  obtain ⟨h1,h2⟩:=h
  by_cases e:p.1=k
  ·rw[if_pos e,if_pos (h1.symm.trans e)];exact ⟨h1,ry⟩
  ·rw[if_neg e,if_neg (fun z=>e (h1.trans z))];exact ⟨h1,h2⟩
theorem KV.put {kvs:List (κ×V)}{vs:List (κ×Value)} (r:KV kvs vs) (k:κ) {y:V}{u:Value} (ry:RelV y u):KV (putK kvs k y) (stored vs k u):=by
 unfold putK stored
 rw[r.any k]
 by_cases e:(vs.any fun kv=>decide (kv.1=k))=true
 ·rw[if_pos e,if_pos e];exact r.repl k ry
 ·rw[if_neg e,if_neg e];exact Paired.snoc r ⟨rfl,ry⟩
theorem KV.length {kvs:List (κ×V)}{vs:List (κ×Value)} (r:KV kvs vs):kvs.length=vs.length:=Paired.length r
end
theorem ydv {P:Program}{w:World}{k:Key}{u:Value} (r:RelV (kV k) u):(qaj P w).is k u=true:=by
 cases k with
 | inl i=>obtain ⟨t,e⟩:=(show ∃ t,u=Value.int i t from r);subst e;exact ycw P w i t
 | inr x=>obtain ⟨t,e⟩:=(show ∃ t,u=Value.str x t from r);subst e;exact qc4 P w x t
theorem yct {P:Program}{w:World}:∀ {ks:List Key}{us:List Value},Vals (ks.map kV) us→ItemsAre (qaj P w) ks us
 | [],_,r=>by rw[List.map_nil] at r;cases r;exact .nil
 | k::ks,_,r=>by
  rw[List.map_cons] at r
  cases r with
  | cons h t=>exact .cons (ydv h) (yct t)
abbrev KT (H:Hp):List (List Key×V)→List (List Key×Addr×Value)→Prop:=Paired fun p q=>p.1=q.1∧H q.2.1=some (.tup (p.1.map kV))∧RelV p.2 q.2.2
theorem KT.val {H:Hp}{kvs:List (List Key×V)}{xs:List (List Key×Addr×Value)} (r:KT H kvs xs) (k:List Key):RelO (valV kvs k) ((atKey xs k).map (·.2)):=by
 induction r with
 | nil=>exact True.intro
 | @cons p q ps qs h t ih=>
  obtain ⟨h1,_,h2⟩:=h
  by_cases e:p.1=k
  ·have e':q.1=k:=h1.symm.trans e
   have b:atKey (q::qs) k=some q.2:=by simp[atKey,List.find?_cons,e']
   rw[qan e,b];exact h2
  ·have e':¬ q.1=k:=fun z=>e (h1.trans z)
   have b:atKey (q::qs) k=atKey qs k:=by simp[atKey,List.find?_cons,e']
   rw[yan e,b];exact ih
theorem KT.repl {H:Hp}{kvs:List (List Key×V)}{xs:List (List Key×Addr×Value)} (r:KT H kvs xs) (k:List Key) {y:V}{u:Value} (ry:RelV y u) :
  KT H (kvs.map fun kv=>if kv.1=k then (kv.1,y) else kv) (xs.map (putAt k u)):=by
 induction r with
 | nil=>exact .nil
 | @cons p q ps qs h t ih=>
  rw[List.map_cons,List.map_cons]
  refine .cons ?_ ih
  obtain ⟨h1,h2,h3⟩:=h
  unfold putAt
  by_cases e:p.1=k
  ·rw[if_pos e,if_pos (h1.symm.trans e)];exact ⟨h1,h2,ry⟩
  ·rw[if_neg e,if_neg (fun z=>e (h1.trans z))];exact ⟨h1,h2,h3⟩
theorem KT.put {H:Hp}{kvs:List (List Key×V)}{xs:List (List Key×Addr×Value)} (r:KT H kvs xs) (k:List Key) {b:Addr}{y:V}{u:Value} (hb:H b=some (.tup (k.map kV))) (ry:RelV y u) :
  KT H (putK kvs k y) (storedH xs k b u):=by
 have e:(kvs.any fun kv=>decide (kv.1=k))=(atKey xs k).isSome:=by
  rw[ya4,(r.val k).isSome_eq,Option.isSome_map]
 unfold putK storedH
 rw[e]
 by_cases q:(atKey xs k).isSome=true
 ·rw[if_pos q,if_pos q];exact r.repl k ry
 ·rw[if_neg q,if_neg q];exact Paired.snoc r ⟨rfl,hb,ry⟩
theorem KT.keeps {H H':Hp}{kvs:List (List Key×V)}{xs:List (List Key×Addr×Value)} (r:KT H kvs xs) (ht:∀ b ys,H b=some (.tup ys)→H' b=some (.tup ys)):KT H' kvs xs:=
 Paired.mapP r fun _ _ z=>⟨z.1,ht _ _ z.2.1,z.2.2⟩
section
variable {P:Program}{w:World}{H:Hp}{h:Heap}{a:Addr}
theorem rd_of {u:HO} (ok:HOk P w H h) (e:Rd H a u):yak P w H h a u:=e.ok ok
theorem qcv {kvs:List (Key×V)} (ok:HOk P w H h) (e:Rd H a (.dK kvs)):kvs.length≤sizeLine∧(a == sysModules)=false∧∃ vs,KV kvs vs∧h.DictOf (qaj P w) a vs:=
 show yak P w H h a (.dK kvs) from rd_of ok e
theorem dk_of {kvs:List (Key×V)} (ok:HOk P w H h) (e:H a=some (.dK kvs)):kvs.length≤sizeLine∧(a == sysModules)=false∧∃ vs,KV kvs vs∧h.DictOf (qaj P w) a vs:=qcv ok (.inl e)
theorem qdc {ks:List Key} (ok:HOk P w H h) (e:H a=some (.tup (ks.map kV))):(tupleKind (qaj P w)).is h ks a:=by
 obtain ⟨_,its,r,o,h1,h2,n,h3⟩:=(show yak P w H h a (.tup (ks.map kV)) from ok a _ e)
 exact ⟨o,its.toArray,n,h1,h2,h3,by simpa using yct r⟩
theorem dt_rd {kvs:List (List Key×V)} (ok:HOk P w H h) (e:Rd H a (.dT kvs)):kvs.length≤sizeLine∧(a == sysModules)=false∧
  ∃ xs,KT H kvs xs∧h.DictOfH (tupleKind (qaj P w)) a xs:=by
 obtain ⟨z,y,xs,r,o,es,ep,h1,h2,h3,h4,h5⟩:=(show yak P w H h a (.dT kvs) from rd_of ok e)
 refine ⟨z,y,xs,r,o,es,ep,h1,h2,h3,h4,fun x hx=>?_,h5⟩
 have all:∀ {l:List (List Key×V)}{m:List (List Key×Addr×Value)},KT H l m→∀ x∈m,(tupleKind (qaj P w)).is h x.1 x.2.1:=by
  intro l m q
  induction q with
  | nil=>intro x hx;exact nomatch hx
  | @cons p q ps qs hq t ih=>
   intro x hx
   rcases List.mem_cons.mp hx with e|hx
   ·subst e
    exact qdc ok (by rw[← hq.1];exact hq.2.1)
   ·exact ih x hx
 exact all r x hx
theorem dt_of {kvs:List (List Key×V)} (ok:HOk P w H h) (e:H a=some (.dT kvs)):kvs.length≤sizeLine∧(a == sysModules)=false∧
  ∃ xs,KT H kvs xs∧h.DictOfH (tupleKind (qaj P w)) a xs:=dt_rd ok (.inl e)
end
def DGet (H:Hp) (a:Addr) (y:V) (r:Option V):Prop:=
 (∃ kvs k,Rd H a (.dK kvs)∧y=kV k∧r=valV kvs k)∨∃ kvs k b,Rd H a (.dT kvs)∧y=.ref b∧H b=some (.tup (k.map kV))∧r=valV kvs k
def DPut (H:Hp) (a:Addr) (y v:V) (H':Hp):Prop:=
 (∃ kvs k,H a=some (.dK kvs)∧y=kV k∧kvs.length<sizeLine∧H'=upd H a (.dK (putK kvs k v)))∨
 ∃ kvs k b,H a=some (.dT kvs)∧y=.ref b∧H b=some (.tup (k.map kV))∧kvs.length<sizeLine∧H'=upd H a (.dT (putK kvs k v))
theorem DGet.k {H:Hp}{a:Addr}{kvs:List (Key×V)}{k:Key} (e:H a=some (.dK kvs)):DGet H a (kV k) (valV kvs k):=.inl ⟨kvs,k,.inl e,rfl,rfl⟩
theorem DPut.k {H:Hp}{a:Addr}{kvs:List (Key×V)}{k:Key}{v:V} (e:H a=some (.dK kvs)) (hl:kvs.length<sizeLine):DPut H a (kV k) v (upd H a (.dK (putK kvs k v))):=.inl ⟨kvs,k,e,rfl,hl,rfl⟩
theorem DPut.t {H:Hp}{a b:Addr}{kvs:List (List Key×V)}{k:List Key}{v:V} (e:H a=some (.dT kvs)) (eb:H b=some (.tup (k.map kV))) (hl:kvs.length<sizeLine) :
  DPut H a (.ref b) v (upd H a (.dT (putK kvs k v))):=.inr ⟨kvs,k,b,e,rfl,eb,hl,rfl⟩
section
variable {X:Cx}{pins:List (Addr×Obj)}{σ:St}{H:Hp}{s:Shared}{a:Addr}{y v:V}{u r:Value}{o:Option V}{A:Around}{E:Value→Shared→Prop}
theorem Inv.big (I:Inv X pins σ H s):sysModules<s.heap.objs.size:=by
 have h:mainGlobals<s.heap.objs.size:=(I.mod.glob.keeps I.bk).lt
 exact Nat.lt_trans (by decide) h
theorem yd6 {Q:Value→Shared→Prop} (hu:A.units+1<cLine) (I:Inv X pins σ H s) (g:DGet H a y (some v)) (ry:RelV y u) (h:∀ w' s',Inv X pins σ H s'→RelV v w'→Q w' s') :
  wpAny (model X.prog X.w) A (getItem (.ref a) u) Q E s:=by
 rcases g with ⟨kvs,k,e,ey,l⟩|⟨kvs,k,b,e,ey,eb,l⟩
 ·subst ey
  obtain ⟨z,hd,vs,rel,dd⟩:=qcv I.hok e
  obtain ⟨w',hw,rw'⟩:=RelO.some_of (v:=v) (o:=valueAt vs k) (by rw[l];exact rel.val k)
  exact wpAny_getItem_of (ydv ry) dd.mapOf hw (h w' _ (I.tok _) rw')
 ·subst ey
  cases (show u=Value.ref b from ry)
  obtain ⟨z,hd,xs,rel,dd⟩:=dt_rd I.hok e
  obtain ⟨w',hw,rw'⟩:=RelO.some_of (v:=v) (o:=(atKey xs k).map (·.2)) (by rw[l];exact rel.val k)
  obtain ⟨p,hp,hp2⟩:=Option.map_eq_some_iff.mp hw
  refine wpAny_getItem_heap (tupleKind_room_in1 hu) (qdc I.hok eb) dd hp ?_
  rw[hp2]
  exact h w' _ (I.tok _) rw'
theorem d_notIn {Q:Value→Shared→Prop} (hu:A.units+1<cLine) (I:Inv X pins σ H s) (g:DGet H a y o) (ry:RelV y u) (h:∀ s',Inv X pins σ H s'→Q (.bool (!o.isSome)) s') :
  wpAny (model X.prog X.w) A (compareOp .NotIn u (.ref a)) Q E s:=by
 rcases g with ⟨kvs,k,e,ey,l⟩|⟨kvs,k,b,e,ey,eb,l⟩
 ·subst ey
  obtain ⟨z,hd,vs,rel,dd⟩:=qcv I.hok e
  refine wpAny_notIn_of (ydv ry) hd dd.mapOf ?_
  rw[← (rel.val k).isSome_eq,← l]
  exact h _ (I.tok _)
 ·subst ey
  cases (show u=Value.ref b from ry)
  obtain ⟨z,hd,xs,rel,dd⟩:=dt_rd I.hok e
  refine wpAny_notIn_heap (tupleKind_room_in1 hu) (qdc I.hok eb) hd dd ?_
  have q:=(rel.val k).isSome_eq
  rw[Option.isSome_map] at q
  rw[← q,← l]
  exact h _ (I.tok _)
theorem qcu {h':Heap}{t':Nat}{ob:HO} (I:Inv X pins σ H s) (mu:Mut (H a)) (hs:Heap.SameBut a s.heap h') (he:∃ q,h'.get? a=some q) (new:yak X.prog X.w (upd H a ob) h' a ob) :
  Inv X pins σ (upd H a ob) { s with heap:=h',toks:=t' }:=
 I.write (x:=a) (e:=a) mu (.inl rfl) (fun b q hb z=>(hs.2 b hb).trans z) he new
theorem dk_new {P:Program}{w:World}{H':Hp}{h':Heap}{kvs:List (Key×V)}{vs:List (Key×Value)} (z:kvs.length≤sizeLine) (hd:(a == sysModules)=false) (rel:KV kvs vs) (dd:h'.DictOf (qaj P w) a vs) :
  yak P w H' h' a (.dK kvs):=⟨z,hd,vs,rel,dd⟩
theorem yd8 {H':Hp}{Q:Unit→Shared→Prop} (hu:A.units+1<cLine) (I:Inv X pins σ H s) (g:DPut H a y v H') (ry:RelV y u) (rv:RelV v r) (h:∀ s',Inv X pins σ H' s'→Q () s') :
  wpAny (model X.prog X.w) A (setItem (.ref a) u r) Q E s:=by
 rcases g with ⟨kvs,k,e,ey,l,eH⟩|⟨kvs,k,b,e,ey,eb,l,eH⟩
 ·subst ey eH
  obtain ⟨z,hd,vs,rel,dd⟩:=dk_of I.hok e
  have hz:vs.length≤sizeLine:=by rw[← rel.length];exact z
  have hl:(putK kvs k v).length≤sizeLine:=by have:=qbe kvs k v;omega
  refine wpAny_setItem_pairs (hsz:=hz) (ydv ry) dd fun h' dd' hs=>h _ ?_
  have he:∃ q,h'.get? a=some q:=let ⟨q,_,_,hq,_⟩:=dd';⟨q,hq⟩
  exact qcu I (by rw[e];exact True.intro) hs he (dk_new hl hd (rel.put k rv) dd')
 ·subst ey eH
  cases (show u=Value.ref b from ry)
  obtain ⟨z,hd,xs,rel,dd⟩:=dt_of I.hok e
  have hz:xs.length≤sizeLine:=by rw[← Paired.length rel];exact z
  have hl:(putK kvs k v).length≤sizeLine:=by have:=qbe kvs k v;omega
  refine wpAny_setItem_heap (hsz:=hz) (tupleKind_room_in1 hu) (qdc I.hok eb) dd fun h' dd' hs=>h _ ?_
  obtain ⟨q,es,ep,hq,h2,h3,h4,_,h5⟩:=dd'
  refine qcu I (by rw[e];exact True.intro) hs ⟨q,hq⟩ ⟨hl,hd,_,(rel.put k eb rv).keeps fun c ys ec=>?_,q,es,ep,hq,h2,h3,h4,h5⟩
  rw[yab (ya2 ec e (fun z=>nomatch z))]
  exact ec
end
def NoSl (i:Expr):Prop:=∀ ov iv,subscripted i false ov iv=operate [ov,iv] (getItem ov iv)
theorem subD_of {prog:Program}{w:World}{A:Around}{E:Value→Shared→Prop}{s:Shared}{env:Env}{value slice:Expr}{pos:Pos}{T id:String}{Q:Value→Shared→Prop}
  (hl:typeLookup (.type T) "__getitem__" = pure (some (.builtin id))) (hs:NoSl slice)
  (h:wpAny (model prog w) A (eval value env) (fun o s₁=>wpAny (model prog w) A (eval slice env) (fun i s₂=>s₂.TypeIs o T∧wpAny (model prog w) A (getItem o i) Q E s₂) E s₁) E s) :
  wpAny (model prog w) A (eval (.Subscript value slice pos) env) Q E s:=by
 refine Subscript_ (wpAny_mono h (fun o s₁ h₁=>wpAny_mono h₁ (fun i s₂ h₂=>?_) fun _ _ x=>x) fun _ _ x=>x)
 obtain ⟨hT,h₂⟩:=h₂
 unfold subscriptTail
 refine wpAny_bind ?_
 rw[getitemInPython_of_ne hT.not_modules]
 refine wpAny_bind (wpAny_specialOf hT hl ?_)
 have fin:wpAny (model prog w) A (subscripted slice false o i) (fun r s₃=>wpAny (model prog w) A (letTemporaryGo value o r >>= fun _=>pure r) Q E s₃) E s₂:=by
  rw[hs o i]
  exact wpAny_operating (wpAny_mono h₂ (fun r s₃ h₃=>wpAny_bind (wpAny_letTemporaryGo (wpAny_pure h₃))) fun _ _ x=>x)
 first
  | exact wpAny_pure (wpAny_bind fin)
  | exact wpAny_bind (wpAny_pure (wpAny_bind fin))
  | exact wpAny_bind fin
theorem yc1 {X:Cx}{pins:List (Addr×Obj)}{σ:St}{H:Hp}{s:Shared}{a:Addr}{y:V}{o:Option V} (I:Inv X pins σ H s) (g:DGet H a y o):s.TypeIs (.ref a) "dict":=by
 rcases g with ⟨kvs,k,e,_,_⟩|⟨kvs,k,b,e,_,_,_⟩
 ·obtain ⟨_,_,vs,_,dd⟩:=qcv I.hok e
  exact dd.typeIs
 ·obtain ⟨_,_,xs,_,dd⟩:=dt_rd I.hok e
  exact dd.typeIs
def tDGet (td ty:TE):TE:=fun σ H Q=>td σ H fun x H1=>ty σ H1 fun y H2=>∃ a v,x=.ref a∧DGet H2 a y (some v)∧Q v H2
def tDNotIn (ty td:TE):TE:=fun σ H Q=>ty σ H fun y H1=>td σ H1 fun x H2=>∃ a o,x=.ref a∧DGet H2 a y o∧Q (.bl (!o.isSome)) H2
def sDPut (td ty tv:TE):TS:=fun D σ H=>tv σ H fun v H1=>td σ H1 fun x H2=>ty σ H2 fun y H3=>∃ a H4,x=.ref a∧DPut H3 a y v H4∧D.nx σ H4
section
variable {X:Cx}{o i e value:Expr}{pos pos' tpos:Pos}{td ty tv:TE}
theorem pe_dget (hu:X.A.units+1<cLine) (ho:PE X o td) (hi:PE X i ty) (hs:NoSl i):PE X (.Subscript o i pos) (tDGet td ty):=by
 intro pins s σ H Q I h
 refine subD_of PySem.F.slot_dict_getitem.lookup hs (thn (ho pins s σ H _ I h) fun u s1 ⟨x,H1,I1,rx,q1⟩=>thn (hi pins s1 σ H1 _ I1 q1) fun iv s2 ⟨y,H2,I2,ry,a,v,ex,g,q2⟩=>?_)
 subst ex
 obtain rfl:u=Value.ref a:=rx
 exact ⟨yc1 I2 g,yd6 hu I2 g ry fun w' s3 I3 rw'=>⟨v,H2,I3,rw',q2⟩⟩
theorem qb0 (hu:X.A.units+1<cLine) (hi:PE X i ty) (ho:PE X o td):PC X .NotIn i o (tDNotIn ty td):=by
 intro pins s σ H Q I h
 refine thn (hi pins s σ H _ I h) fun iv s1 ⟨y,H1,I1,ry,q1⟩=>thn (ho pins s1 σ H1 _ I1 q1) fun u s2 ⟨x,H2,I2,rx,a,ov,ex,g,q2⟩=>?_
 subst ex
 obtain rfl:u=Value.ref a:=rx
 exact d_notIn hu I2 g ry fun s3 I3=>⟨.bl (!ov.isSome),H2,I3,rfl,q2⟩
theorem qc0 (hu:X.A.units+1<cLine) (ho:PE X o td) (hi:PE X i ty) (hv:PE X value tv) (hs:swapsWith value (some (.Subscript o i pos')) pos.line X.env=pure false) :
  PS X (.Assign [.Subscript o i pos'] value pos) (sDPut td ty tv):=by
 intro pins s σ H D I h
 refine wpAny_Assign_Subscript (thn (hv pins s σ H _ I h) fun r s1 ⟨v,H1,I1,rv,q1⟩=>thn (ho pins s1 σ H1 _ I1 q1) fun u s2 ⟨x,H2,I2,rx,q2⟩=>thn (hi pins s2 σ H2 _ I2 q2) fun iv s3 ⟨y,H3,I3,ry,a,H4,ex,g,q3⟩=>?_) hs
 subst ex
 obtain rfl:u=Value.ref a:=rx
 exact yd8 hu I3 g ry rv fun s4 I4=>⟨σ,H4,I4,q3⟩
end
theorem dk_empty {P:Program}{w:World}{H:Hp} (h:Heap) (hb:sysModules<h.objs.size):yak P w H (h.push { cls:=.type "dict",data:=.dict #[] }) h.objs.size (.dK []):=
 ⟨Nat.zero_le _,beq_eq_false_iff_ne.mpr (Ne.symm (Nat.ne_of_lt hb)),[],.nil,Heap.DictOf.new h⟩
theorem dt_empty {P:Program}{w:World}{H:Hp} (h:Heap) (hb:sysModules<h.objs.size):yak P w H (h.push { cls:=.type "dict",data:=.dict #[] }) h.objs.size (.dT []):=
 ⟨Nat.zero_le _,beq_eq_false_iff_ne.mpr (Ne.symm (Nat.ne_of_lt hb)),[],.nil,_,#[],0,Heap.get?_push_size _ rfl,⟨rfl,rfl,rfl⟩,rfl,rfl,List.nodup_nil⟩
def tDNewK:TE:=fun _ H Q=>∀ p,H p=none→Q (.ref p) (upd H p (.dK []))
def tDNewT:TE:=fun _ H Q=>∀ p,H p=none→Q (.ref p) (upd H p (.dT []))
section
variable {X:Cx}{pos:Pos}
theorem qbt:PE X (.Dict [] [] pos) tDNewK:=fun pins s σ H Q I h=>
 wpAny_Dict_empty ⟨.ref s.heap.objs.size,_,I.laid (a:=s.heap.objs.size) (o:=.dK []) (t':=s.toks) (fun _ _ q=>Heap.get?_push_of_some _ q) (Nat.le_refl _) (dk_empty s.heap I.big),rfl,h _ (I.hok.fresh (Nat.le_refl _))⟩
theorem pe_dnewT:PE X (.Dict [] [] pos) tDNewT:=fun pins s σ H Q I h=>
 wpAny_Dict_empty ⟨.ref s.heap.objs.size,_,I.laid (a:=s.heap.objs.size) (o:=.dT []) (t':=s.toks) (fun _ _ q=>Heap.get?_push_of_some _ q) (Nat.le_refl _) (dt_empty s.heap I.big),rfl,h _ (I.hok.fresh (Nat.le_refl _))⟩
end
section
variable {κ:Type} [DecidableEq κ]
theorem ydq {kvs:List (κ×V)}{k:κ}{v:V} (h:valV kvs k=some v):k∈kvs.map (·.1):=by
 have q:(kvs.any fun kv=>decide (kv.1=k))=true:=by
  rw[ya4,h]
  all_goals rfl
 obtain ⟨p,hp,e⟩:=List.any_eq_true.mp q
 exact List.mem_map.mpr ⟨p,hp,of_decide_eq_true e⟩
theorem qcd:∀ {l:List κ}{k:κ},l.Nodup→¬ k∈l→(l++[k]).Nodup
 | [],k,_,_=>by simp
 | a::r,k,h,hk=>by
  obtain ⟨h1,h2⟩:=List.nodup_cons.mp h
  show (a::(r++[k])).Nodup
  refine List.nodup_cons.mpr ⟨fun m=>?_,qcd h2 fun m=>hk (List.mem_cons.mpr (Or.inr m))⟩
  rcases List.mem_append.mp m with q|q
  ·exact h1 q
  ·exact hk (List.mem_cons.mpr (Or.inl (List.mem_singleton.mp q).symm))
end
end L2
namespace Mx
open PySem L2 PyProof.Rows
structure QE (X:Cx) (e:Expr) (t:TE):Prop where
 of:PE X e t
section
variable {X:Cx}{e o i:Expr}{te td ty:TE}{pos:Pos}
theorem qab (h:PE X e te):QE X e te:=⟨h⟩
theorem qdz (hu:X.A.units+1<cLine) (ho:QE X o td) (hi:QE X i ty) (hs:NoSl i):QE X (.Subscript o i pos) (tDGet td ty):=⟨pe_dget hu ho.of hi.of hs⟩
theorem yam {i:Nat}{x:Str}{pos':Pos} (hN:X.N.Nodup) (hi:X.N[i]?=some x) (hx:Loc X.env.scope x) (he:QE X e te) (hs:swapsWith e (some (.Name x pos')) pos.line X.env=pure false:=by rfl) (hf:X.fn x=true∨X.env.scope.names.lookup x=some .local:=by first|exact .inl rfl|exact .inr rfl|assumption) :
  QS X (.Assign [.Name x pos'] e pos) (tAsg te (gName i)):=⟨ybz hN hi hx he.of hs hf⟩
theorem qai (he:QE X e te):QS X (.Return (some e) pos) (tRet te):=⟨ps_ret he.of⟩
structure QT (X:Cx) (e:Expr) (t:TT):Prop where
 of:PT X e t
theorem qt_of {t:TT} (h:PT X e t):QT X e t:=⟨h⟩
theorem qay {a b:List Stmt}{t u:TS}{c:Expr}{tc:TT} (hc:QT X c tc) (ha:QSs X a t) (hb:QSs X b u):QS X (.If c a b pos) (tIfS tc t u):=⟨ps_if hc.of ha.of hb.of⟩
theorem yar {a b:Expr}{ta tb:TE}{op:CmpOp}{r:R2} (ho:OpR X (compareOp op) r) (ha:QE X a ta) (hb:QE X b tb) (hm:behindInMarks op b=false):QT X (.Compare a [op] [b] pos) (tTest (tOp r ta tb)):=⟨qbw ho ha.of hb.of hm⟩
theorem qaw {a b:Expr}{ta tb:TE}{r:R2} (hr:IxR X r) (ha:QE X a ta) (hb:QE X b tb) (hs:qd0 b):QE X (.Subscript a b pos) (tOp r ta tb):=⟨qdf hr ha.of hb.of hs⟩
structure QA (X:Cx) (es:List Expr) (t:TA):Prop where
 of:PA X es t
theorem qaf:QA X [] tNil:=⟨qak⟩
theorem qa_cons {es:List Expr}{t:TA} (ha:QE X e te) (hr:QA X es t) (hs:starEach (e::es) X.env=(false,eval e X.env)::starEach es X.env:=by rfl):QA X (e::es) (qb1 te t):=⟨yae ha.of hr.of hs⟩
theorem qb6 {es:List Expr}{t:TA} (h:QA X es t):QE X (.List es pos) (tLst t):=⟨qce h.of⟩
theorem qe_tup {es:List Expr}{k}{t:TA} (h:QA X es t):QE X (.Tuple es k pos) (tTup t):=⟨ydx h.of⟩
end
section
variable {X:Cx}{e a b c:Expr}{es:List Expr}{te ta tb:TE}{t:TA}{tA tB':TT}{pos p:Pos}{x:Str}{rest:List Expr}
theorem yb2 {k:Const}{j} (ha:QE X (.Constant k j pos) te) (hr:QA X es t):QA X (.Constant k j pos::es) (qb1 te t):=⟨pa_cs ha.of hr.of⟩
theorem yag {x:Str} (ha:QE X (.Name x pos) te) (hr:QA X es t):QA X (.Name x pos::es) (qb1 te t):=⟨pa_nm ha.of hr.of⟩
theorem qa_cl {f xs ks} (ha:QE X (.Call f xs ks pos) te) (hr:QA X es t):QA X (.Call f xs ks pos::es) (qb1 te t):=⟨pa_cl ha.of hr.of⟩
theorem qc3 {o i:Expr} (ha:QE X (.Subscript o i pos) te) (hr:QA X es t):QA X (.Subscript o i pos::es) (qb1 te t):=⟨yae ha.of hr.of rfl⟩
theorem qa_bo {o i:Expr}{op} (ha:QE X (.BinOp o op i pos) te) (hr:QA X es t):QA X (.BinOp o op i pos::es) (qb1 te t):=⟨yae ha.of hr.of rfl⟩
theorem ya5 {op:Operator}{r:R2} (ho:OpR X (binaryOp op) r) (ha:QE X a ta) (hb:QE X b tb):QE X (.BinOp a op b pos) (tOp r ta tb):=⟨ybd ho ha.of hb.of⟩
theorem qe_cmpR {op:CmpOp}{r:R2} (ho:OpR X (compareOp op) r) (ha:QE X a ta) (hb:QE X b tb) (hm:behindInMarks op b=false):QE X (.Compare a [op] [b] pos) (tOp r ta tb):=⟨qd3 ho ha.of hb.of hm⟩
structure QW (X:Cx) (e:Expr) (t:TT):Prop where
 of:PW X e t
theorem yd2 (ha:QT X a tA):QW X (.BoolOp .And [a] pos) tA:=⟨qc1 ha.of⟩
theorem qbd (ha:QT X a tA):QW X (.BoolOp .Or [a] pos) tA:=⟨pw_or1 ha.of⟩
theorem qw_and (ha:QT X a tA) (hb:QW X (.BoolOp .And (b::rest) pos) tB'):QW X (.BoolOp .And (a::b::rest) pos) (tAnd tA tB'):=⟨qdk ha.of hb.of⟩
theorem ybl (ha:QT X a tA) (hb:QW X (.BoolOp .Or (b::rest) pos) tB'):QW X (.BoolOp .Or (a::b::rest) pos) (tOr tA tB'):=⟨pw_or ha.of hb.of⟩
theorem QW.pt (h:QW X e tA):QT X e tA:=⟨h.of.pt⟩
theorem qa0 (ha:QT X a tA):QT X (.UnaryOp .Not a pos) (tNot tA):=⟨pt_not ha.of⟩
theorem qas {f xs ks} (h:QE X (.Call f xs ks pos) te):QT X (.Call f xs ks pos) (tB te):=⟨pt_val h.of⟩
variable {id T:String}{r:List V→Hp→VK→Prop}
theorem qam (hc:ybp X (.builtin id) r) (hg:Gl X x) (hm:X.mg x=none) (hv:bootBuiltins x=some (.builtin id)) (ha:QA X (e::es) t) (hn:x≠"__name__":=by decide) (hdb:(x == ("__debug__" : Str))=false:=by decide)
  (he:starEach (e::es) X.env=(false,eval e X.env)::starEach es X.env:=by rfl) (hpl:(backTo pos (starEach es X.env)).any (·.1)=false:=by rfl):QE X (.Call (.Name x p) (e::es) [] pos) (tCB r t):=⟨qa2 hc hg hm hv ha.of hn hdb he hpl⟩
theorem ydl (hc:ybp X (.type T) r) (hg:Gl X x) (hm:X.mg x=none) (hv:bootBuiltins x=some (.type T)) (ha:QA X (e::es) t) (hn:x≠"__name__":=by decide) (hdb:(x == ("__debug__" : Str))=false:=by decide)
  (he:starEach (e::es) X.env=(false,eval e X.env)::starEach es X.env:=by rfl) (hpl:(backTo pos (starEach es X.env)).any (·.1)=false:=by rfl):QE X (.Call (.Name x p) (e::es) [] pos) (tCB r t):=⟨qdp hc hg hm hv ha.of hn hdb he hpl⟩
theorem yaj {k m:Nat}{ps:List Str}{sp:Sp} (h:Has X.prog X.w X.K X.mg X.base k x ps sp) (hr:Room m X.A) (ha:QA X (e::es) t) (hk:k≤m:=by decide) (hg:Gl X x:=by rfl)
  (hdb:(x == ("__debug__" : Str))=false:=by decide) (he:starEach (e::es) X.env=(false,eval e X.env)::starEach es X.env:=by rfl) (hpl:(backTo pos (starEach es X.env)).any (·.1)=false:=by rfl):QE X (.Call (.Name x p) (e::es) [] pos) (tCall sp [] E0 t):=⟨pe_callH h hr ha.of hk hg hdb he hpl⟩
structure QI (X:Cx) (tg iter:Expr) (wi:TI):Prop where
 of:PI X tg iter wi
theorem qdg {tg iter:Expr}{wi:TI} (h:PI X tg iter wi):QI X tg iter wi:=⟨h⟩
theorem yb9 {tg l:Expr}{tl:TE} (h:QE X l tl):QI X tg l (iList X.K tl):=⟨yca h.of⟩
theorem ybb {tg iter:Expr}{body:List Stmt}{wi:TI}{g:TG}{tb:TS} (hp:PassesOwn (model X.prog X.w) X.A X.env X.xe) (hc:X.calm=true) (hi:QI X tg iter wi) (hg:PG X tg g) (hb:QSs X body tb) (hs:∀ x,foldedSetIterable iter X.env x=pure x:=by intro _;rfl):QS X (.For tg iter body [] pos) (tFor wi g tb):=⟨ps_for hp hc hi.of hg hb.of hs⟩
theorem ybm (he:QE X e te) (hs:swapsWith e none pos.line X.env=pure false:=by rfl):QS X (.Expr e pos) (tDrop te):=⟨yc4 he.of hs⟩
theorem qs_asg {tg:Expr}{g:TG} (he:QE X e te) (hg:PG X tg g) (hs:swapsWithSole [tg] e pos.line X.env=pure false:=by rfl) (hw:swappedStores [tg] e X.env=pure none:=by rfl) (h1:(assignEach [tg] X.env).map (·.2)=[assign tg X.env]:=by rfl):QS X (.Assign [tg] e pos) (tAsg te g):=⟨ps_asg he.of hg hs hw h1⟩
end
theorem yat {X:Cx}{st:Stmt}{rest ss:List Stmt}{t:TS} (h:ss=st::rest) (p:QSs X (st::rest) t):QSs X ss t:=h ▸ p
section
variable {P:Program}{w:World}{K:PySem.W.Frag}{mg:Str→Option Value}{base:Heap}
theorem Has.ofQ {x:Str}{st:Stmt}{ps N:List Str}{k:Nat}{sp:Sp} (F:FnAt K mg x st ps) (S:FnScope N ps (yad st)) (len:∀ vs H Q E,sp vs H Q E→vs.length=ps.length)
  (hbody:∀ (f:Addr) (cdv:Value) (A:Around) (outer:List Env) (s:Shared) (H:Hp) (vs:List V) (Q:VK) (E:XK),Room k (A.deeper (envOfC x (yad st) s.heap.objs.size f cdv))→sp vs H Q E→
   ∃ t,QSs (cxOf CX0 P w K mg base N x (yad st) f cdv A outer s H E).nox (yaq st) t∧t { nx:=fun _ H'=>Q .non H',rt:=Q } (start N vs) H):Has P w K mg base (k+1) x ps sp:=
 Has.of F S len fun f cdv A outer s H vs Q E hr h=>by
  obtain ⟨t,h1,h2⟩:=hbody f cdv A outer s H vs Q E hr h
  exact ⟨t,h1.of,h2⟩
theorem Fun.okQ {x qual:Str}{st:Stmt}{f:Addr}{fd:FuncData}{N ps:List Str}{k:Nat}{sp:Sp} (F:Fun K x qual st f fd) (S:FnScope N ps (yad st)) (len:∀ vs H Q E,sp vs H Q E→vs.length=ps.length)
  (hbody:∀ (cdv:Value) (A:Around) (outer:List Env) (s:Shared) (H:Hp) (vs:List V) (Q:VK) (E:XK),Room k (A.deeper (envOfC qual (yad st) s.heap.objs.size f cdv))→sp vs H Q E→
   ∃ t,QSs (cxOf CX0 P w K mg base N qual (yad st) f cdv A outer s H E).nox (yaq st) t∧t { nx:=fun _ H'=>Q .non H',rt:=Q } (start N vs) H):FnOk P w K mg base CX0 (k+1) f fd ps sp:=
 F.ok S len fun cdv A outer s H vs Q E hr h=>by
  obtain ⟨t,h1,h2⟩:=hbody cdv A outer s H vs Q E hr h
  exact ⟨t,h1.of,h2⟩
end
section
variable {X:Cx}{o e:Expr}{es:List Expr}{te to:TE}{t:TA}{pos p2:Pos}
theorem qe_bm {name:Str}{apos cpos:Pos}{T id:String}{r:V→List V→Hp→VK→Prop} (pa:PlainAttrs T) (slot:Slot T name id) (hty:typeOf (.builtin id)=pure (.type "method_descriptor")) (hm:MtR X id r) (ho:QE X o to) (ha:QA X (e::es) t)
  (hbase:attributeBase o name X.env (eval o X.env)=eval o X.env:=by rfl)
  (hfew:((backTo cpos (starEach (e::es) X.env)).all (fun x=>!x.1)&&(backToKw cpos (keywordEach [] X.env)).all (fun x=>x.1.isSome)
   && decide ((e::es).length+([]:List Keyword).length+(if ([]:List Keyword).isEmpty then 0 else 1)<30))=true:=by rfl)
  (hline:(apos.endLine == cpos.line)=true:=by rfl) (hs:starEach (e::es) X.env=(false,eval e X.env)::starEach es X.env:=by rfl) (hplain:(backTo cpos (starEach es X.env)).any (·.1)=false:=by rfl) :
  QE X (.Call (.Attribute o name apos) (e::es) [] cpos) (tBM X.K T r to t):=⟨ydg pa slot hty hm ho.of ha.of hbase hfew hline hs hplain⟩
end
end Mx
namespace L2
open PySem PySem.Spec PyProof.Rows
section
variable {X:Cx}
def rSetdef:V→List V→Hp→VK→Prop:=fun x vs H Q=>∃ (a:Addr) (kvs:List (Key×V)) (k:Key) (v:V),x=.ref a∧vs=[kV k,v]∧H a=some (.dK kvs)∧kvs.length<sizeLine∧
 (∀ y,valV kvs k=some y→Q y H)∧(valV kvs k=none→Q v (upd H a (.dK (putK kvs k v))))
theorem ydi:MtM X "dict.setdefault" rSetdef:=by
 intro pins s σ H x vs v us Q I rx rv h
 obtain ⟨a,kvs,k,d,rfl,rfl,ha,hl,q1,q2⟩:=h
 cases rx
 cases rv
 rename_i u us' ru rv'
 obtain ⟨r,rfl,rr⟩:=Vals.one rv'
 obtain ⟨z1,m1,vs1,r1,dd1⟩:=dk_of I.hok ha
 have l1:=r1.length
 have rk:=r1.val k
 refine call_meetsIn F.slot_dict_setdefault dd1.typeIs F.entry_dict_setdefault (F.args_dict_setdefault_3 _ _ _) (kt_meets_setdefault (qaj X.prog X.w) a (ydv ru) m1 r) ⟨vs1,dd1,by omega,fun w' hw=>?_,fun hn h' dd' sb=>?_⟩
 ·rw[hw] at rk
  cases hv:valV kvs k with
  | none=>rw[hv] at rk;exact absurd rk (by intro z;cases z)
  | some y=>
   rw[hv] at rk
   exact ⟨y,_,I.tok _,rk,q1 y hv⟩
 ·rw[hn] at rk
  cases hv:valV kvs k with
  | some y=>rw[hv] at rk;exact absurd rk (by intro z;cases z)
  | none=>
   have he:∃ q,h'.get? a=some q:=let ⟨q,_,_,hq,_⟩:=dd';⟨q,hq⟩
   have hl':(putK kvs k d).length≤sizeLine:=by have:=qbe kvs k d;omega
   exact ⟨d,_,qcu I (by rw[ha];exact True.intro) sb he (dk_new hl' m1 (r1.put k rr) dd'),rr,q2 hv⟩
end
section
variable {X:Cx}{pins:List (Addr×Obj)}{σ:St}{H:Hp}{s:Shared}{a:Addr}{kvs:List (Key×V)}
theorem is_kV {P:Program}{w:World}{k:Key}{u:Value} (h:(qaj P w).is k u=true):RelV (kV k) u:=by
 rcases qag h with ⟨i,t,rfl,rfl⟩|⟨x,t,rfl,rfl⟩<;>exact ⟨t,rfl⟩
theorem Inv.frzD (I:Inv X pins σ H s) (e:H a=some (.dK kvs)):∃ o es ep,o.data=.dict es ep∧s.heap.get? a=some o∧Inv X pins σ (upd H a (.frz o (.dK kvs))) s:=by
 obtain ⟨z,hd,vs,r,ob,es,ep,ho,hx,hda,rest⟩:=(show yak X.prog X.w H s.heap a (.dK kvs) from I.hok a _ e)
 exact ⟨ob,es,ep,hda,ho,I.write (x:=a) (e:=a) (t':=s.toks) (o:=.frz ob (.dK kvs)) (by rw[e];exact True.intro) (.inl rfl) (fun b u _ q=>q) ⟨ob,ho⟩ ⟨ho,z,hd,vs,r,ob,es,ep,ho,hx,hda,rest⟩⟩
theorem Inv.frzAt {o:Obj}{es:Array DictEntry}{ep:Nat} (I:Inv X pins σ H s) (e:H a=some (.frz o (.dK kvs))) (hda:o.data=.dict es ep):kvs.length≤sizeLine∧(a == sysModules)=false∧∃ vs,KV kvs vs∧s.heap.DictAt (qaj X.prog X.w) a vs ep:=by
 obtain ⟨ho,z,hd,vs,r,ob,es',ep',ho',hx,hda',rest⟩:=(show yak X.prog X.w H s.heap a (.frz o (.dK kvs)) from I.hok a _ e)
 rw[ho] at ho';cases ho'
 rw[hda] at hda';cases hda'
 exact ⟨z,hd,vs,r,o,es,ho,hx,hda,rest⟩
theorem KV.at_ {kvs:List (Key×V)}{vs:List (Key×Value)} (r:KV kvs vs):∀ {i:Nat},i<kvs.length→∃ k v u,kvs[i]?=some (k,v)∧vs[i]?=some (k,u)∧RelV v u:=by
 induction r with
 | nil=>intro i h;exact absurd h (Nat.not_lt_zero _)
 | @cons p q l1 l2 h _ ih=>
  intro i hi
  cases i with
  | zero=>exact ⟨p.1,p.2,q.2,rfl,by rw[h.1];rfl,h.2⟩
  | succ i=>exact ih (i:=i) (by simpa using hi)
def Itd (a:Addr) (o:Obj) (kvs:List (Key×V)):It:=
 ⟨fun i H=>H a=some (.frz o (.dK kvs))∧i<kvs.length,fun i H x H'=>H'=H∧∃ k v,kvs[i]?=some (k,v)∧x=kV k,fun i H=>H a=some (.frz o (.dK kvs))∧kvs.length≤i⟩
theorem qdu {P:Program}{w:World}{K:PySem.W.Frag}{tg:Expr} (a it:Addr) (o:Obj) {es:Array DictEntry}{ep:Nat} (hda:o.data=.dict es ep):Turn P w K tg (Itd a o kvs) [it] it (fun i h=>h.IsKeyIter it a i kvs.length ep) where
 mem:=by simp
 obj:=fun i h st b hb=>by
  have e:b=it:=by simpa using hb
  subst e
  obtain ⟨ob,ho,hc,hd⟩:=st
  exact ⟨ob,ho,fun v z=>by rw[hd] at z;cases z⟩
 keep:=fun i h h' st k=>st.at (k it (by simp))
 item:=by
  intro X hP hw hK hc i pins s σ H E I hf st hg
  subst hP hw hK
  obtain ⟨f0,f1,f2,f3,f4,f5⟩:=hf it (by simp)
  obtain ⟨z,hd,vs,r,dd⟩:=I.frzAt hg.1 hda
  obtain ⟨k,v,u,e1,e2,rv⟩:=r.at_ hg.2
  have hl:=r.length
  rw[hl] at st
  refine wpAny_pyNext_dict_item st dd e2 fun key h' hk st' sb=>?_
  have I1:Inv X pins σ H { s with heap:=h',toks:=s.toks }:=I.turned (fun b o hb e=>(sb.2 b hb).trans e) f0 f1 f3 f4 f5
  obtain ⟨ob,ho,hcl,hdat⟩:=id st'
  exact ⟨key,rfl,go_of (s:={ s with heap:=h' }) (n:="dict_keyiterator") ho hcl hdat (by decide) ⟨kV k,H,I1,is_kV hk,⟨rfl,k,v,e1,rfl⟩,by rw[hl];exact st',fun b hb=>(hf b hb).1⟩⟩
 done:=by
  intro X hP hw hK hc i pins s σ H E I hf st hg
  subst hP hw hK
  obtain ⟨f0,f1,f2,f3,f4,f5⟩:=hf it (by simp)
  obtain ⟨z,hd,vs,r,dd⟩:=I.frzAt hg.1 hda
  have hl:=r.length
  rw[hl] at st
  exact wpAny_pyNext_dict_end (I.ok.hd hc) st dd (List.getElem?_eq_none (by have:=hg.2;omega)) fun h' eb=>⟨rfl,I.turned (t':=s.toks) (fun b o hb e=>eb b o hb e) f0 f1 f3 f4 f5⟩
 self:=fun _ _ _ _ _ st h=>wpAny_pyIter_keyiter st h
end
section
variable {X:Cx}{kvs:List (Key×V)}
def vwI (v a:Addr):HO:=.ext fun h=>h.IsItemsView v a
def rItems:V→List V→Hp→VK→Prop:=fun x vs H Q=>∃ (a:Addr) (kvs:List (Key×V)),x=.ref a∧vs=[]∧Rd H a (.dK kvs)∧∀ v,H v=none→Q (.ref v) (upd H v (vwI v a))
theorem vw_ok {P:Program}{w:World}{H:Hp} (h:Heap) (a:Addr):yak P w H (h.push { cls:=.type "dict_items",data:=.fields #[.ref a] }) h.objs.size (vwI h.objs.size a):=
 ⟨⟨_,Heap.get?_push_size _ rfl,rfl,rfl⟩,⟨_,Heap.get?_push_size _ rfl⟩,fun _ _ ⟨o,ho,r⟩ k=>⟨o,k o ho,r⟩⟩
theorem mt_items:MtM X "dict.items" rItems:=by
 intro pins s σ H x vs v us Q I rx rv h
 obtain ⟨a,kvs,rfl,rfl,ha,q⟩:=h
 cases rx
 cases rv
 obtain ⟨z1,m1,vs1,r1,dd1⟩:=qcv I.hok ha
 refine call_meetsIn F.slot_dict_items dd1.typeIs F.entry_dict_items (F.args_dict_items_1 _) (meets_dict_items (qaj X.prog X.w) a m1) ⟨⟨vs1,dd1⟩,?_⟩
 exact ⟨.ref s.heap.objs.size,_,I.laid (a:=s.heap.objs.size) (o:=vwI s.heap.objs.size a) (t':=s.toks) (fun _ _ q=>Heap.get?_push_of_some _ q) (Nat.le_refl _) (vw_ok s.heap a),rfl,q _ (I.hok.fresh (Nat.le_refl _))⟩
theorem yck:entryFor table "dict_itemiterator.__iter__" = some Builtin.«dict_keyiterator.__iter__»:=
 entryFor_alias (id':="dict_keyiterator.__iter__") (by kernel_rfl) rfl (by decide +kernel) (by kernel_rfl)
theorem yde {prog:Program}{w:World}{A:Around}{E:Value→Shared→Prop}{s:Shared}{it d:Addr}{i n ep:Nat}{ok ov:Value}{Q:Value→Shared→Prop} (hit:IsItemIter s.heap it d i n ep ok ov) (h:Q (.ref it) s):wpAny (model prog w) A (pyIter (.ref it)) Q E s:=by
 have hT:s.TypeIs (.ref it) "dict_itemiterator":=⟨_,hit,rfl⟩
 refine wpAny_pyIter_slot hT F.slot_dict_itemiterator_iter (wpAny_call_entry F.slot_dict_itemiterator_iter hT yck ?_ (F.args_dict_itemiterator_iter_1 _))
 show wpAny _ _ (ret (.ref it)) _ _ s
 exact wpAny_pure ⟨_,rfl,"dict_itemiterator",_,hT,F.slot_dict_itemiterator_next.lookup,h⟩
def Iti (a:Addr) (o:Obj) (kvs:List (Key×V)):It:=
 ⟨fun i H=>H a=some (.frz o (.dK kvs))∧i<kvs.length,fun i H x H'=>∃ p k v,H p=none∧x=.ref p∧H'=upd H p (.tup [kV k,v])∧kvs[i]?=some (k,v),fun i H=>H a=some (.frz o (.dK kvs))∧kvs.length≤i⟩
theorem ydd {P:Program}{w:World}{K:PySem.W.Frag}{el:List Expr}{k:Nat}{tp:Pos} (a it:Addr) (o:Obj) {es:Array DictEntry}{ep:Nat} (hda:o.data=.dict es ep) :
  Turn P w K (.Tuple el k tp) (Iti a o kvs) [it] it (fun i h=>∃ ok ov,IsItemIter h it a i kvs.length ep ok ov) where
 mem:=by simp
 obj:=fun i h st b hb=>by
  have e:b=it:=by simpa using hb
  subst e
  obtain ⟨ok,ov,ho⟩:=st
  exact ⟨_,ho,fun v z=>by
   have z':Data.fields _=Data.cell v:=z
   cases z'⟩
 keep:=fun i h h' ⟨ok,ov,st⟩ k=>⟨ok,ov,k it (by simp) _ st⟩
 item:=by
  intro X hP hw hK hc i pins s σ H E I hf st hg
  subst hP hw hK
  obtain ⟨z,hd,vs,r,dd⟩:=I.frzAt hg.1 hda
  obtain ⟨k,v,u,e1,e2,rv⟩:=r.at_ hg.2
  have hl:=r.length
  obtain ⟨ok,ov,st⟩:=st
  rw[hl] at st
  refine wpAny_pyNext_items_item st dd e2 fun key h' hk ho hT hsz kk=>?_
  have hil:it<s.heap.objs.size:=Heap.lt_size st
  refine ⟨_,rfl,wpAny_letOwnedTupleGo_items ho fun h2 he2 hs2=>?_⟩
  have keep2:∀ b ob,b∉[it]→s.heap.get? b=some ob→h2.get? b=some ob:=fun b ob hb z=>by
   have h3:b≠it:=fun q=>hb (by simp[q])
   exact (hs2.2 b h3).trans (kk b ob h3 z)
  have hT2:h2.get? s.heap.objs.size=some { cls:=.type "tuple",data:=.seq #[key,u] }:=(hs2.2 _ (Nat.ne_of_gt hil)).trans hT
  have fresh:H s.heap.objs.size=none:=I.hok.fresh (Nat.le_refl _)
  have new:yak X.prog X.w (upd H s.heap.objs.size (.tup [kV k,v])) h2 s.heap.objs.size (.tup [kV k,v]):=
   ⟨by show 2≤sizeLine;decide,[key,u],.cons (is_kV hk) (.cons rv .nil),⟨_,hT2,rfl,_,rfl⟩⟩
  refine ⟨.ref s.heap.objs.size,upd H s.heap.objs.size (.tup [kV k,v]),I.turnedL keep2 hf (Nat.le_refl _) new,rfl,⟨_,k,v,fresh,rfl,rfl,e1⟩,⟨key,u,by rw[hl];exact he2⟩,fun b hb=>?_⟩
  rw[yab]
  ·exact (hf b hb).1
  ·have hb':b=it:=by simpa using hb
   rw[hb'];exact Nat.ne_of_lt hil
 done:=by
  intro X hP hw hK hc i pins s σ H E I hf st hg
  subst hP hw hK
  obtain ⟨f0,f1,f2,f3,f4,f5⟩:=hf it (by simp)
  obtain ⟨z,hd,vs,r,dd⟩:=I.frzAt hg.1 hda
  have hl:=r.length
  obtain ⟨ok,ov,st⟩:=st
  rw[hl] at st
  exact wpAny_pyNext_items_end (I.ok.hd hc) st dd (List.getElem?_eq_none (by have:=hg.2;omega)) fun h' eb=>⟨rfl,I.turned (t':=s.toks) (fun b o hb e=>eb b o hb e) f0 f1 f3 f4 f5⟩
 self:=fun _ _ _ _ _ ⟨ok,ov,st⟩ h=>yde st h
end
end L2
namespace L2
open PySem PySem.Spec PyProof.Rows PySem.W
section
variable {cmp:Nat→Nat→(Bool→Shared→Prop)→Shared→Prop}{Ok:Shared→Prop}{g:Nat→Int}{n:Nat}
def Ans (cmp:Nat→Nat→(Bool→Shared→Prop)→Shared→Prop) (Ok:Shared→Prop) (g:Nat→Int) (n:Nat):Prop:=
 ∀ i j C s,i<n→j<n→Ok s→(∀ s',Ok s'→C (decide (g i<g j)) s')→cmp i j C s
def Gk (g:Nat→Int) (p:Array Nat) (k:Nat):Int:=g (p.getD k 0)
def UpTo (g:Nat→Int) (p:Array Nat) (k:Nat):Prop:=∀ i j,i≤j→j<k→Gk g p i≤Gk g p j
def DnTo (g:Nat→Int) (p:Array Nat) (k:Nat):Prop:=∀ i j,i≤j→j<k→Gk g p j≤Gk g p i
def PmN (p:Array Nat) (n:Nat):Prop:=p.Perm (List.toArray (List.range n))
theorem PmN.size {p:Array Nat} (h:PmN p n):p.size=n:=by rw[h.size_eq];simp
theorem PmN.lt {p:Array Nat} (h:PmN p n) {k:Nat} (hk:k<n):p.getD k 0<n:=by
 have hs:k<p.size:=by rw[h.size];exact hk
 have e:p.getD k 0=p[k]:=by simp[Array.getD,hs]
 rw[e]
 have:p[k]∈List.toArray (List.range n):=h.mem_iff.mp (Array.getElem_mem hs)
 simpa using this
theorem qbl {p q:Array Nat}{i j:Nat} (h:p[i]?=q[j]?):Gk g p i=Gk g q j:=by
 unfold Gk;rw[← Array.getD_eq_getD_getElem?.symm,← Array.getD_eq_getD_getElem?.symm];simp[Array.getD_eq_getD_getElem?,h]
theorem ycp {p:Array Nat}{src d:Nat} (hs:src<p.size) (hd:d≤src) (k:Nat):Gk g (bubble p src d) k=if k=src-d then Gk g p src else if src-d<k∧k≤src then Gk g p (k-1) else Gk g p k:=by
 have e:=getElem?_bubble hs d hd k
 by_cases h1:k=src-d
 ·rw[if_pos h1] at e ⊢;exact qbl e
 ·rw[if_neg h1] at e ⊢
  by_cases h2:src-d<k∧k≤src
  ·rw[if_pos h2] at e ⊢;exact qbl e
  ·rw[if_neg h2] at e ⊢;exact qbl e
theorem ydw {p:Array Nat}{i j:Nat} (hj:j≤p.size) (k:Nat):Gk g (kas_rev p i j) k=if i≤k∧k<j then Gk g p (i+j-1-k) else Gk g p k:=by
 have e:=getElem?_mirror_all (xs:=p) (i:=i) hj k
 unfold kas_rev
 by_cases h1:i≤k∧k<j
 ·rw[if_pos h1] at e ⊢;exact qbl e
 ·rw[if_neg h1] at e ⊢;exact qbl e
theorem qbi {p:Array Nat}{i j:Nat} (hj:j≤p.size) (heq:∀ k,i≤k→k<j→Gk g p k=Gk g p (j-1)) (k:Nat):Gk g (kas_rev p i j) k=Gk g p k:=by
 rw[ydw hj]
 split
 ·rw[heq _ (by omega) (by omega),heq k (by omega) (by omega)]
 ·rfl
theorem PmN.rev {p:Array Nat} (h:PmN p n) (i j:Nat):PmN (kas_rev p i j) n:=(mirror_perm p i j _).trans h
theorem PmN.bub {p:Array Nat} (h:PmN p n) (i j:Nat):PmN (bubble p i j) n:=(bubble_perm p i j).trans h
theorem t_asc (hc:Ans cmp Ok g n) {p:Array Nat} (hp:PmN p n) {Q:Nat→Shared→Prop}:∀ (f m:Nat) (s:Shared),1≤m→m+f=n→UpTo g p m→Ok s→
  (∀ m' s',Ok s'→m≤m'→m'≤n→UpTo g p m'→(m' < n→Gk g p m' < Gk g p (m' - 1))→Q m' s')→(kas_asc p f m).kasWp cmp Q s
 | 0,m,s,h1,hf,hu,ok,q=>q m s ok (Nat.le_refl _) (by omega) hu (by omega)
 | f+1,m,s,h1,hf,hu,ok,q=>by
  refine hc _ _ _ s (hp.lt (by omega)) (hp.lt (by omega)) ok fun s' ok'=>?_
  by_cases hl:Gk g p m<Gk g p (m-1)
  ·rw[show decide (g (p.getD m 0)<g (p.getD (m-1) 0))=true from decide_eq_true hl]
   exact q m s' ok' (Nat.le_refl _) (by omega) hu fun _=>hl
  ·rw[show decide (g (p.getD m 0)<g (p.getD (m-1) 0))=false from decide_eq_false hl]
   refine t_asc hc hp f (m+1) s' (by omega) (by omega) (fun i j hij hj=>?_) ok' fun m' s'' o1 o2 o3 o4 o5=>q m' s'' o1 (by omega) o3 o4 o5
   by_cases hjm:j<m
   ·exact hu i j hij hjm
   ·have e:j=m:=by omega
    subst e
    by_cases hi:i=j
    ·subst hi;exact Int.le_refl _
    ·exact Int.le_trans (hu i (j-1) (by omega) (by omega)) (Int.not_lt.mp hl)
theorem yd1 (hc:Ans cmp Ok g n) {Q:Array Nat×Nat×Nat→Shared→Prop}:∀ (f:Nat) (p:Array Nat) (m q:Nat) (s:Shared),PmN p n→1≤m→m+f=n→DnTo g p m→q+1≤m→(∀ i,m-(q+1)≤i→i<m→Gk g p i=Gk g p (m-1))→Ok s→
  (∀ p' m' q' s',Ok s'→PmN p' n→m≤m'→m'≤n→DnTo g p' m'→q' + 1≤m'→(∀ i,m' - (q' + 1)≤i→i<m'→Gk g p' i=Gk g p' (m' - 1))→Q (p',m',q') s')→(kas_desc f p m q).kasWp cmp Q s
 | 0,p,m,q,s,hp,h1,hf,hd,hq,he,ok,k=>k p m q s ok hp (Nat.le_refl _) (by omega) hd hq he
 | f+1,p,m,q,s,hp,h1,hf,hd,hq,he,ok,k=>by
  refine hc _ _ _ s (hp.lt (by omega)) (hp.lt (by omega)) ok fun s' ok'=>?_
  have hsz:m≤p.size:=by rw[hp.size];omega
  by_cases hl:Gk g p m<Gk g p (m-1)
  ·rw[show decide (g (p.getD m 0)<g (p.getD (m-1) 0))=true from decide_eq_true hl]
   have step1:∀ xs:Array Nat,(∀ k,Gk g xs k=Gk g p k)→DnTo g xs (m+1):=by
    intro xs hk i j hij hj
    rw[hk,hk]
    by_cases hjx:j<m
    ·exact hd i j hij hjx
    ·have hj':j=m:=by omega
     subst hj'
     by_cases hi':i=j
     ·subst hi';exact Int.le_refl _
     ·exact Int.le_trans (Int.le_of_lt hl) (hd i (j-1) (by omega) (by omega))
   have fin:∀ xs:Array Nat,PmN xs n→(∀ k,Gk g xs k=Gk g p k)→(kas_desc f xs (m+1) 0).kasWp cmp Q s':=fun xs hx hk=>
    yd1 hc f xs (m+1) 0 s' hx (by omega) (by omega) (step1 xs hk) (by omega) (fun i h1 h2=>by congr 1;omega) ok' fun p' m' q' s'' o1 o2 o3=>k p' m' q' s'' o1 o2 (by omega)
   show (if q>0 then _ else _:KasT _).kasWp cmp Q s'
   by_cases hneq:q>0
   ·rw[if_pos hneq]
    exact fin _ (hp.rev _ _) (qbi hsz he)
   ·rw[if_neg hneq]
    exact fin _ hp fun _=>rfl
  ·rw[show decide (g (p.getD m 0)<g (p.getD (m-1) 0))=false from decide_eq_false hl]
   refine hc _ _ _ s' (hp.lt (by omega)) (hp.lt (by omega)) ok' fun s2 ok2=>?_
   by_cases hl2:Gk g p (m-1)<Gk g p m
   ·rw[show decide (g (p.getD (m-1) 0)<g (p.getD m 0))=true from decide_eq_true hl2]
    exact k p m q s2 ok2 hp (Nat.le_refl _) (by omega) hd hq he
   ·rw[show decide (g (p.getD (m-1) 0)<g (p.getD m 0))=false from decide_eq_false hl2]
    have heqx:Gk g p m=Gk g p (m-1):=by omega
    refine yd1 hc f p (m+1) (q+1) s2 hp (by omega) (by omega) (fun i j hij hj=>?_) (by omega) (fun i h1 h2=>?_) ok2 fun p' m' q' s'' o1 o2 o3=>k p' m' q' s'' o1 o2 (by omega)
    ·by_cases hjx:j<m
     ·exact hd i j hij hjx
     ·have hj':j=m:=by omega
      subst hj'
      by_cases hi':i=j
      ·subst hi';exact Int.le_refl _
      ·rw[heqx];exact hd i (j-1) (by omega) (by omega)
    ·rw[show m+1-1=m by omega]
     by_cases hix:i=m
     ·subst hix;rfl
     ·rw[heqx];exact he i (by omega) (by omega)
end
section
variable {cmp:Nat→Nat→(Bool→Shared→Prop)→Shared→Prop}{Ok:Shared→Prop}{g:Nat→Int}{n:Nat}
theorem qds (hc:Ans cmp Ok g n) {p:Array Nat} (hp:PmN p n) {Q:Nat×Array Nat→Shared→Prop}{m:Nat}{s:Shared} (h1:1≤m) (hm:m≤n) (hd:DnTo g p m) (ok:Ok s)
  (q:∀ m' p' s',Ok s'→PmN p' n→1≤m'→m'≤n→UpTo g p' m'→Q (m',p') s'):(kas_tail3 m n p).kasWp cmp Q s:=by
 unfold kas_tail3
 rw[KasT.kasWp_bind]
 have hsz:m≤p.size:=by rw[hp.size];exact hm
 refine t_asc hc (hp.rev 0 m) (n-m) m s h1 (by omega) (fun i j hij hj=>?_) ok fun m' s' o1 o2 o3 o4 _=>q m' _ s' o1 (hp.rev 0 m) (by omega) o3 o4
 rw[ydw hsz,ydw hsz,if_pos ⟨Nat.zero_le _,by omega⟩,if_pos ⟨Nat.zero_le _,hj⟩]
 exact hd _ _ (by omega) (by omega)
theorem qb5 (hc:Ans cmp Ok g n) {p:Array Nat} (hp:PmN p n) {Q:Nat×Array Nat→Shared→Prop}{m:Nat}{s:Shared} (hm:m+1≤n) (hd:DnTo g p (m+1)) (ok:Ok s)
  (q:∀ m' p' s',Ok s'→PmN p' n→1≤m'→m'≤n→UpTo g p' m'→Q (m',p') s'):(kas_descPart m n p).kasWp cmp Q s:=by
 unfold kas_descPart
 rw[KasT.kasWp_bind]
 refine yd1 hc (n-(m+1)) p (m+1) 0 s hp (by omega) (by omega) hd (by omega) (fun i h1 h2=>by congr 1;omega) ok fun p' m' q' s' o1 o2 o3 o4 o5 o6 o7=>?_
 have hsz:m'≤p'.size:=by rw[o2.size];exact o4
 show (if q' > 0 then _ else _:KasT _).kasWp cmp Q s'
 by_cases hq:q' > 0
 ·rw[if_pos hq]
  refine qds (m:=m') hc (o2.rev _ _) (by omega) o4 (fun i j hij hj=>?_) o1 q
  show Gk g (kas_rev p' (m' - (q' + 1)) m') j≤Gk g (kas_rev p' (m' - (q' + 1)) m') i
  rw[qbi hsz o7,qbi hsz o7]
  exact o5 i j hij hj
 ·rw[if_neg hq]
  exact qds (m:=m') hc o2 (by omega) o4 o5 o1 q
theorem t_count (hc:Ans cmp Ok g n) {p:Array Nat} (hp:PmN p n) {Q:Nat×Array Nat→Shared→Prop}{s:Shared} (h1:1≤n) (ok:Ok s)
  (q:∀ m' p' s',Ok s'→PmN p' n→1≤m'→m'≤n→UpTo g p' m'→Q (m',p') s'):(kas_count n p).kasWp cmp Q s:=by
 unfold kas_count
 rw[KasT.kasWp_bind]
 refine t_asc hc hp (n-1) 1 s (Nat.le_refl _) (by omega) (fun i j hij hj=>by rw[show i=j by omega];exact Int.le_refl _) ok fun m s' o1 o2 o3 o4 o5=>?_
 by_cases hm:m=n
 ·rw[if_pos (by simp[hm])]
  exact q m p s' o1 hp o2 o3 o4
 ·rw[if_neg (by simp[hm])]
  have hlt:=o5 (by omega)
  by_cases h2:m>1
  ·rw[if_pos h2]
   refine hc _ _ _ s' (hp.lt (by omega)) (hp.lt (by omega)) o1 fun s2 ok2=>?_
   by_cases hl:Gk g p 0<Gk g p (m-1)
   ·rw[show decide (g (p.getD 0 0)<g (p.getD (m-1) 0))=true from decide_eq_true hl]
    exact q m p s2 ok2 hp o2 o3 o4
   ·rw[show decide (g (p.getD 0 0)<g (p.getD (m-1) 0))=false from decide_eq_false hl]
    have hsz:m≤p.size:=by rw[hp.size];exact o3
    have all:∀ k,0≤k→k<m→Gk g p k=Gk g p (m-1):=fun k _ hk=>by
     have a:=o4 0 k (Nat.zero_le _) hk
     have b:=o4 k (m-1) (by omega) (by omega)
     omega
    refine qb5 hc (hp.rev 0 m) (by omega) (fun i j hij hj=>?_) ok2 q
    rw[qbi hsz all,qbi hsz all]
    by_cases hj':j<m
    ·rw[all i (Nat.zero_le _) (by omega),all j (Nat.zero_le _) hj'];exact Int.le_refl _
    ·have e:j=m:=by omega
     subst e
     by_cases hi:i=j
     ·subst hi;exact Int.le_refl _
     ·rw[all i (Nat.zero_le _) (by omega)];omega
  ·rw[if_neg h2]
   have e:m=1:=by omega
   subst e
   refine qb5 hc hp (by omega) (fun i j hij hj=>?_) o1 q
   by_cases hi:i=j
   ·subst hi;exact Int.le_refl _
   ·rw[show i=0 by omega,show j=1 by omega];exact Int.le_of_lt hlt
theorem yc3 (hc:Ans cmp Ok g n) {p:Array Nat} (hp:PmN p n) {k:Nat} (hk:k<n) (hu:UpTo g p k) {Q:Nat→Shared→Prop}:∀ (f l r:Nat) (s:Shared),l≤r→r≤k→r-l≤f→(∀ i,i<l→Gk g p i≤Gk g p k)→(∀ i,r≤i→i<k→Gk g p k<Gk g p i)→Ok s→
  (∀ l s',Ok s'→l≤k→(∀ i,i<l→Gk g p i≤Gk g p k)→(∀ i,l≤i→i<k→Gk g p k<Gk g p i)→Q l s')→(kas_place p k f l r).kasWp cmp Q s
 | 0,l,r,s,h1,h2,h3,hlo,hhi,ok,q=>q l s ok (by omega) hlo fun i a b=>hhi i (by omega) b
 | f+1,l,r,s,h1,h2,h3,hlo,hhi,ok,q=>by
  show (if l≥r then _ else _:KasT _).kasWp cmp Q s
  by_cases hge:l≥r
  ·rw[if_pos hge]
   exact q l s ok (by omega) hlo fun i a b=>hhi i (by omega) b
  ·rw[if_neg hge]
   refine hc _ _ _ s (hp.lt hk) (hp.lt (by omega)) ok fun s' ok'=>?_
   by_cases hl:Gk g p k<Gk g p ((l+r) / 2)
   ·rw[show decide (g (p.getD k 0)<g (p.getD ((l+r) / 2) 0))=true from decide_eq_true hl]
    exact yc3 hc hp hk hu f l ((l+r) / 2) s' (by omega) (by omega) (by omega) hlo (fun i a b=>Int.lt_of_lt_of_le hl (hu _ _ a b)) ok' q
   ·rw[show decide (g (p.getD k 0)<g (p.getD ((l+r) / 2) 0))=false from decide_eq_false hl]
    exact yc3 hc hp hk hu f ((l+r) / 2+1) r s' (by omega) (by omega) (by omega) (fun i a=>Int.le_trans (hu i ((l+r) / 2) (by omega) (by omega)) (Int.not_lt.mp hl)) hhi ok' q
theorem t_bin (hc:Ans cmp Ok g n) {Q:Array Nat→Shared→Prop}:∀ (f:Nat) (p:Array Nat) (k:Nat) (s:Shared),PmN p n→k+f=n→UpTo g p k→Ok s→(∀ p' s',Ok s'→PmN p' n→UpTo g p' n→Q p' s')→(kas_bin f p k).kasWp cmp Q s
 | 0,p,k,s,hp,hf,hu,ok,q=>q p s ok hp (by rw[← hf];exact hu)
 | f+1,p,k,s,hp,hf,hu,ok,q=>by
  unfold kas_bin
  rw[KasT.kasWp_bind]
  refine yc3 hc hp (by omega) hu k 0 k s (Nat.zero_le _) (Nat.le_refl _) (by omega) (fun i h=>by omega) (fun i a b=>by omega) ok fun l s' ok' hl hlo hhi=>?_
  have hs:k<p.size:=by rw[hp.size];omega
  refine t_bin hc f _ (k+1) s' (hp.bub k (k-l)) (by omega) (fun i j hij hj=>?_) ok' q
  rw[ycp hs (by omega),ycp hs (by omega),show k-(k-l)=l by omega]
  by_cases ei:i=l
  ·rw[if_pos ei]
   by_cases ej:j=l
   ·rw[if_pos ej];exact Int.le_refl _
   ·rw[if_neg ej,if_pos (by omega)];exact Int.le_of_lt (hhi _ (by omega) (by omega))
  ·rw[if_neg ei]
   by_cases i2:l<i∧i≤k
   ·rw[if_pos i2,if_neg (by omega),if_pos (by omega)];exact hu _ _ (by omega) (by omega)
   ·rw[if_neg i2]
    by_cases ej:j=l
    ·rw[if_pos ej];exact hlo i (by omega)
    ·rw[if_neg ej]
     by_cases j2:l<j∧j≤k
     ·rw[if_pos j2];exact hu _ _ (by omega) (by omega)
     ·rw[if_neg j2];exact hu _ _ hij (by omega)
theorem t_sort (hc:Ans cmp Ok g n) (h1:1≤n) {Q:Array Nat→Shared→Prop}{s:Shared} (ok:Ok s) (q:∀ p s',Ok s'→PmN p n→UpTo g p n→Q p s'):(kas_sort n).kasWp cmp Q s:=by
 unfold kas_sort
 rw[KasT.kasWp_bind]
 refine t_count hc (p:=List.toArray (List.range n)) (Array.Perm.refl _) h1 ok fun m p s' o1 o2 o3 o4 o5=>?_
 show (if m<n then _ else _:KasT _).kasWp cmp Q s'
 by_cases hm:m<n
 ·rw[if_pos hm]
  exact t_bin hc _ p (max m 1) s' o2 (by omega) (by rw[show max m 1=m by omega];exact o5) o1 q
 ·rw[if_neg hm]
  exact q p s' o1 o2 (by rw[show n=m by omega];exact o5)
end
def numL:List Int→Int
 | []=>0
 | x::xs=>x*4096 ^ xs.length+numL xs
def Sml (xs:List Int):Prop:=∀ x∈xs,0≤x∧x<4096
theorem ycx:∀ {xs:List Int},Sml xs→0≤numL xs∧numL xs<4096 ^ xs.length
 | [],_=>⟨Int.le_refl _,by show (0:Int)<4096 ^ 0;decide⟩
 | x::xs,h=>by
  obtain ⟨a,b⟩:=ycx (xs:=xs) fun y hy=>h y (List.mem_cons_of_mem _ hy)
  obtain ⟨c,d⟩:=h x (List.mem_cons_self ..)
  have hp:(0:Int)<4096 ^ xs.length:=Int.pow_pos (by decide)
  have e:(4096:Int) ^ (x::xs).length=4096*4096 ^ xs.length:=by rw[List.length_cons,Int.pow_succ,Int.mul_comm]
  have m1:0≤x*4096 ^ xs.length:=Int.mul_nonneg c (Int.le_of_lt hp)
  have m2:x*4096 ^ xs.length≤4095*4096 ^ xs.length:=Int.mul_le_mul_of_nonneg_right (by omega) (Int.le_of_lt hp)
  unfold numL
  rw[e]
  generalize x*4096 ^ xs.length=z at *
  generalize (4096:Int) ^ xs.length=u at *
  constructor<;>omega
theorem qdr {x y:Int}{xs ys:List Int} (hl:xs.length=ys.length) (hx:Sml (x::xs)) (hy:Sml (y::ys)) (h:x<y):numL (x::xs)<numL (y::ys):=by
 obtain ⟨a,b⟩:=ycx (xs:=xs) fun z hz=>hx z (List.mem_cons_of_mem _ hz)
 obtain ⟨c,d⟩:=ycx (xs:=ys) fun z hz=>hy z (List.mem_cons_of_mem _ hz)
 have hp:(0:Int)<4096 ^ ys.length:=Int.pow_pos (by decide)
 rw[hl] at b
 unfold numL
 rw[hl]
 have m:(x+1)*4096 ^ ys.length≤y*4096 ^ ys.length:=Int.mul_le_mul_of_nonneg_right (by omega) (Int.le_of_lt hp)
 rw[Int.add_mul] at m
 generalize x*4096 ^ ys.length=u at *
 generalize y*4096 ^ ys.length=v at *
 generalize (4096:Int) ^ ys.length=q at *
 omega
section
variable {prog:Program}{w:World}{A:Around}{E:Value→Shared→Prop}{s:Shared}{Q:Bool→Shared→Prop}
theorem yc8:∀ {us vs:List Value}{ns ms:List Int} (i:Nat),IntsAre us ns→IntsAre vs ms→ns.length=ms.length→Sml ns→Sml ms→Q (decide (numL ns<numL ms)) s→KatLex prog w A true false Q (us.zip vs) i s
 | _,_,_,_,i,.nil,.nil,_,_,_,h=>kat_nil h
 | _,_,_,_,i,.nil,.cons _ _ _,hl,_,_,_=>by simp at hl
 | _,_,_,_,i,.cons _ _ _,.nil,hl,_,_,_=>by simp at hl
 | _,_,_,_,i,.cons (ns:=ns) n t r,.cons (ns:=ms) m u q,hl,h1,h2,h=>by
  have hl':ns.length=ms.length:=by simpa using hl
  refine kat_cons (wpAny_eqBool_int ?_)
  refine kat_go (fun e=>kat_yes ?_) (fun e=>kat_no ?_)
  ·have e':n=m:=by simpa using e
   subst e'
   refine yc8 (i+1) r q hl' (fun y hy=>h1 y (List.mem_cons_of_mem _ hy)) (fun y hy=>h2 y (List.mem_cons_of_mem _ hy)) ?_
   rw[show decide (numL ns<numL ms)=decide (numL (n::ns)<numL (n::ms)) from decide_eq_decide.mpr (by show _↔n*4096 ^ ns.length+numL ns<n*4096 ^ ms.length+numL ms;rw[hl'];omega)]
   exact h
  ·have e':¬ n=m:=by simpa using e
   have hd:decide (numL (n::ns)<numL (m::ms))=decide (n<m):=by
    refine decide_eq_decide.mpr ⟨fun z=>?_,fun z=>qdr hl' h1 h2 z⟩
    rcases Int.lt_trichotomy n m with a|a|a
    ·exact a
    ·exact absurd a e'
    ·have:=qdr hl'.symm h2 h1 a
     omega
   rw[hd] at h
   cases i with
   | zero=>exact kat_lt_int h
   | succ i=>exact kat_one _ _ (PyProof.Rows.lt_int h)
theorem lt_ints {x y:Addr}{ox oy:Obj}{n k:Nat}{us vs:List Value}{ns ms:List Int} (hx:s.heap.get? x=some ox) (dx:ox.data=.seq us.toArray n) (hy:s.heap.get? y=some oy) (dy:oy.data=.seq vs.toArray k)
  (r:IntsAre us ns) (q:IntsAre vs ms) (hl:ns.length=ms.length) (h1:Sml ns) (h2:Sml ms) (h:Q (decide (numL ns<numL ms)) s):wpAny (model prog w) A (keyLt' (tuples' true) (.ref x) (.ref y)) Q E s:=by
 refine kat_lt hx dx hy dy ?_
 have e1:=r.length
 have e2:=q.length
 have ef:decide (us.toArray.size<vs.toArray.size)=false:=decide_eq_false (by rw[List.size_toArray,List.size_toArray];omega)
 rw[ef]
 exact yc8 0 r q hl h1 h2 h
end
section
variable {prog:Program}{w:World}{A:Around}{E:Value→Shared→Prop}{s:Shared}
theorem sort_by {a:Addr}{vs:List Value}{n:Nat}{κ:SortKind}{g:Nat→Int}{P:PySem.Fin→Shared→Prop} (ho:s.heap.get? a=some (seqObj "list" vs.toArray n)) (h64:vs.length<64)
  (hk:2≤vs.length→∀ s1:Shared,(∀ b o,b≠a→s.heap.get? b=some o→s1.heap.get? b=some o)→∀ (Q:SortKind→Shared→Prop),Q κ s1→wpAny (model prog w) A (keyKind' vs.toArray) Q (fun _ _=>False) s1)
  (hq:∀ s1:Shared,(∀ b o,b≠a→s.heap.get? b=some o→s1.heap.get? b=some o)→∀ i j,i<vs.length→j<vs.length→∀ (C:Bool→Shared→Prop),C (decide (g i<g j)) s1→wpAny (model prog w) A (keyLt' κ (vs.getD i Value.none) (vs.getD j Value.none)) C (fun _ _=>False) s1)
  (h:∀ p:Array Nat,PmN p vs.length→UpTo g p vs.length→P (.done (.ret .none)) { s with heap:=sortedHeap s.heap a vs (List.toArray (p.toList.map fun i=>vs.getD i Value.none)) }) :
  wpAny (model prog w) A (Builtin.«list.sort» ⟨[.ref a],[]⟩) P E s:=by
 rw[list_sort_plain]
 have ha:a<s.heap.objs.size:=Heap.lt_size ho
 refine wpAny_bind (listItems_at ho rfl ?_)
 refine wpAny_bind (listUpdate_at ho rfl ?_)
 obtain ⟨e1,ho1⟩:∃ e1,(s.heap.update a (Obj.mapSeq fun _=>#[])).get? a=some (seqObj "list" #[] e1):=⟨_,get?_update_seq ho (fun _=>#[])⟩
 refine wpAny_bind (seqEpoch_at ho1 rfl ?_)
 refine wpAny_bind (wpAny_newTuple ?_)
 refine wpAny_bind (wpAny_newList ?_)
 refine wpAny_holding ?_
 have ho6:(((s.heap.update a (Obj.mapSeq fun _=>#[])).push (seqObj "tuple" vs.toArray 0)).push (seqObj "list" #[] 0)).get? a=some (seqObj "list" #[] e1):=by
  rw[Heap.get?_push_ne _ _ _ (by rw[size_push',Heap.size_update];exact Nat.ne_of_lt (Nat.lt_succ_of_lt ha)),Heap.get?_push_ne _ _ _ (by rw[Heap.size_update];exact Nat.ne_of_lt ha)]
  exact ho1
 have kp:∀ b o,b≠a→s.heap.get? b=some o→(((s.heap.update a (Obj.mapSeq fun _=>#[])).push (seqObj "tuple" vs.toArray 0)).push (seqObj "list" #[] 0)).get? b=some o:=fun b o hb e=>
  Heap.get?_push_of_some _ (Heap.get?_push_of_some _ ((Heap.get?_update_other _ _ (Ne.symm hb)).trans e))
 show wpAny (model prog w) A _ P E { s with heap:=((s.heap.update a (Obj.mapSeq fun _=>#[])).push (seqObj "tuple" vs.toArray 0)).push (seqObj "list" #[] 0) }
 dsimp only
 have hsz:vs.toArray.size=vs.length:=by simp
 by_cases h2:vs.toArray.size<2
 ·rw[if_pos h2,if_pos h2]
  refine wpAny_bind (wpAny_pure ?_)
  rw[StateT.run_pure]
  refine wpAny_bind (wpAny_pure ?_)
  dsimp only
  refine wpAny_bind (seqEpoch_at ho6 rfl ?_)
  have eo:(arrOf (SortSt.mk' general' (vs.toArray.zip vs.toArray) #[] 7 none)).map (·.2)=List.toArray ((List.toArray (List.range vs.length)).toList.map fun i=>vs.getD i Value.none):=by
   refine kat_snds (ks:=vs) (vs:=vs) rfl (p:=List.toArray (List.range vs.length)) ?_
   have e:=kas_range (vs.toArray.zip vs.toArray)
   rw[show (vs.toArray.zip vs.toArray).size=vs.length by simp] at e
   exact e.symm
  rw[eo]
  refine wpAny_bind (listUpdate_at ho6 rfl ?_ (hsz2:=by rw[List.size_toArray,List.length_map,Array.length_toList,List.size_toArray,List.length_range,sizeLine_eq];omega))
  simp only[bne_self_eq_false,Bool.false_eq_true,if_false]
  refine wpAny_pure (h _ (Array.Perm.refl _) fun i j hij hj=>?_)
  have:i=j:=by omega
  subst this;exact Int.le_refl _
 ·rw[if_neg h2,if_neg h2]
  have h2':2≤vs.length:=by omega
  generalize hs1:({ s with heap:=((s.heap.update a (Obj.mapSeq fun _=>#[])).push (seqObj "tuple" vs.toArray 0)).push (seqObj "list" #[] 0) }:Shared)=s1
  have kp1:∀ b o,b≠a→s.heap.get? b=some o→s1.heap.get? b=some o:=by rw[← hs1];exact kp
  have ho7:s1.heap.get? a=some (seqObj "list" #[] e1):=by rw[← hs1];exact ho6
  refine wpAny_bind (wpAny_mono (hk h2' s1 kp1 (fun κ' s'=>κ'=κ∧s'=s1) ⟨rfl,rfl⟩) ?_ fun _ _ x=>x.elim)
  rintro _ _ ⟨rfl,rfl⟩
  rename_i κ s1
  have ans:Ans (kas_ask prog w A κ vs) (fun s'=>s'=s1) g vs.length:=fun i j C s2 hi hj e k=>by
   have e':s2=s1:=e
   subst e'
   exact hq s2 kp1 i j hi hj C (k s2 rfl)
  refine wpAny_bind (wpAny_mono (kat_run (Q:=fun st' s'=>∃ p:Array Nat,p.size=vs.length∧arrOf st'=p.map (kas_item (vs.toArray.zip vs.toArray))∧failedOf st'=none∧PmN p vs.length∧UpTo g p vs.length∧s'=s1)
   rfl h2' h64 (fun p' st' s' a1 a2 a3 a4=>⟨p',a1,a2,a3,a4⟩) (t_sort ans (by omega) rfl fun p s' ok pm up=>⟨pm,up,ok⟩)) ?_ fun _ _ e=>e)
  rintro ⟨⟨⟩,st'⟩ s' ⟨p,hp,har,hf,pm,up,rfl⟩
  dsimp only
  refine wpAny_bind (seqEpoch_at ho7 rfl ?_)
  rw[kat_snds rfl har]
  refine wpAny_bind (listUpdate_at ho7 rfl ?_ (hsz2:=by rw[List.size_toArray,List.length_map,Array.length_toList,hp,sizeLine_eq];omega))
  rw[hf]
  simp only[bne_self_eq_false,Bool.false_eq_true,if_false]
  refine wpAny_pure ?_
  rw[← hs1]
  exact h p pm up
end
abbrev TL:=Addr×List Int
def TIs (h:Heap) (ts:List TL):Prop:=∀ t∈ts,∃ (o:Obj) (us:List Value) (n:Nat),h.get? t.1=some o∧o.cls=.type "tuple"∧o.data=.seq us.toArray n∧IntsAre us t.2
def yap (ts:List TL):List Value:=ts.map fun t=>Value.ref t.1
def qad (ts:List TL):List V:=ts.map fun t=>V.ref t.1
def OkT (m:Nat) (ts:List TL):Prop:=∀ t∈ts,t.2.length=m+1∧Sml t.2
def RiseT (ts:List TL):Prop:=ts.Pairwise fun t u=>numL t.2≤numL u.2
theorem ydm:∀ {h:Heap}{ts:List TL}{m:Nat},TIs h ts→OkT m ts→∃ fs:List Value,KatTups h (yap ts) fs∧fs.length=ts.length∧∀ v∈fs,∃ i t,v=Value.int i t
 | h,[],m,_,_=>⟨[],.nil,rfl,fun v hv=>by simp at hv⟩
 | h,t::ts,m,x,y=>by
  obtain ⟨fs,k1,k2,k3⟩:=ydm (ts:=ts) (fun u hu=>x u (List.mem_cons_of_mem _ hu)) (fun u hu=>y u (List.mem_cons_of_mem _ hu))
  obtain ⟨o,us,n,e1,e2,e3,e4⟩:=x t (List.mem_cons_self ..)
  obtain ⟨y1,_⟩:=y t (List.mem_cons_self ..)
  generalize ht:t.2=ns at *
  cases e4 with
  | nil=>simp at y1
  | cons i tk r=>exact ⟨.int i tk::fs,.cons e1 e2 e3 rfl k1,by simp[k2],fun v hv=>by
    rcases List.mem_cons.mp hv with rfl|hv
    ·exact ⟨i,tk,rfl⟩
    ·exact k3 v hv⟩
theorem ycu:∀ {ts:List TL}{us:List Value},Vals (qad ts) us→us=yap ts
 | [],_,.nil=>rfl
 | t::ts,_,.cons r q=>by
  rw[ycu q]
  cases r
  rfl
theorem ycq:∀ (ts:List TL),Vals (qad ts) (yap ts)
 | []=>.nil
 | t::ts=>.cons rfl (ycq ts)
theorem qdh {α:Type} (d:α) (l:List α):(List.range l.length).map (fun i=>l.getD i d)=l:=by
 refine List.ext_getElem? fun i=>?_
 rw[List.getElem?_map]
 by_cases h:i<l.length
 ·rw[List.getElem?_range h,List.getElem?_eq_getElem h]
  simp[List.getD_eq_getElem?_getD,h]
 ·rw[List.getElem?_eq_none (by omega:l.length≤i),List.getElem?_eq_none (by simpa using h)]
  rfl
theorem perm_out {α:Type} (d:α) (l:List α) {p:Array Nat} (h:PmN p l.length):(p.toList.map fun i=>l.getD i d).Perm l:=by
 have:=(Array.perm_iff_toList_perm.mp h).map (fun i=>l.getD i d)
 rw[List.toList_toArray,qdh] at this
 exact this
theorem rise_out {g:Nat→Int}{p:Array Nat}{n:Nat}{α:Type} (f:Nat→α) (key:α→Int) (hs:p.size=n) (hk:∀ i,key (f i)=g i) (h:UpTo g p n):(p.toList.map f).Pairwise fun a b=>key a≤key b:=by
 rw[List.pairwise_iff_getElem]
 intro i j hi hj hij
 rw[List.length_map,Array.length_toList] at hi hj
 have:=h i j (Nat.le_of_lt hij) (by omega)
 rw[List.getElem_map,List.getElem_map,hk,hk]
 unfold Gk at this
 simpa [Array.getD,hi,hj] using this
section
variable {prog:Program}{w:World}{A:Around}{E:Value→Shared→Prop}{s:Shared}
theorem ydt {a:Addr}{ts:List TL}{n m:Nat}{P:PySem.Fin→Shared→Prop} (ho:s.heap.get? a=some (seqObj "list" (yap ts).toArray n)) (h64:ts.length<64) (hT:TIs s.heap ts) (hO:OkT m ts)
  (h:∀ ts':List TL,ts'.Perm ts→RiseT ts'→P (.done (.ret .none)) { s with heap:=sortedHeap s.heap a (yap ts) (yap ts').toArray }) :
  wpAny (model prog w) A (Builtin.«list.sort» ⟨[.ref a],[]⟩) P E s:=by
 have hl:(yap ts).length=ts.length:=List.length_map _
 have kT:∀ s1:Shared,(∀ b o,b≠a→s.heap.get? b=some o→s1.heap.get? b=some o)→TIs s1.heap ts:=fun s1 k t ht=>by
  obtain ⟨o,us,k2,e1,e2,e3,r⟩:=hT t ht
  refine ⟨o,us,k2,k _ _ (fun z=>?_) e1,e2,e3,r⟩
  rw[z,ho] at e1
  cases e1
  exact absurd (Value.type.inj (show Value.type "list" = Value.type "tuple" from e2)) (by decide)
 have hv:∀ i,(yap ts).getD i Value.none=if h:i<ts.length then Value.ref (ts[i]).1 else Value.none:=fun i=>by
  unfold yap
  rw[List.getD_eq_getElem?_getD,List.getElem?_map]
  by_cases h:i<ts.length
  ·rw[dif_pos h,List.getElem?_eq_getElem h];rfl
  ·rw[dif_neg h,List.getElem?_eq_none (by omega)];rfl
 refine sort_by (κ:=tuples' true) (g:=fun i=>numL (ts.getD i (0,[])).2) ho (by omega) (fun h2 s1 k Q q=>?_) (fun s1 k i j hi hj C c=>?_) fun p pm up=>?_
 ·obtain ⟨fs,k1,k2,k3⟩:=ydm (kT s1 k) hO
  refine kat_kind (T:=.type "int") k1 (by omega) (fun v hv=>?_) (by decide) ?_
  ·obtain ⟨i,t,rfl⟩:=k3 v hv
   exact Looks.of_pure rfl
  ·exact q
 ·rw[hl] at hi hj
  rw[hv,hv,dif_pos hi,dif_pos hj]
  obtain ⟨o1,u1,n1,a1,a2,a3,a4⟩:=kT s1 k ts[i] (List.getElem_mem hi)
  obtain ⟨o2,u2,n2,b1,b2,b3,b4⟩:=kT s1 k ts[j] (List.getElem_mem hj)
  obtain ⟨l1,m1⟩:=hO ts[i] (List.getElem_mem hi)
  obtain ⟨l2,m2⟩:=hO ts[j] (List.getElem_mem hj)
  have e1:ts.getD i (0,[])=ts[i]:=by simp[List.getD_eq_getElem?_getD,hi]
  have e2:ts.getD j (0,[])=ts[j]:=by simp[List.getD_eq_getElem?_getD,hj]
  rw[e1,e2] at c
  exact lt_ints a1 a3 b1 b3 a4 b4 (by omega) m1 m2 c
 ·rw[hl] at pm up
  have:=h (p.toList.map fun i=>ts.getD i (0,[])) (perm_out _ _ pm) (rise_out _ (fun t:TL=>numL t.2) pm.size (fun i=>rfl) up)
  have e:(yap (p.toList.map fun i=>ts.getD i (0,[])))=p.toList.map fun i=>(yap ts).getD i Value.none:=by
   unfold yap
   rw[List.map_map]
   refine List.map_congr_left fun i hi=>?_
   have hi':i<ts.length:=by
    have:=(Array.perm_iff_toList_perm.mp pm).mem_iff.mp hi
    simpa using this
   show Value.ref (ts.getD i (0,[])).1=_
   rw[List.getD_eq_getElem?_getD,List.getD_eq_getElem?_getD,List.getElem?_map,List.getElem?_eq_getElem hi']
   rfl
  rw[e] at this
  exact this
theorem yby {v:Value}{Q:Value→Shared→Prop}
  (h:wpAny (model prog w) A.in1 (collect v) (fun vs s1=>vs.length<64∧(∀ (s2:Shared),s2={ s1 with heap:=s1.heap.push (seqObj "list" vs.toArray 0) }→
   wpAny (model prog w) A.in1.in1 (Builtin.«list.sort» ⟨[.ref s1.heap.objs.size],[]⟩) (fun f s3=>f=.done (.ret .none)∧Q (.ref s1.heap.objs.size) s3) (fun _ _=>False) s2)) E s) :
  wpAny (model prog w) A (call (.builtin "sorted") [v]) Q E s:=by
 refine Calls.call_function_entry kind_sorted plain_sorted entry_sorted (args_sorted1 v) ?_
 unfold Builtin.«sorted»
 refine wpAny_bind (m:=checkCount "sorted" 1 1 _) ?_
 refine wpAny_pure ?_
 refine wpAny_bind (wpAny_mono h (fun vs s1 hq=>?_) fun _ _ x=>x)
 obtain ⟨h64,k⟩:=hq
 refine wpAny_bind (wpAny_newList ?_ (yb1 (by omega)))
 have gL:(s1.heap.push (seqObj "list" vs.toArray 0)).get? s1.heap.objs.size=some (seqObj "list" vs.toArray 0):=Heap.get?_push_size _ rfl
 refine wpAny_bind (wpAny_holding (wpAny_call_entry slot_list_sort ⟨_,gL,rfl⟩ entry_list_sort (wpAny_mono (k _ rfl) (fun f s3 hf=>?_) fun _ _ x=>x.elim) (args_list_sort _)))
 obtain ⟨rfl,q⟩:=hf
 exact ⟨_,rfl,wpAny_pure ⟨_,rfl,q⟩⟩
theorem qdx {R:Result→Shared→Prop}{T:String}{r d:Addr}{n:Nat}{P:Nat→Value→Prop}{OK:Heap→Prop} (K:KdlSrc prog w T r d n P OK) (hh:A.handled=none) (hok:OK s.heap) (hn:n≤sizeLine)
  (k:∀ h' tk acc c,h'.get? s.heap.objs.size=some { cls:=.type "list",dict:=none,data:=.seq acc c,slots:=#[] }→ItemsOf P acc n→(∀ b o,s.heap.get? b=some o→h'.get? b=some o)→R (.ok (.ret (.ref s.heap.objs.size))) { s with heap:=h',toks:=tk }) :
  codeAny (model prog w) A (.builtin "proto.collect" ⟨[.ref r],[]⟩) R s:=by
 have hlt:=K.there _ hok
 refine codeAny_builtin F.entry_proto_collect ?_
 rw[Around.under_plainId F.plain_proto_collect _]
 show wpAny _ A.in1 (newList [] >>= fun l=>again (.builtin "list.__iadd__" ⟨[l,.ref r],[]⟩)) _ _ s
 refine wpAny_bind (wpAny_newObj_type ?_)
 refine wpAny_pure ⟨plainId_quiet F.plain_list_iadd _,?_⟩
 refine codeAny_builtin F.entry_list_iadd ?_
 rw[Around.under_plainId F.plain_list_iadd _]
 show wpAny _ A.in1 (Builtin.List.listExtendWith (.ref s.heap.objs.size) (.ref r) (.ref s.heap.objs.size)) _ _ _
 have g0:(s.heap.push { cls:=.type "list",data:=.seq ([]:List Value).toArray }).get? s.heap.objs.size=some { cls:=.type "list",data:=.seq #[] }:=Heap.get?_push_size _ rfl
 refine kdl_extend (R:=R) (s:={ s with heap:=s.heap.push { cls:=.type "list",data:=.seq ([]:List Value).toArray } }) K hh (K.keep _ _ hok fun b _ o e=>Heap.get?_push_of_some _ e) _ (Nat.ne_of_gt hlt.1) (Nat.ne_of_gt hlt.2) _ 0 g0 (fun h' tk acc c kp g it=>?_) hn
 exact k h' tk acc c g it fun b o e=>kp b o (Nat.ne_of_lt (Heap.lt_size e)) (Heap.get?_push_of_some _ e)
theorem qda {Q:List Value→Shared→Prop}{T:String}{r d:Addr}{n:Nat}{P:Nat→Value→Prop}{OK:Heap→Prop} (K:KdlSrc prog w T r d n P OK) (hh:A.handled=none) (hok:OK s.heap) (hn:n≤sizeLine)
  (k:∀ vs h' tk,vs.length=n→(∀ (j:Nat) v,vs[j]?=some v→P j v)→s.heap.objs.size<h'.objs.size→(∀ b o,s.heap.get? b=some o→h'.get? b=some o)→Q vs { s with heap:=h',toks:=tk }) :
  wpAny (model prog w) A (collect (.ref r)) Q E s:=by
 unfold collect
 refine wpAny_bind (wpAny_runValue (qdx K hh hok hn fun h' tk acc c g it kp=>?_))
 refine wpAny_bind (wpAny_load g ?_)
 exact wpAny_pure (k acc.toList h' tk (by rw[Array.length_toList];exact it.1) (fun j v e=>it.2 j v (by rw[← Array.getElem?_toList];exact e)) (Heap.lt_size g) kp)
end
section
variable {prog:Program}{w:World}{A:Around}{E:Value→Shared→Prop}{s:Shared}{it d:Addr}{es:Array DictEntry}{ep i:Nat}
def qb3 (h:Heap) (d:Addr) (es:Array DictEntry) (ep:Nat):Prop:=∃ o,h.get? d=some o∧o.ExactDict∧o.data=.dict es ep
theorem qb3.ty (x:qb3 s.heap d es ep):s.TypeIs (.ref d) "dict":=let ⟨o,ho,hc,_⟩:=x;⟨o,ho,hc.1⟩
theorem qb3.at_ {h h':Heap} (x:qb3 h d es ep) (k:∀ o,h.get? d=some o→h'.get? d=some o):qb3 h' d es ep:=let ⟨o,ho,r⟩:=x;⟨o,k _ ho,r⟩
theorem iterE {Q:Value→Shared→Prop} (hd:(d == sysModules)=false) (hm:qb3 s.heap d es ep)
  (hQ:Q (.ref s.heap.objs.size) { s with heap:=s.heap.push { cls:=.type "dict_keyiterator",data:=.fields #[.ref d,.int 0 0,.int es.size 0,.int ep 0] } }):wpAny (model prog w) A (pyIter (.ref d)) Q E s:=by
 obtain ⟨o,ho,hc,hdat⟩:=id hm
 refine wpAny_pyIter_slot hm.ty F.slot_dict_iter (wpAny_call_entry F.slot_dict_iter hm.ty F.entry_dict_iter ?_ (F.args_dict_iter_1 _))
 unfold Builtin.«dict.__iter__»
 refine wpAny_bind ?_
 unfold Builtin.Dict.dictSlotNone
 refine wpAny_bind (wpAny_notOrdered_dict hm.ty ?_)
 show wpAny _ _ (pure (Value.ref d)) _ _ s
 refine wpAny_pure ?_
 show wpAny _ _ (Builtin.Dict.showsAll d >>= _) _ _ s
 unfold Builtin.Dict.showsAll
 rw[if_neg (by rw[hd];exact Bool.false_ne_true)]
 refine wpAny_bind (wpAny_pure (wpAny_bind (wpAny_dictEntries ho hdat (wpAny_bind (wpAny_dictEpoch ho hdat ?_)))))
 exact wpAny_bind (wpAny_newObj_type (wpAny_pure ⟨_,rfl,"dict_keyiterator",_,⟨_,Heap.get?_push_size _ rfl,rfl⟩,F.slot_dict_keyiterator_next.lookup,hQ⟩))
theorem nextE {Q:Option Value→Shared→Prop} (hit:s.heap.IsKeyIter it d i es.size ep) (hm:qb3 s.heap d es ep) (hi:i<es.size)
  (hQ:∀ h',h'.IsKeyIter it d (i+1) es.size ep→Heap.SameBut it s.heap h'→Q (some es[i].key) { s with heap:=h' }):wpAny (model prog w) A (pyNext (.ref it)) Q E s:=by
 obtain ⟨o,ho,hc,hd⟩:=id hit
 obtain ⟨od,hod,hcd,hdd⟩:=id hm
 unfold pyNext
 refine wpAny_bind (wpAny_attempt (wpAny_callSpecial?_slot (name:=Str.ofString "__next__") hit.typeIs F.slot_dict_keyiterator_next
  (wpAny_call_entry F.slot_dict_keyiterator_next hit.typeIs F.entry_dict_keyiterator_next ?_ (F.args_dict_keyiterator_next_1 _))))
 refine wpAny_bind (wpAny_pure (wpAny_bind (wpAny_bind ?_)))
 first|refine wpAny_bind (wpAny_typeNameOfWhole_keyiter hit.typeIs (wpAny_pure ?_))|refine wpAny_bind (wpAny_typeNameOf_keyiter hit.typeIs (wpAny_pure ?_))
 refine wpAny_bind (wpAny_fieldsOf ho hd ?_)
 simp only[show Builtin.Dict_items.ownsTuple "dict_keyiterator" = false by decide,Bool.false_eq_true,if_false]
 show wpAny _ _ (if (Value.ref d == Value.none)=true then _ else _) _ _ s
 rw[if_neg (show ¬ ((Value.ref d == Value.none)=true) from Bool.false_ne_true)]
 refine wpAny_bind (wpAny_pure (wpAny_bind (wpAny_dictEntries hod hdd ?_)))
 rw[if_neg (by simp)]
 refine wpAny_bind (wpAny_pure (wpAny_bind (wpAny_dictEpoch hod hdd ?_)))
 rw[if_neg (by simp)]
 refine wpAny_pure ?_
 simp only[show ¬ ((i:Int)<0) from by omega,if_false,Int.toNat_natCast,Array.getElem?_eq_getElem hi]
 refine wpAny_bind ?_
 first|refine wpAny_bind (wpAny_typeNameOfWhole_keyiter hit.typeIs (wpAny_pure ?_))|refine wpAny_bind (wpAny_typeNameOf_keyiter hit.typeIs (wpAny_pure ?_))
 refine wpAny_bind (wpAny_isOneOf_keyiter hit.typeIs ?_)
 show wpAny _ _ (setField (.ref it) 1 (rawInt ((i:Int)+1)) >>= _) _ _ s
 refine wpAny_bind (wpAny_setField ho hd (by simp) ?_)
 have hit':(s.heap.update it (Obj.mapFields (·.setIfInBounds 1 (rawInt ((i:Int)+1))))).IsKeyIter it d (i+1) es.size ep:=
  ⟨_,Heap.get?_update_self _ ho (Obj.isFreed_of_fields (Obj.data_mapFields hd _)),(Obj.cls_mapFields ..).trans hc,by rw[Obj.data_mapFields hd];simp[rawInt]⟩
 refine wpAny_bind (wpAny_holding ?_)
 refine wpAny_bind (wpAny_isOneOf_keyiter (s:={ s with heap:=s.heap.update it (Obj.mapFields (·.setIfInBounds 1 (rawInt ((i:Int)+1)))) }) hit'.typeIs ?_)
 show wpAny _ _ (pure es[i].key) _ _ _
 exact wpAny_pure (wpAny_pure ⟨_,rfl,wpAny_pure (hQ _ hit' (Heap.SameBut.update ..))⟩)
theorem endE {Q:Option Value→Shared→Prop} (hh:A.handled=none) (hit:s.heap.IsKeyIter it d i es.size ep) (hm:qb3 s.heap d es ep) (hi:es.size≤i)
  (hQ:∀ h',Heap.ExtBut it s.heap h'→Q none { s with heap:=h' }):wpAny (model prog w) A (pyNext (.ref it)) Q E s:=by
 obtain ⟨o,ho,hc,hd⟩:=id hit
 obtain ⟨od,hod,hcd,hdd⟩:=id hm
 unfold pyNext
 refine wpAny_bind (wpAny_attempt (wpAny_callSpecial?_slot (name:=Str.ofString "__next__") hit.typeIs F.slot_dict_keyiterator_next
  (wpAny_call_entry F.slot_dict_keyiterator_next hit.typeIs F.entry_dict_keyiterator_next ?_ (F.args_dict_keyiterator_next_1 _))))
 refine wpAny_bind (wpAny_pure (wpAny_bind (wpAny_bind ?_)))
 first|refine wpAny_bind (wpAny_typeNameOfWhole_keyiter hit.typeIs (wpAny_pure ?_))|refine wpAny_bind (wpAny_typeNameOf_keyiter hit.typeIs (wpAny_pure ?_))
 refine wpAny_bind (wpAny_fieldsOf ho hd ?_)
 simp only[show Builtin.Dict_items.ownsTuple "dict_keyiterator" = false by decide,Bool.false_eq_true,if_false]
 show wpAny _ _ (if (Value.ref d == Value.none)=true then _ else _) _ _ s
 rw[if_neg (show ¬ ((Value.ref d == Value.none)=true) from Bool.false_ne_true)]
 refine wpAny_bind (wpAny_pure (wpAny_bind (wpAny_dictEntries hod hdd ?_)))
 rw[if_neg (by simp)]
 refine wpAny_bind (wpAny_pure (wpAny_bind (wpAny_dictEpoch hod hdd ?_)))
 rw[if_neg (by simp)]
 refine wpAny_pure ?_
 simp only[show ¬ ((i:Int)<0) from by omega,if_false,Int.toNat_natCast,Array.getElem?_eq_none hi]
 refine wpAny_bind ?_
 first|refine wpAny_bind (wpAny_typeNameOfWhole_keyiter hit.typeIs (wpAny_pure ?_))|refine wpAny_bind (wpAny_typeNameOf_keyiter hit.typeIs (wpAny_pure ?_))
 show wpAny _ _ (setField (.ref it) 0 .none >>= _) _ _ s
 refine wpAny_bind (wpAny_setField ho hd (by simp) ?_)
 show wpAny _ _ (newExc (.type "StopIteration") [] >>= _) _ _ _
 refine wpAny_bind ?_
 simp only[newExc,newTuple]
 refine wpAny_bind (wpAny_newObj_type ?_ (by size_fits))
 refine wpAny_bind (m:=firstArgMember _ _) (wpAny_of_eq (a:=Value.none) (by first|rfl|(simp only[firstArgMember];rfl)) ?_)
 refine wpAny_newObj_type ?_ (by size_fits)
 simp only[raiseNew]
 refine wpAny_bind (wpAny_handled ?_)
 rw[show A.in1.handled=none from hh]
 refine wpAny_bind (wpAny_pure (wpAny_throw ?_))
 refine wpAny_bind (wpAny_isInstance (T:="StopIteration") (b:=true) ⟨_,Heap.get?_push_size _ rfl,rfl⟩ isSubtype_stop ?_)
 exact wpAny_pure (hQ _ (((Heap.SameBut.update ..).extBut.push _).push _))
theorem walksE (hh:A.handled=none) (I d:Addr) (hne:d≠I) (es:Array DictEntry) (ep:Nat) :
  Walks prog w A I [I,d] [I] es.size (fun i v=>∃ e,es[i]?=some e∧v=e.key) (fun i h=>h.IsKeyIter I d i es.size ep∧qb3 h d es ep) where
 sub:=fun b hb=>by simp at hb;simp[hb]
 frame:=fun _ _ _ st hk=>⟨st.1.at fun o e=>hk I (by simp) o e,st.2.at_ fun o e=>hk d (by simp) o e⟩
 item:=fun i s Q E hi st hQ=>by
  refine nextE st.1 st.2 hi fun h' hit' hs'=>?_
  exact hQ _ h' s.toks ⟨es[i],by simp[hi],rfl⟩ ⟨hit',st.2.at_ fun o e=>hs'.extBut d o hne e⟩ fun b o hb e=>hs'.extBut b o (fun h=>hb (by simp[h])) e
 done:=fun s Q E st hQ=>endE hh st.1 st.2 (Nat.le_refl _) fun h' he'=>hQ h' s.toks fun b o hb e=>he' b o (fun h=>hb (by simp[h])) e
 self:=fun _ _ _ _ st hQ=>wpAny_pyIter_keyiter st.1 hQ
theorem srcE (lo:(d == sysModules)=false):KdlSrc prog w "dict" d d es.size (fun i v=>∃ e,es[i]?=some e∧v=e.key) (fun h=>qb3 h d es ep) where
 type:=fun _ hm=>hm.ty
 there:=fun _ ⟨o,ho,_⟩=>⟨Heap.lt_size ho,Heap.lt_size ho⟩
 keep:=fun _ _ hm hk=>hm.at_ fun o e=>hk d (.inl rfl) o e
 notList:=by decide
 notTuple:=by decide
 hint:=fun _ _ _ _ hm hq=>kdl_hint_dict hm.ty hq
 iter:=fun _ _ hh hm=>⟨_,_,(fun _ _ hq=>iterE lo hm hq),walksE hh _ d (let ⟨_,ho,_⟩:=hm;Nat.ne_of_lt (Heap.lt_size ho)) es ep,⟨⟨_,Heap.get?_push_size _ rfl,rfl,rfl⟩,hm.at_ fun o e=>Heap.get?_push_of_some _ e⟩⟩
end
section
variable {X:Cx}
def rSortT:List V→Hp→VK→Prop:=fun xs H Q=>∃ (l:Addr) (ts:List TL) (m:Nat),xs=[.ref l]∧H l=some (.lst (qad ts))∧(∀ t∈ts,H t.1=some (.tup (t.2.map V.int)))∧OkT m ts∧ts.length<64∧
 ∀ (p:Addr) (ts':List TL),H p=none→ts'.Perm ts→RiseT ts'→Q (.ref p) (upd H p (.lst (qad ts')))
theorem tis_of {P:Program}{w:World}{H:Hp}{h:Heap} (ok:HOk P w H h) {ts:List TL} (hT:∀ t∈ts,H t.1=some (.tup (t.2.map V.int))):TIs h ts:=fun t ht=>by
 obtain ⟨_,its,r,o,h1,h2,n,h3⟩:=(show yak P w H h t.1 (.tup (t.2.map V.int)) from ok t.1 _ (hT t ht))
 exact ⟨o,its,n,h1,h2,h3,yb5 r⟩
theorem TIs.keep {h h':Heap}{ts:List TL} (x:TIs h ts) (k:∀ b o,h.get? b=some o→h'.get? b=some o):TIs h' ts:=fun t ht=>by
 obtain ⟨o,us,n,e1,r⟩:=x t ht
 exact ⟨o,us,n,k _ _ e1,r⟩
theorem qci {pins:List (Addr×Obj)}{σ:St}{H:Hp}{s s1:Shared}{ts:List TL}{m:Nat}{Q:VK}{A:Around}{E:Value→Shared→Prop} (I:Inv X pins σ H s) (hh:∃ h' tk,s1={ s with heap:=h',toks:=tk }∧∀ b o,s.heap.get? b=some o→h'.get? b=some o) (hz:s.heap.objs.size≤s1.heap.objs.size)
  (hT:∀ t∈ts,H t.1=some (.tup (t.2.map V.int))) (hO:OkT m ts) (h64:ts.length<64) (q:∀ (p:Addr) (ts':List TL),H p=none→ts'.Perm ts→RiseT ts'→Q (.ref p) (upd H p (.lst (qad ts')))) :
  wpAny (model X.prog X.w) A (Builtin.«list.sort» ⟨[.ref s1.heap.objs.size],[]⟩) (fun f s3=>f=.done (.ret .none)∧EP X pins σ Q (.ref s1.heap.objs.size) s3) E { s1 with heap:=s1.heap.push (seqObj "list" (yap ts).toArray 0) }:=by
 obtain ⟨h',tk,rfl,kp⟩:=hh
 have gL:(h'.push (seqObj "list" (yap ts).toArray 0)).get? h'.objs.size=some (seqObj "list" (yap ts).toArray 0):=Heap.get?_push_size _ rfl
 refine ydt (s:={ s with heap:=h'.push (seqObj "list" (yap ts).toArray 0),toks:=tk }) gL h64 ((tis_of I.hok hT).keep fun b o e=>Heap.get?_push_of_some _ (kp b o e)) hO fun ts' hp hr=>⟨rfl,?_⟩
 obtain ⟨ep,ge⟩:=sortedHeap_at (out:=(yap ts').toArray) gL
 have hf:H h'.objs.size=none:=I.hok.fresh hz
 refine ⟨.ref h'.objs.size,_,I.laid (o:=.lst (qad ts')) (t':=tk) (fun b o g=>?_) hz ?_,rfl,q _ ts' hf hp hr⟩
 ·have hb:b<h'.objs.size:=Heap.lt_size (kp b o g)
  rw[sortedHeap_old (Nat.ne_of_lt hb) (by rw[show (h'.push (seqObj "list" (yap ts).toArray 0)).objs.size=h'.objs.size+1 from Heap.size_push ..];exact Nat.lt_succ_of_lt hb)]
  exact Heap.get?_push_of_some _ (kp b o g)
 ·exact ⟨yb1 (by unfold qad;rw[List.length_map,hp.length_eq];omega),yap ts',ep,ycq ts',ge⟩
theorem yb3:ybp X (.builtin "sorted") rSortT:=by
 intro pins s σ H xs us Q I r h
 obtain ⟨l,ts,m,rfl,hH,hT,hO,h64,q⟩:=h
 cases r with
 | cons r rr=>
  cases rr
  cases r
  obtain ⟨z,its,n,rv,hl,e⟩:=I.lstM hH
  have ei:=ycu rv
  subst ei
  have hlt:(yap ts).length=ts.length:=List.length_map _
  refine yby (collect_list (vs:=yap ts) ⟨_,e,rfl,n,rfl⟩ ⟨by omega,fun s2 hs=>?_⟩ (yb1 (by omega)))
  subst hs
  have kp:∀ b o,s.heap.get? b=some o→((s.heap.push (seqObj "list" #[] 0)).update s.heap.objs.size (Obj.mapSeq (·++(yap ts).toArray))).get? b=some o:=fun b o g=>
   (Heap.get?_update_other _ _ (Ne.symm (Nat.ne_of_lt (Heap.lt_size g)))).trans (Heap.get?_push_of_some _ g)
  exact qci (s1:={ s with heap:=(s.heap.push (seqObj "list" #[] 0)).update s.heap.objs.size (Obj.mapSeq (·++(yap ts).toArray)) }) I ⟨_,_,rfl,kp⟩ (by show _≤Array.size _;rw[Heap.size_update,Heap.size_push];exact Nat.le_succ _) hT hO h64 q
def rSortDI:List V→Hp→VK→Prop:=fun xs H Q=>∃ (a:Addr) (kvs:List (Key×V)) (ns:List Int),xs=[.ref a]∧Rd H a (.dK kvs)∧kvs.map (·.1)=ns.map Sum.inl∧ns.length<64∧
 ∀ (p:Addr) (ns':List Int),H p=none→ns'.Perm ns→ns'.Pairwise (·≤·)→Q (.ref p) (upd H p (.lst (ns'.map V.int)))
theorem qbp {P:Program}{w:World}:∀ {vs:List Value}{ns:List Int},vs.length=ns.length→(∀ (j:Nat) v n,vs[j]?=some v→ns[j]?=some n→(qaj P w).is (Sum.inl n) v=true)→IntsAre vs ns
 | [],[],_,_=>.nil
 | [],_::_,h,_=>by simp at h
 | _::_,[],h,_=>by simp at h
 | v::vs,n::ns,h,k=>by
  have h0:=k 0 v n rfl rfl
  rcases qag (k:=Sum.inl n) (v:=v) h0 with ⟨i,t,e,rfl⟩|⟨x,t,e,_⟩
  ·cases e
   exact .cons _ t (qbp (by simpa using h) fun j v n a b=>k (j+1) v n (by simpa using a) (by simpa using b))
  ·cases e
theorem qc5 (hc:X.calm=true):ybp X (.builtin "sorted") rSortDI:=by
 intro pins s σ H xs us Q I r h
 obtain ⟨a,kvs,ns,rfl,hH,hk,h64,q⟩:=h
 cases r with
 | cons r rr=>
  cases rr
  cases r
  obtain ⟨z1,m1,vs1,r1,dd1⟩:=qcv I.hok hH
  obtain ⟨ep,dat⟩:=dd1.dictAt
  have hl:=r1.length
  have hl2:kvs.length=ns.length:=by have:=congrArg List.length hk;simpa using this
  refine yby (qda (kdl_dict (knd:=qaj X.prog X.w) (kvs:=vs1) (ep:=ep) m1) (by simpa using I.ok.hd hc) dat (yb1 (by omega)) fun vs h' tk hvl hP hz kp=>⟨by omega,fun s2 hs=>?_⟩)
  subst hs
  have i1:IntsAre vs ns:=qbp (P:=X.prog) (w:=X.w) (by omega) fun j v n e1 e2=>by
   obtain ⟨k,x,e3,e4⟩:=hP j v e1
   obtain ⟨k',v',u',e5,e6,_⟩:=r1.at_ (i:=j) (by rw[hl2];exact (List.getElem?_eq_some_iff.mp e2).1)
   rw[e6] at e3;cases e3
   have:=congrArg (·[j]?) hk
   simp only[List.getElem?_map,e5,e2,Option.map_some,Option.some.injEq] at this
   rw[this] at e4
   exact e4
  have gL:(h'.push (seqObj "list" vs.toArray 0)).get? h'.objs.size=some (seqObj "list" vs.toArray 0):=Heap.get?_push_size _ rfl
  refine list_sort_tree gL i1 (by omega) fun out n2 a1 a2 a3=>⟨rfl,?_⟩
  obtain ⟨ep,ge⟩:=sortedHeap_at (out:=out) gL
  have hf:H h'.objs.size=none:=I.hok.fresh (Nat.le_of_lt hz)
  refine ⟨.ref h'.objs.size,_,I.laid (o:=.lst (n2.map V.int)) (t':=tk) (fun b o g=>?_) (Nat.le_of_lt hz) ?_,rfl,q _ n2 hf a2 a3⟩
  ·have hb:b<h'.objs.size:=Heap.lt_size (kp b o g)
   rw[sortedHeap_old (Nat.ne_of_lt hb) (by rw[show (h'.push (seqObj "list" vs.toArray 0)).objs.size=h'.objs.size+1 from Heap.size_push ..];exact Nat.lt_succ_of_lt hb)]
   exact Heap.get?_push_of_some _ (kp b o g)
  ·exact ⟨yb1 (by rw[List.length_map,a2.length_eq];omega),out.toList,ep,qbx a1,by simpa using ge⟩
def rSortDT:List V→Hp→VK→Prop:=fun xs H Q=>∃ (a:Addr) (kvs:List (List Key×V)) (ks:List (List Int)) (m:Nat),xs=[.ref a]∧H a=some (.dT kvs)∧kvs.map (·.1)=ks.map (List.map Sum.inl)∧(∀ k∈ks,k.length=m+1∧Sml k)∧ks.length<64∧
 ∀ (p:Addr) (ts:List TL),H p=none→(∀ t∈ts,H t.1=some (.tup (t.2.map V.int)))→(ts.map (·.2)).Perm ks→RiseT ts→Q (.ref p) (upd H p (.lst (qad ts)))
theorem qdt {H:Hp}:∀ {kvs:List (List Key×V)}{xs:List (List Key×Addr×Value)}{ks:List (List Int)},KT H kvs xs→kvs.map (·.1)=ks.map (List.map Sum.inl)→
  ∃ ts:List TL,ts.map (·.2)=ks∧ts.map (·.1)=xs.map (·.2.1)∧∀ t∈ts,H t.1=some (.tup (t.2.map V.int))
 | [],[],[],_,_=>⟨[],rfl,rfl,fun t h=>by simp at h⟩
 | [],[],_::_,_,h=>by simp at h
 | _::_,_,[],_,h=>by simp at h
 | p::kvs,x::xs,k::ks,.cons r q,h=>by
  simp only[List.map_cons,List.cons.injEq] at h
  obtain ⟨ts,a,b,c⟩:=qdt q h.2
  refine ⟨(x.2.1,k)::ts,by rw[List.map_cons,a],by rw[List.map_cons,b];rfl,fun t ht=>?_⟩
  rcases List.mem_cons.mp ht with rfl|ht
  ·have:=r.2.1
   rw[h.1,List.map_map] at this
   exact this
  ·exact c t ht
theorem qc2 (hc:X.calm=true):ybp X (.builtin "sorted") rSortDT:=by
 intro pins s σ H xs us Q I r h
 obtain ⟨a,kvs,ks,m,rfl,hH,hk,hK,h64,q⟩:=h
 cases r with
 | cons r rr=>
  cases rr
  cases r
  obtain ⟨z1,m1,ys,r1,o,es,ep,e1,e2,e3,e4,e5⟩:=(show yak X.prog X.w H s.heap a (.dT kvs) from I.hok a _ hH)
  obtain ⟨ts,t1,t2,t3⟩:=qdt (H:=H) r1 hk
  have htl:ts.length=ks.length:=by have:=congrArg List.length t1;simpa using this
  have hyl:ys.length=ts.length:=by have:=congrArg List.length t2;simpa using this.symm
  have hes:es.size=ys.length:=by rw[← Array.length_toList,e4,List.length_map]
  refine yby (qda (srcE (es:=es) (ep:=ep) m1) (by simpa using I.ok.hd hc) ⟨o,e1,e2,e3⟩ (yb1 (by omega)) fun vs h' tk hvl hP hz kp=>⟨by omega,fun s2 hs=>?_⟩)
  subst hs
  have ev:vs=yap ts:=by
   refine List.ext_getElem? fun j=>?_
   by_cases hj:j<ts.length
   ·have hv:j<vs.length:=by omega
    obtain ⟨e,g1,g2⟩:=hP j vs[j] (by simp[hv])
    rw[← Array.getElem?_toList,e4,List.getElem?_map,List.getElem?_eq_getElem (show j<ys.length by omega)] at g1
    have g3:e=entryOfKey (tupleKind (qaj X.prog X.w)) ys[j]:=by simpa using g1.symm
    have g4:=congrArg (·[j]?) t2
    simp only[List.getElem?_map,List.getElem?_eq_getElem hj,List.getElem?_eq_getElem (show j<ys.length by omega),Option.map_some,Option.some.injEq] at g4
    unfold yap
    rw[List.getElem?_eq_getElem hv,List.getElem?_map,List.getElem?_eq_getElem hj,g2,g3]
    show some (Value.ref (ys[j].2.1))=some (Value.ref (ts[j].1))
    rw[g4]
   ·rw[List.getElem?_eq_none (by omega),List.getElem?_eq_none (by unfold yap;rw[List.length_map];omega)]
  subst ev
  have hO:OkT m ts:=fun t ht=>hK t.2 (by rw[← t1];exact List.mem_map_of_mem ht)
  refine qci (s1:={ s with heap:=h',toks:=tk }) I ⟨_,_,rfl,kp⟩ (Nat.le_of_lt hz) t3 hO (by omega) fun p ts' hp pm ri=>q p ts' hp (fun t ht=>t3 t (pm.mem_iff.mp ht)) ?_ ri
  rw[← t1]
  exact pm.map _
end
end L2
namespace L2
open PySem PySem.Spec PyProof.Rows
theorem for_by {J:It}{n:Nat}{g:TG}{tb:TS}{D:Ends}{σ:St}{H:Hp} (Pv:Nat→St→Hp→Prop) (h0:Pv 0 σ H) (hd:∀ σ H,Pv n σ H→J.stop n H∧D.nx σ H)
  (hs:∀ i σ H,i<n→Pv i σ H→J.go i H∧∀ x H',J.yld i H x H'→g x σ H' fun σ2 H2=>tb { D with nx:=Pv (i+1),ct:=Pv (i+1),bk:=D.nx } σ2 H2) :
  ∃ W:Nat→Nat→St→Hp→Prop,(∃ m,W 0 m σ H)∧∀ i m σ H,W i m σ H→
   (J.stop i H∧D.nx σ H)∨(J.go i H∧∃ N:St→Hp→Prop,(∀ σ' H',N σ' H'→∃ m',m' < m∧W (i+1) m' σ' H')∧∀ x H',J.yld i H x H'→g x σ H' fun σ2 H2=>tb { D with nx:=N,ct:=N,bk:=D.nx } σ2 H2):=by
 refine ⟨fun i m σ H=>m=n-i∧i≤n∧Pv i σ H,⟨n,by simp,Nat.zero_le _,h0⟩,?_⟩
 rintro i m σ H ⟨rfl,hi,p⟩
 by_cases hlt:i<n
 ·obtain ⟨g1,g2⟩:=hs i σ H hlt p
  exact .inr ⟨g1,Pv (i+1),fun σ' H' p'=>⟨n-(i+1),by omega,rfl,hlt,p'⟩,g2⟩
 ·have e:i=n:=by omega
  subst e
  exact .inl (hd σ H p)
section
variable {X:Cx}{kvs:List (Key×V)}{a:Addr}{H:Hp}{pins:List (Addr×Obj)}{σ:St}{s:Shared}
structure Frz (H:Hp) (a:Addr) (o:Obj) (kvs:List (Key×V)) (H2:Hp):Prop where
 at_:H2 a=some (.frz o (.dK kvs))
 st:∀ b,b≠a→H2 b=H b
theorem Inv.frzR (I:Inv X pins σ H s) (e:Rd H a (.dK kvs)):∃ o es ep H2,o.data=.dict es ep∧Inv X pins σ H2 s∧Frz H a o kvs H2:=by
 rcases e with e|⟨o,e⟩
 ·obtain ⟨o,es,ep,hda,ho,I2⟩:=I.frzD e
  exact ⟨o,es,ep,_,hda,I2,yaa,fun b h=>yab h⟩
 ·obtain ⟨ho,z,hd,vs,r,ob,es',ep',ho',hx,hda',rest⟩:=(show yak X.prog X.w H s.heap a (.frz o (.dK kvs)) from I.hok a _ e)
  rw[ho] at ho';cases ho'
  exact ⟨o,es',ep',H,hda',I,e,fun b h=>rfl⟩
def tItems (to:TE):TE:=fun σ H Q=>to σ H fun x H1=>∃ a kvs,x=.ref a∧Rd H1 a (.dK kvs)∧∀ v,H1 v=none→Q (.ref v) (upd H1 v (vwI v a))
theorem qdd {o:Expr}{to:TE}{apos cpos:Pos} (ho:PE X o to) (hbase:attributeBase o "items" X.env (eval o X.env)=eval o X.env:=by rfl) (hline:(apos.endLine == cpos.line)=true:=by rfl) :
  PE X (.Call (.Attribute o "items" apos) [] [] cpos) (tItems to):=by
 intro pins s σ H Q I h
 refine wpAny_Call_method0_late hbase hline (thn (ho pins s σ H _ I h) fun v s1 ⟨x,H1,I1,r1,a,kvs,e,hr,q⟩=>?_)
 subst e
 cases r1
 obtain ⟨z1,m1,vs1,r2,dd1⟩:=qcv I1.hok hr
 refine ⟨"dict","dict.items",PySem.F.plainAttrs_dict,PySem.F.slot_dict_items,PySem.F.type_dict_items,dd1.typeIs,fun b eb=>?_,?_⟩
 ·cases eb
  obtain ⟨ob,es,ep,e1,e2,_⟩:=dd1
  exact ⟨ob,e1,e2.2.1⟩
 ·exact Calls.callWith_builtin rfl (PySem.evalArgs_none (mt_items pins s1 σ H1 (.ref a) [] (.ref a) [] Q I1 rfl .nil ⟨a,kvs,rfl,rfl,hr,q⟩))
def iItemsR (tl:TE):TI:=fun σ H R=>tl σ H fun x H1=>∃ v a kvs,x=.ref v∧H1 v=some (vwI v a)∧Rd H1 a (.dK kvs)∧∀ o H2,Frz H1 a o kvs H2→R (Iti a o kvs) H2
theorem qcf {el:List Expr}{k:Nat}{tp:Pos}{l:Expr}{tl:TE} (hl:PE X l tl):PI X (.Tuple el k tp) l (iItemsR tl):=by
 intro pins s σ H R I h
 refine thn (hl pins s σ H _ I h) fun v s1 ⟨x,H1,I1,r1,q1⟩=>?_
 obtain ⟨v',a,kvs,e,hv,hq,q⟩:=q1
 subst e
 cases r1
 obtain ⟨iv,_⟩:=(show yak X.prog X.w H1 s1.heap v' (vwI v' a) from I1.hok v' _ hv)
 obtain ⟨o,es,ep,H2,hda,I2,fz⟩:=I1.frzR hq
 obtain ⟨z,hd,vs,r,dd⟩:=I2.frzAt fz.at_ hda
 refine wpAny_pyIter_items iv dd ?_
 refine ⟨s1.heap.objs.size,[s1.heap.objs.size],_,_,_,rfl,I2.kept (t':=s1.toks) fun b o e=>Heap.get?_push_of_some _ e,ydd a _ o hda,⟨.none,.none,by rw[r.length];exact Heap.get?_push_size _ rfl⟩,fun b hb=>?_,q o H2 fz⟩
 have e:b=s1.heap.objs.size:=by simpa using hb
 subst e
 exact I2.fpOk (Nat.le_refl _) (I2.hok.fresh (Nat.le_refl _))
def iDictR (tl:TE):TI:=fun σ H R=>tl σ H fun x H1=>∃ a kvs,x=.ref a∧Rd H1 a (.dK kvs)∧∀ o H2,Frz H1 a o kvs H2→R (Itd a o kvs) H2
theorem pi_dictR {tg l:Expr}{tl:TE} (hl:PE X l tl):PI X tg l (iDictR tl):=by
 intro pins s σ H R I h
 refine thn (hl pins s σ H _ I h) fun v s1 ⟨x,H1,I1,r1,q1⟩=>?_
 obtain ⟨a,kvs,e,hq,q⟩:=q1
 subst e
 cases r1
 obtain ⟨o,es,ep,H2,hda,I2,fz⟩:=I1.frzR hq
 obtain ⟨z,hd,vs,r,dd⟩:=I2.frzAt fz.at_ hda
 refine wpAny_pyIter_dict hd dd ?_
 refine ⟨s1.heap.objs.size,[s1.heap.objs.size],_,_,_,rfl,I2.kept (t':=s1.toks) fun b o e=>Heap.get?_push_of_some _ e,qdu a _ o hda,⟨_,Heap.get?_push_size _ rfl,rfl,by rw[r.length];rfl⟩,fun b hb=>?_,q o H2 fz⟩
 have e:b=s1.heap.objs.size:=by simpa using hb
 subst e
 exact I2.fpOk (Nat.le_refl _) (I2.hok.fresh (Nat.le_refl _))
end
theorem eqI:∀ (a b:List Int),PyData.eqvAll (a.map PyData.int) (b.map PyData.int)=decide (a=b)
 | [],[]=>rfl
 | [],_::_=>rfl
 | _::_,[]=>rfl
 | x::a,y::b=>by
  show ((PyData.int x).eqv (.int y)&&PyData.eqvAll (a.map PyData.int) (b.map PyData.int))=_
  rw[eqI a b]
  have:(PyData.int x).eqv (.int y)=decide (x=y):=by simp[PyData.eqv];rfl
  rw[this,Bool.eq_iff_iff]
  simp
theorem ycb {H:Hp}:∀ (cs:List Int),AtAll H (cs.map V.int) (cs.map PyData.int)
 | []=>.nil
 | c::cs=>.cons (.int c) (ycb cs)
theorem layI:∀ (cs:List Int),PyData.canLayAll0 (cs.map PyData.int)=true
 | []=>rfl
 | c::cs=>by
  have:=layI cs
  simp only[List.map_cons,PyData.canLayAll0,this,Bool.and_true]
  rfl
theorem depI:∀ (cs:List Int),PyData.depthAll (cs.map PyData.int)≤1
 | []=>by simp[PyData.depthAll]
 | c::cs=>by
  have:=depI cs
  simp only[List.map_cons,PyData.depthAll,PyData.depth]
  omega
def tupD (ks:List (List Int)):List PyData:=ks.map fun k=>PyData.tuple (k.map PyData.int)
theorem eqTs:∀ (a b:List (List Int)),PyData.eqvAll (tupD a) (tupD b)=decide (a=b)
 | [],[]=>rfl
 | [],_::_=>rfl
 | _::_,[]=>rfl
 | x::a,y::b=>by
  show ((PyData.tuple (x.map PyData.int)).eqv (.tuple (y.map PyData.int))&&PyData.eqvAll (tupD a) (tupD b))=_
  rw[eqTs a b]
  have:(PyData.tuple (x.map PyData.int)).eqv (.tuple (y.map PyData.int))=decide (x=y):=by rw[PyData.eqv];exact eqI x y
  rw[this,Bool.eq_iff_iff]
  simp
theorem atTs {H:Hp}:∀ {ts:List TL},(∀ t∈ts,H t.1=some (.tup (t.2.map V.int)))→AtAll H (qad ts) (tupD (ts.map (·.2)))
 | [],_=>.nil
 | t::ts,h=>.cons (.tup (h t (List.mem_cons_self ..)) (ycb _)) (atTs fun u hu=>h u (List.mem_cons_of_mem _ hu))
theorem layTs:∀ (ks:List (List Int)),PyData.canLayAll0 (tupD ks)=true
 | []=>rfl
 | k::ks=>by
  show (PyData.canLay0 (.tuple (k.map PyData.int))&&PyData.canLayAll0 (tupD ks))=true
  rw[layTs ks,Bool.and_true]
  exact layI k
theorem depTs:∀ (ks:List (List Int)),PyData.depthAll (tupD ks)≤2
 | []=>by simp[tupD,PyData.depthAll]
 | k::ks=>by
  have h1:=depTs ks
  have h2:=depI k
  unfold tupD at h1 ⊢
  simp only[List.map_cons,PyData.depthAll,PyData.depth]
  omega
section
variable {X:Cx}
def rInP (neg:Bool):R2:=fun x y H Q=>∃ (q p:Addr) (k:List Int) (ts:List TL),x=.ref q∧y=.ref p∧H q=some (.tup (k.map V.int))∧H p=some (.lst (qad ts))∧(∀ t∈ts,H t.1=some (.tup (t.2.map V.int)))∧Q (.bl (if neg then !decide (k∈ts.map (·.2)) else decide (k∈ts.map (·.2)))) H
def eUP (H:Hp) (k:List Int):Value→Bool
 | .ref a=>match H a with|some (.tup xs)=>decide (xs=k.map V.int)|_=>false
 | _=>false
theorem ycv {a b:List Int}:a.map V.int=b.map V.int↔a=b:=by
 constructor
 ·intro h
  have:=congrArg (List.map fun v:V=>match v with | .int i=>i|_=>0) h
  rw[List.map_map,List.map_map] at this
  have e:((fun v:V=>match v with | .int i=>i|_=>(0:Int)) ∘ V.int)=id:=rfl
  rw[e,List.map_id,List.map_id] at this
  exact this
 ·intro h;rw[h]
theorem eUP_at {H:Hp}{k m:List Int}{a:Addr} (ha:H a=some (.tup (m.map V.int))):eUP H k (.ref a)=decide (m=k):=by
 unfold eUP
 dsimp only
 rw[ha]
 dsimp only
 exact decide_eq_decide.mpr ycv
theorem yd0 {H:Hp}{k:List Int}:∀ {ts:List TL},(∀ t∈ts,H t.1=some (.tup (t.2.map V.int)))→(yap ts).any (eUP H k)=decide (k∈ts.map (·.2))
 | [],_=>rfl
 | t::ts,h=>by
  show (eUP H k (.ref t.1)||(yap ts).any (eUP H k))=_
  rw[yd0 fun u hu=>h u (List.mem_cons_of_mem _ hu),eUP_at (h t (List.mem_cons_self ..)),← Bool.decide_or]
  refine decide_eq_decide.mpr ?_
  rw[List.map_cons,List.mem_cons]
  exact ⟨fun z=>z.imp Eq.symm id,fun z=>z.imp Eq.symm id⟩
theorem eUP_eq {pins:List (Addr×Obj)}{σ:St}{H:Hp}{s:Shared}{n:Nat} (hr:Room n X.A) (I:Inv X pins σ H s) {q:Addr}{k:List Int}{ts:List TL} (hq:H q=some (.tup (k.map V.int))) (hT:∀ t∈ts,H t.1=some (.tup (t.2.map V.int))) :
  ∀ y,y∈yap ts→SeqAt.EqAt X.A.in1 s y (.ref q) (eUP H k y):=fun y hy=>by
 obtain ⟨t,ht,rfl⟩:=List.mem_map.mp hy
 have ha:=hT t ht
 have hu:=hr.units
 obtain ⟨as,rx⟩:=(At.tup hq (ycb k)).reads I.hok (u:=.ref q) rfl
 obtain ⟨bs,ry⟩:=(At.tup ha (ycb t.2)).reads I.hok (u:=.ref t.1) rfl
 have e:eUP H k (.ref t.1)=PyData.eqv (.tuple (t.2.map PyData.int)) (.tuple (k.map PyData.int)):=by rw[eUP_at ha,PyData.eqv];exact (eqI _ _).symm
 rw[e]
 refine PySem.SeqAt.eqAt_reads _ _ _ _ _ _ _ _ ry rx (layI _) (layI _) ?_
 have h1:=depI t.2
 have h2:=Nat.min_le_left (PyData.tuple (t.2.map PyData.int)).depth (PyData.tuple (k.map PyData.int)).depth
 have h3:(PyData.tuple (t.2.map PyData.int)).depth≤2:=by
  simp only[PyData.depth]
  omega
 show X.A.units+1+_<_
 omega
theorem ycm {n:Nat} (hr:Room n X.A):OpR X (compareOp .NotIn) (rInP true):=by
 intro pins s σ H x y v u Q I rx ry h
 obtain ⟨q,p,k,ts,rfl,rfl,hq,hp,hT,kk⟩:=h
 cases rx
 cases ry
 obtain ⟨its,r,pl,hz⟩:=I.list (SqL.of hp)
 have ei:=ycu r
 subst ei
 refine SeqAt.notIn_listAt (eUP H k) pl.isList (fun w hw=>eUP_eq hr I hq hT w (by simpa using hw)) ⟨.bl _,H,I,rfl,?_⟩
 rw[show (yap ts).toArray.any (eUP H k)=(yap ts).any (eUP H k) by simp,yd0 hT]
 exact kk
end
end L2
namespace Mc
open PySem L2 PyProof.Rows Mx
def top (i:Nat):Stmt:=PySem.Challenge.pw_marchmend_k45_fewest_covers.main.body.getD i (.Pass ⟨0,0,0,0⟩)
abbrev Mt:=List (Int×Int)
def kvM (M:Mt):List (Key×V):=M.map fun e=>((Sum.inl e.1:Key),V.int e.2)
def kvT (T:List Int):List (Key×V):=T.map fun l=>((Sum.inl l:Key),V.bl true)
def look (M:Mt) (l:Int):Option Int:=(M.find? fun e=>decide (e.1=l)).map (·.2)
def putM (M:Mt) (l r:Int):Mt:=if (look M l).isSome=true then M.map (fun e=>if e.1=l then (e.1,r) else e) else M++[(l,r)]
def cnt (M:Mt) (x:Int):Nat:=M.countP fun e=>decide (e.2=x)
theorem ybh (e:Int×Int) (M:Mt) (l:Int):look (e::M) l=if e.1=l then some e.2 else look M l:=by
 unfold look
 rw[List.find?_cons]
 by_cases h:e.1=l
 ·rw[if_pos h];simp[h]
 ·rw[if_neg h];simp[h]
theorem valM:∀ (M:Mt) (l:Int),valV (kvM M) (Sum.inl l)=(look M l).map V.int
 | [],l=>rfl
 | e::M,l=>by
  rw[ybh]
  by_cases h:e.1=l
  ·rw[if_pos h];exact qan (p:=((Sum.inl e.1:Key),V.int e.2)) (by rw[h])
  ·rw[if_neg h,← valM M l];exact yan (p:=((Sum.inl e.1:Key),V.int e.2)) fun z=>h (Sum.inl.inj z)
theorem putKM (M:Mt) (l r:Int):putK (kvM M) (Sum.inl l) (.int r)=kvM (putM M l r):=by
 unfold putK putM
 rw[ya4,valM,Option.isSome_map]
 by_cases h:(look M l).isSome=true
 ·rw[if_pos h,if_pos h]
  unfold kvM
  rw[List.map_map,List.map_map]
  refine List.map_congr_left fun e _=>?_
  show (if (Sum.inl e.1:Key)=Sum.inl l then ((Sum.inl e.1:Key),V.int r) else (Sum.inl e.1,V.int e.2))=_
  by_cases z:e.1=l
  ·rw[if_pos (by rw[z])];simp[z]
  ·rw[if_neg fun q=>z (Sum.inl.inj q)];simp[z]
 ·rw[if_neg h,if_neg h]
  unfold kvM
  rw[List.map_append]
  rfl
theorem valT:∀ (T:List Int) (l:Int),(valV (kvT T) (Sum.inl l)).isSome=decide (l∈T)
 | [],l=>rfl
 | e::M,l=>by
  by_cases h:e=l
  ·rw[show valV (kvT (e::M)) (Sum.inl l)=some (V.bl true) from qan (p:=((Sum.inl e:Key),V.bl true)) (by rw[h])]
   simp[h]
  ·rw[show valV (kvT (e::M)) (Sum.inl l)=valV (kvT M) (Sum.inl l) from yan (p:=((Sum.inl e:Key),V.bl true)) fun z=>h (Sum.inl.inj z),valT M l]
   refine decide_eq_decide.mpr ?_
   rw[List.mem_cons]
   exact ⟨.inr,fun z=>z.elim (fun z=>absurd z.symm h) id⟩
theorem putKT {T:List Int}{l:Int} (h:l∉T):putK (kvT T) (Sum.inl l) (.bl true)=kvT (T++[l]):=by
 have:valV (kvT T) (Sum.inl l)=none:=by
  have:=valT T l
  rw[decide_eq_false h] at this
  exact Option.isNone_iff_eq_none.mp (by simpa using this)
 rw[yda _ this]
 unfold kvT
 rw[List.map_append]
 rfl
theorem qba (M:Mt) (l r l':Int):look (putM M l r) l'=if l'=l then some r else look M l':=by
 have h:=ybs (kvM M) (Sum.inl l) (Sum.inl l') (.int r)
 rw[putKM,valM,valM] at h
 by_cases e:l'=l
 ·subst e
  rw[if_pos rfl] at h ⊢
  cases q:look (putM M l' r) l' with
  | none=>rw[q] at h;cases h
  | some z=>rw[q] at h;cases h;rfl
 ·rw[if_neg fun z=>e (Sum.inl.inj z)] at h
  rw[if_neg e]
  cases q:look (putM M l r) l' with
  | none=>
   rw[q] at h
   cases q2:look M l' with
   | none=>rfl
   | some z=>rw[q2] at h;cases h
  | some z=>
   rw[q] at h
   cases q2:look M l' with
   | none=>rw[q2] at h;cases h
   | some y=>rw[q2] at h;cases h;rfl
theorem qcx:∀ {M:Mt}{l r:Int},look M l=some r→(l,r)∈M
 | [],_,_,h=>by cases h
 | e::M,l,r,h=>by
  rw[ybh] at h
  by_cases z:e.1=l
  ·rw[if_pos z] at h;cases h;subst z;exact List.mem_cons_self ..
  ·rw[if_neg z] at h;exact List.mem_cons_of_mem _ (qcx h)
theorem qd1 {M:Mt}{l:Int} (h:look M l=none):l∉M.map (·.1):=by
 intro hm
 obtain ⟨e,he,rfl⟩:=List.mem_map.mp hm
 have:=List.find?_eq_none.mp (Option.map_eq_none_iff.mp h) e he
 simp at this
theorem look_of {M:Mt} (hn:(M.map (·.1)).Nodup):∀ {e:Int×Int},e∈M→look M e.1=some e.2:=by
 induction M with
 | nil=>intro e h;simp at h
 | cons x M ih=>
  intro e h
  rw[List.map_cons,List.nodup_cons] at hn
  rw[ybh]
  rcases List.mem_cons.mp h with rfl|h
  ·rw[if_pos rfl]
  ·rw[if_neg fun z=>hn.1 (by rw[z];exact List.mem_map_of_mem h)]
   exact ih hn.2 h
theorem keys_put (M:Mt) (l r:Int):(putM M l r).map (·.1)=if (look M l).isSome=true then M.map (·.1) else M.map (·.1)++[l]:=by
 unfold putM
 split
 ·rw[List.map_map]
  refine List.map_congr_left fun e _=>?_
  show (if e.1=l then (e.1,r) else e).1=e.1
  split<;>rfl
 ·rw[List.map_append];rfl
theorem ydj {M:Mt} (h:(M.map (·.1)).Nodup) (l r:Int):((putM M l r).map (·.1)).Nodup:=by
 rw[keys_put]
 split
 ·exact h
 ·rename_i z
  exact qcd h (qd1 (by simpa using z))
theorem mem_put {M:Mt}{l r:Int}{e:Int×Int} (h:e∈putM M l r):e∈M∨e=(l,r):=by
 unfold putM at h
 split at h
 ·obtain ⟨x,hx,rfl⟩:=List.mem_map.mp h
  by_cases z:x.1=l
  ·rw[if_pos z,z];exact .inr rfl
  ·rw[if_neg z];exact .inl hx
 ·rcases List.mem_append.mp h with h|h
  ·exact .inl h
  ·exact .inr (List.mem_singleton.mp h)
def ind (a b:Int):Nat:=if a=b then 1 else 0
theorem cnt_new {M:Mt}{l r:Int} (h:look M l=none) (x:Int):cnt (putM M l r) x=cnt M x+ind x r:=by
 unfold putM
 rw[h,if_neg (by simp)]
 unfold cnt ind
 rw[List.countP_append]
 by_cases z:x=r
 ·subst z;simp
 ·rw[if_neg z];simp;exact fun q=>z q.symm
theorem map_off {M:Mt}{l r:Int} (h:l∉M.map (·.1)):M.map (fun e=>if e.1=l then (e.1,r) else e)=M:=by
 induction M with
 | nil=>rfl
 | cons x M ih=>
  rw[List.map_cons,List.mem_cons,not_or] at h
  rw[List.map_cons,if_neg fun z=>h.1 z.symm,ih h.2]
theorem cnt_old {M:Mt} (hn:(M.map (·.1)).Nodup) {l r r1:Int} (h:look M l=some r1) (x:Int):cnt (putM M l r) x+ind x r1=cnt M x+ind x r:=by
 unfold putM
 rw[h,if_pos (show (some r1).isSome=true from rfl)]
 induction M with
 | nil=>cases h
 | cons e M ih=>
  rw[List.map_cons,List.nodup_cons] at hn
  rw[ybh] at h
  rw[List.map_cons]
  have cc:∀ (y:Int×Int) (N:Mt),cnt (y::N) x=cnt N x+ind x y.2:=fun y N=>by
   unfold cnt ind
   rw[List.countP_cons]
   by_cases z:x=y.2
   ·rw[if_pos z,if_pos (by simp[z])]
   ·rw[if_neg z,if_neg (by simp;exact fun q=>z q.symm)]
  rw[cc,cc]
  by_cases z:e.1=l
  ·rw[if_pos z] at h ⊢
   cases h
   rw[map_off (by rw[← z];exact hn.1)]
   show cnt M x+ind x r+ind x e.2=cnt M x+ind x e.2+ind x r
   omega
  ·rw[if_neg z] at h ⊢
   have:=ih hn.2 h
   omega
abbrev Bs:=List (Int×Int)
def adj (bs:Bs) (r:Int):List Int:=(bs.filter fun p=>decide (p.1=r)).map (·.2)
theorem ybu {bs:Bs}{r l:Int}:l∈adj bs r↔(r,l)∈bs:=by
 unfold adj
 rw[List.mem_map]
 constructor
 ·rintro ⟨⟨a,b⟩,h,rfl⟩
  obtain ⟨h1,h2⟩:=List.mem_filter.mp h
  have:a=r:=of_decide_eq_true h2
  subst this
  exact h1
 ·intro h
  exact ⟨(r,l),List.mem_filter.mpr ⟨h,by simp⟩,rfl⟩
def B12 (bs:Bs):Prop:=∀ p∈bs,(0≤p.1∧p.1<12)∧0≤p.2∧p.2<12
structure GoodM (bs:Bs) (M:Mt):Prop where
 nd:(M.map (·.1)).Nodup
 ed:∀ e∈M,(e.2,e.1)∈bs
structure TOk (T:List Int):Prop where
 nd:T.Nodup
 lt:∀ l∈T,0≤l∧l<12
theorem ya3 {α:Type} [DecidableEq α]:∀ {l m:List α},l.Nodup→(∀ x∈l,x∈m)→l.length≤m.length
 | [],_,_,_=>Nat.zero_le _
 | x::l,m,hn,h=>by
  rw[List.nodup_cons] at hn
  have hx:=h x (List.mem_cons_self ..)
  have:=ya3 (l:=l) (m:=m.erase x) hn.2 fun y hy=>(List.mem_erase_of_ne (show y≠x from fun z=>hn.1 (z ▸ hy))).mpr (h y (List.mem_cons_of_mem _ hy))
  rw[List.length_erase_of_mem hx] at this
  have hp:0<m.length:=List.length_pos_of_mem hx
  rw[List.length_cons]
  omega
def ycg:List Int:=[0,1,2,3,4,5,6,7,8,9,10,11]
theorem in12 {l:Int} (h:0≤l∧l<12):l∈ycg:=by
 have:l=0∨l=1∨l=2∨l=3∨l=4∨l=5∨l=6∨l=7∨l=8∨l=9∨l=10∨l=11:=by omega
 unfold ycg
 simp only[List.mem_cons,List.not_mem_nil,or_false]
 exact this
theorem len12 {l:List Int} (hn:l.Nodup) (h:∀ x∈l,0≤x∧x<12):l.length≤12:=ya3 (m:=ycg) hn fun x hx=>in12 (h x hx)
theorem TOk.len {T:List Int} (h:TOk T):T.length≤12:=len12 h.nd h.lt
theorem TOk.snoc {T:List Int}{l:Int} (h:TOk T) (hl:l∉T) (h0:0≤l∧l<12):TOk (T++[l]):=
 ⟨qcd h.nd hl,fun x hx=>(List.mem_append.mp hx).elim (h.lt x) fun z=>by rw[List.mem_singleton.mp z];exact h0⟩
theorem GoodM.len {bs:Bs}{M:Mt} (h:GoodM bs M) (hb:B12 bs):M.length≤12:=by
 have:=len12 h.nd fun x hx=>by
  obtain ⟨e,he,rfl⟩:=List.mem_map.mp hx
  exact (hb _ (h.ed e he)).2
 simpa using this
theorem GoodM.put {bs:Bs}{M:Mt} (h:GoodM bs M) {l r:Int} (e:(r,l)∈bs):GoodM bs (putM M l r):=
 ⟨ydj h.nd l r,fun x hx=>(mem_put hx).elim (h.ed x) fun z=>by rw[z];exact e⟩
def Closed (bs:Bs) (M:Mt) (D:Int→Prop):Prop:=∀ l,D l→∃ r,look M l=some r∧∀ l'∈adj bs r,D l'
structure Fail (bs:Bs) (M:Mt) (T:List Int) (r:Int) (T':List Int):Prop where
 ok:TOk T'
 sub:∀ l∈T,l∈T'
 all:∀ l∈adj bs r,l∈T'
 cl:∀ l∈T',l∈T∨∃ r',look M l=some r'∧∀ l'∈adj bs r',l'∈T'
structure Gain (bs:Bs) (M:Mt) (T:List Int) (r:Int) (M':Mt):Prop where
 good:GoodM bs M'
 cn:∀ x,cnt M' x=cnt M x+ind x r
 old:∀ l∈T,look M' l=look M l
 has:∀ l,look M l≠none→look M' l≠none
 dead:∀ D,Closed bs M D→(∃ l∈adj bs r,¬ D l)∧∀ l,D l→look M' l=look M l
theorem Gain.free {bs:Bs}{M:Mt}{T:List Int}{r l:Int} (g:GoodM bs M) (hl:(r,l)∈bs) (h:look M l=none) (hT:l∉T):Gain bs M T r (putM M l r) where
 good:=g.put hl
 cn:=cnt_new h
 old:=fun l' h'=>by rw[qba,if_neg (show ¬ l'=l from fun z=>hT (z ▸ h'))]
 has:=fun l' h'=>by
  rw[qba]
  split
  ·simp
  ·exact h'
 dead:=fun D hD=>by
  have nl:¬ D l:=fun z=>by
   obtain ⟨r',e,_⟩:=hD l z
   rw[h] at e;cases e
  exact ⟨⟨l,ybu.mpr hl,nl⟩,fun l' h'=>by rw[qba,if_neg (show ¬ l'=l from fun z=>nl (z ▸ h'))]⟩
theorem Gain.next {bs:Bs}{M M1:Mt}{T U:List Int}{r r1 l:Int} (hl:(r,l)∈bs) (h:look M l=some r1) (hT:l∉T) (hU:∀ x∈T,x∈U) (hlU:l∈U) (g:Gain bs M U r1 M1):Gain bs M T r (putM M1 l r) where
 good:=g.good.put hl
 cn:=fun x=>by
  have h1:=g.cn x
  have h2:=cnt_old g.good.nd (l:=l) (r:=r) (r1:=r1) (by rw[g.old l hlU,h]) x
  omega
 old:=fun l' h'=>by rw[qba,if_neg (show ¬ l'=l from fun z=>hT (z ▸ h')),g.old l' (hU l' h')]
 has:=fun l' h'=>by
  rw[qba]
  split
  ·simp
  ·exact g.has l' h'
 dead:=fun D hD=>by
  obtain ⟨⟨y,hy,ny⟩,k⟩:=g.dead D hD
  have nl:¬ D l:=fun z=>by
   obtain ⟨r',e,q⟩:=hD l z
   rw[h] at e;cases e
   exact ny (q y hy)
  exact ⟨⟨l,ybu.mpr hl,nl⟩,fun l' h'=>by rw[qba,if_neg (show ¬ l'=l from fun z=>nl (z ▸ h')),k l' h']⟩
end Mc
namespace Mc
open PySem L2 PyProof.Rows Mx
theorem iteB {b:Bool}{A B:Prop} (hb:b=true) (h:A):if b=true then A else B:=by
 rw[if_pos hb];exact h
theorem iteN {b:Bool}{A B:Prop} (hb:b=false) (h:B):if b=true then A else B:=by
 rw[if_neg (by rw[hb];exact Bool.false_ne_true)];exact h
theorem iteD {c:Prop} [Decidable c] {A B:Prop} (hc:c) (h:A):if decide c=true then A else B:=iteB (decide_eq_true hc) h
theorem ydf {c:Prop} [Decidable c] {A B:Prop} (hc:¬ c) (h:B):if decide c=true then A else B:=iteN (decide_eq_false hc) h
def Kp2 (H H':Hp) (pa tr:Addr):Prop:=∀ x u,x≠pa→x≠tr→H x=some u→H' x=some u
theorem Kp2.refl {H:Hp}{pa tr:Addr}:Kp2 H H pa tr:=fun _ _ _ _ h=>h
theorem Kp2.trans {H H1 H2:Hp}{pa tr:Addr} (a:Kp2 H H1 pa tr) (b:Kp2 H1 H2 pa tr):Kp2 H H2 pa tr:=fun x u h1 h2 e=>b x u h1 h2 (a x u h1 h2 e)
theorem Kp2.pa {H H1:Hp}{pa tr:Addr}{o:HO} (a:Kp2 H H1 pa tr):Kp2 H (upd H1 pa o) pa tr:=fun x u h1 h2 e=>by rw[yab h1];exact a x u h1 h2 e
theorem Kp2.tr {H H1:Hp}{pa tr:Addr}{o:HO} (a:Kp2 H H1 pa tr):Kp2 H (upd H1 tr o) pa tr:=fun x u h1 h2 e=>by rw[yab h2];exact a x u h1 h2 e
structure ByR (H:Hp) (b:Addr) (bs:Bs) (kvs:List (Key×V)):Prop where
 at_:∃ o,H b=some (.frz o (.dK kvs))
 row:∀ r,r∈bs.map (·.1)→∃ a,valV kvs (Sum.inl r)=some (.ref a)∧H a=some (.lst ((adj bs r).map V.int))
theorem ByR.kp {H H':Hp}{b pa tr:Addr}{bs:Bs}{kvs k1 k2:List (Key×V)} (h:ByR H b bs kvs) (k:Kp2 H H' pa tr) (hp:H pa=some (.dK k1)) (ht:H tr=some (.dK k2)):ByR H' b bs kvs:=by
 obtain ⟨⟨o,e⟩,r⟩:=h
 refine ⟨⟨o,k _ _ (ya2 e hp (by intro z;cases z)) (ya2 e ht (by intro z;cases z)) e⟩,fun x hx=>?_⟩
 obtain ⟨a,e1,e2⟩:=r x hx
 exact ⟨a,e1,k _ _ (ya2 e2 hp (by intro z;cases z)) (ya2 e2 ht (by intro z;cases z)) e2⟩
section
variable {P:Program}{w:World}{K:PySem.W.Frag}{mg:Str→Option Value}{base:Heap}
def qcb (n:Nat):Sp:=fun vs H Q _=>∃ (b pa tr:Addr) (bs:Bs) (kvs:List (Key×V)) (M:Mt) (T:List Int) (r:Int),vs=[.ref b,.ref pa,.ref tr,.int r]∧ByR H b bs kvs∧H pa=some (.dK (kvM M))∧H tr=some (.dK (kvT T))∧pa≠tr∧
 r∈bs.map (·.1)∧B12 bs∧bs.length≤100∧GoodM bs M∧TOk T∧12<T.length+n∧
 (∀ H' T',Kp2 H H' pa tr→H' pa=some (.dK (kvM M))→H' tr=some (.dK (kvT T'))→Fail bs M T r T'→Q (.bl false) H')∧
 ∀ H' M' T',Kp2 H H' pa tr→H' pa=some (.dK (kvM M'))→H' tr=some (.dK (kvT T'))→TOk T'→(∀ l∈T,l∈T')→Gain bs M T r M'→Q (.bl true) H'
abbrev ya0:Stmt:=top 2
theorem qbk:FnScope ["by_row","partners","tried","row","line"] ["by_row","partners","tried","row"] (yad ya0):=⟨rfl,rfl,rfl,by decide +kernel,rfl,by decide +kernel,by decide +kernel⟩
theorem yc6 (F:FnAt K mg "finds_line" ya0 ["by_row","partners","tried","row"]):∀ n,Has P w K mg base n "finds_line" ["by_row","partners","tried","row"] (qcb n)
 | 0=>by
  obtain ⟨f,fd,e1,e2,e3⟩:=F
  have no:∀ vs H Q E,¬ qcb 0 vs H Q E:=fun vs H Q E h=>by
   obtain ⟨b,pa,tr,bs,kvs,M,T,r,_,_,_,_,_,_,_,_,_,t,l,_⟩:=h
   have:=t.len
   omega
  exact ⟨f,fd,e1,e2.kp,e3,⟨fun vs H Q E h=>(no vs H Q E h).elim,fun A outer s H args us vs Q E _ _ _ _ h=>(no vs H Q E h).elim⟩⟩
 | n+1=>by
  have qaz:=yc6 F n
  refine Has.ofQ F qbk (fun vs H Q E h=>?_) (fun f cdv A outer s H vs Q E hr h=>?_)
  ·obtain ⟨b,pa,tr,bs,kvs,M,T,r,rfl,_⟩:=h
   rfl
  ·obtain ⟨b,pa,tr,bs,kvs,M,T,r,rfl,hB,hp,ht,hne,hrow,h12,hbl,hM,hT,hn,k0,k1⟩:=h
   have sc:=qbk
   refine ⟨_,(yat rfl (qac (ybb PassesOwn.never rfl (yb9 (qdz (ycr hr) (qab (pv 0)) (qab (pv 3)) (fun _ _=>rfl))) (yaf (i:=4) sc.nd rfl (Or.inl rfl))
     (qae (qay (qt_of (qdm (qb0 (ycr hr) (QE.of (qab (pv 4))) (QE.of (qab (pv 2)))) (by with_unfolding_all rfl)))
      (qac (qd2 (qc0 (ycr hr) (QE.of (qab (pv 2))) (QE.of (qab (pv 4))) (QE.of (qab ya6)) rfl))
      (qae (qay (QW.pt (ybl (qt_of (qdm (qb0 (ycr hr) (QE.of (qab (pv 4))) (QE.of (qab (pv 1)))) (by with_unfolding_all rfl))) (qbd (qas (yaj (hk:=Nat.le_refl _) qaz hr (yag (qab (pv 0)) (yag (qab (pv 1)) (yag (qab (pv 2)) (qc3 (qdz (ycr hr) (qab (pv 1)) (qab (pv 4)) (fun _ _=>rfl)) qaf)))))))))
       (qac (qd2 (qc0 (ycr hr) (QE.of (qab (pv 1))) (QE.of (qab (pv 4))) (QE.of (qab (pv 3))) rfl))
       (qae (qai (qab ya6))))
       qap)))
      qap)))
    (qae (qai (qab ya6))))),?_⟩
   obtain ⟨⟨o,hb⟩,hrows⟩:=id hB
   obtain ⟨a,e1,ea⟩:=hrows r hrow
   have nap:a≠pa:=ya2 ea hp (by intro z;cases z)
   have nat:a≠tr:=ya2 ea ht (by intro z;cases z)
   refine ⟨_,rfl,_,rfl,b,.ref a,rfl,.inl ⟨kvs,.inl r,.inr ⟨o,hb⟩,rfl,e1.symm⟩,a,rfl,⟨_,SqL.of ea⟩,ybq (xs:=(adj bs r).map V.int) (fun i σ H2=>∃ (o4:Option V) (T2:List Int),σ=[some (.ref b),some (.ref pa),some (.ref tr),some (.int r),o4]∧
    Kp2 H H2 pa tr∧H2 pa=some (.dK (kvM M))∧H2 tr=some (.dK (kvT T2))∧TOk T2∧(∀ l∈T,l∈T2)∧(∀ l∈(adj bs r).take i,l∈T2)∧∀ l∈T2,l∈T∨∃ r',look M l=some r'∧∀ l'∈adj bs r',l'∈T2)
    ⟨none,T,rfl,Kp2.refl,hp,ht,hT,fun _ h=>h,fun l h=>by simp at h,fun l h=>.inl h⟩ (fun i σ H2 _ ⟨_,_,_,k2,_⟩=>SqL.of (k2 _ _ nap nat ea)) ?_ ?_⟩
   ·rintro i x σ H2 hx ⟨o4,T2,rfl,k2,hp2,ht2,hT2,s2,d2,c2⟩
    rw[List.getElem?_map] at hx
    cases hl:(adj bs r)[i]? with
    | none=>rw[hl] at hx;cases hx
    | some l=>
    rw[hl] at hx
    cases hx
    have hlm:l∈adj bs r:=List.mem_of_getElem? hl
    have hlb:=ybu.mp hlm
    have hl12:=(h12 _ hlb).2
    have tk:(adj bs r).take (i+1)=(adj bs r).take i++[l]:=by rw[List.take_add_one,hl];rfl
    have tl2:=hT2.len
    have ml:=hM.len h12
    refine ⟨_,rfl,_,rfl,tr,_,rfl,DGet.k (k:=.inl l) ht2,_,rfl,?_⟩
    by_cases hin:l∈T2
    ·refine iteN (by rw[valT,decide_eq_true hin];rfl) ?_
     refine ⟨_,T2,rfl,k2,hp2,ht2,hT2,s2,fun l' h=>?_,c2⟩
     rw[tk] at h
     rcases List.mem_append.mp h with h|h
     ·exact d2 l' h
     ·rw[List.mem_singleton.mp h];exact hin
    ·refine iteB (by rw[valT,decide_eq_false hin];rfl) ?_
     refine ⟨_,rfl,_,rfl,tr,_,rfl,DPut.k (k:=.inl l) ht2 (qa7 (by unfold kvT;rw[List.length_map];omega)),?_⟩
     rw[putKT hin]
     have hp3:upd H2 tr (.dK (kvT (T2++[l]))) pa=some (.dK (kvM M)):=by rw[yab hne];exact hp2
     have ht3:upd H2 tr (.dK (kvT (T2++[l]))) tr=some (.dK (kvT (T2++[l]))):=yaa
     have k3:Kp2 H (upd H2 tr (.dK (kvT (T2++[l])))) pa tr:=k2.tr
     revert hp3 ht3 k3
     generalize upd H2 tr (.dK (kvT (T2++[l])))=H3
     intro hp3 ht3 k3
     have hT3:TOk (T2++[l]):=hT2.snoc hin hl12
     have s3:∀ x∈T,x∈T2++[l]:=fun x h=>List.mem_append_left _ (s2 x h)
     have hlT:l∉T:=fun z=>hin (s2 l z)
     refine ⟨_,rfl,_,rfl,pa,_,rfl,DGet.k (k:=.inl l) hp3,_,rfl,?_⟩
     rw[valM]
     cases hlk:look M l with
     | none=>
      refine iteB rfl (iteT ?_)
      refine ⟨_,rfl,_,rfl,_,rfl,pa,_,rfl,DPut.k (k:=.inl l) hp3 (qa7 (by unfold kvM;rw[List.length_map];omega)),?_⟩
      rw[putKM]
      exact k1 _ (putM M l r) (T2++[l]) k3.pa yaa (by rw[yab hne.symm];exact ht3) hT3 s3 (Gain.free hM hlb hlk hlT)
     | some r1=>
      refine iteN rfl ?_
      have hr1:r1∈bs.map (·.1):=List.mem_map.mpr ⟨_,hM.ed _ (qcx hlk),rfl⟩
      refine ⟨_,rfl,_,rfl,_,rfl,_,rfl,_,rfl,pa,.int r1,rfl,.inl ⟨_,.inl l,.inl hp3,rfl,by rw[valM,hlk];rfl⟩,?_⟩
      refine ⟨b,pa,tr,bs,kvs,M,T2++[l],r1,rfl,hB.kp k3 hp ht,hp3,ht3,hne,hr1,h12,hbl,hM,hT3,by have z:T.length≤T2.length:=ya3 hT.nd s2;rw[List.length_append,List.length_singleton];omega,fun H4 T4 k4 hp4 ht4 fl=>⟨_,rfl,iteF ?_⟩,fun H4 M4 T4 k4 hp4 ht4 hT4 s4 gn=>⟨_,rfl,iteT ?_⟩⟩
      ·refine ⟨_,T4,rfl,k3.trans k4,hp4,ht4,fl.ok,fun x h=>fl.sub _ (s3 x h),fun l' h=>?_,fun l' h=>?_⟩
       ·rw[tk] at h
        rcases List.mem_append.mp h with h|h
        ·exact fl.sub _ (List.mem_append_left _ (d2 l' h))
        ·exact fl.sub _ (List.mem_append_right _ h)
       ·rcases fl.cl l' h with h|h
        ·rcases List.mem_append.mp h with h|h
         ·rcases c2 l' h with h|⟨r',h1,h2⟩
          ·exact .inl h
          ·exact .inr ⟨r',h1,fun y hy=>fl.sub _ (List.mem_append_left _ (h2 y hy))⟩
         ·rw[List.mem_singleton.mp h]
          exact .inr ⟨r1,hlk,fl.all⟩
        ·exact .inr h
      ·have ml4:=gn.good.len h12
       refine ⟨_,rfl,_,rfl,_,rfl,pa,_,rfl,DPut.k (k:=.inl l) hp4 (qa7 (by unfold kvM;rw[List.length_map];omega)),?_⟩
       rw[putKM]
       exact k1 _ (putM M4 l r) T4 (k3.trans k4).pa yaa (by rw[yab hne.symm];exact ht4) hT4 (fun x h=>s4 x (s3 x h)) (Gain.next hlb hlk hlT s3 (by simp) gn)
   ·rintro σ H2 ⟨o4,T2,rfl,k2,hp2,ht2,hT2,s2,d2,c2⟩
    rw[List.length_map,List.take_length] at d2
    exact k0 H2 T2 k2 hp2 ht2 ⟨hT2,s2,d2,c2⟩
end
end Mc
namespace Mc
open PySem L2 PyProof.Rows Mx
def pr2 (p:Int×Int):List Int:=[p.1,p.2]
structure PT (H:Hp) (ts:List TL) (bs:Bs):Prop where
 eq:ts.map (·.2)=bs.map pr2
 at_:∀ t∈ts,H t.1=some (.tup (t.2.map V.int))
theorem PT.len {H:Hp}{ts:List TL}{bs:Bs} (h:PT H ts bs):ts.length=bs.length:=by have:=congrArg List.length h.eq;simpa using this
theorem PT.same {H H':Hp}{ts:List TL}{bs:Bs} (h:PT H ts bs) (s:Same H H'):PT H' ts bs:=⟨h.eq,fun t ht=>s _ _ (h.at_ t ht)⟩
theorem PT.get {H:Hp}{ts:List TL}{bs:Bs} (h:PT H ts bs) {i:Nat}{v:V} (hv:(qad ts)[i]?=some v):∃ a r l,v=.ref a∧bs[i]?=some (r,l)∧H a=some (.tup [.int r,.int l]):=by
 unfold qad at hv
 rw[List.getElem?_map] at hv
 cases e:ts[i]? with
 | none=>rw[e] at hv;cases hv
 | some t=>
  rw[e] at hv
  cases hv
  have hm:=List.mem_of_getElem? e
  have h2:=congrArg (·[i]?) h.eq
  simp only[List.getElem?_map,e,Option.map_some] at h2
  cases eb:bs[i]? with
  | none=>rw[eb] at h2;cases h2
  | some p=>
   rw[eb] at h2
   have h3:t.2=pr2 p:=Option.some.inj h2
   refine ⟨t.1,p.1,p.2,rfl,rfl,?_⟩
   rw[h.at_ t hm,h3]
   rfl
theorem yc7 (bs:Bs) (r l x:Int):adj (bs++[(r,l)]) x=adj bs x++if r=x then [l] else []:=by
 unfold adj
 rw[List.filter_append,List.map_append]
 by_cases h:r=x
 ·simp[h]
 ·simp[h]
section
variable {P:Program}{w:World}{K:PySem.W.Frag}{mg:Str→Option Value}{base:Heap}
def sp_lbr:Sp:=fun vs H Q _=>∃ (l:Addr) (ts:List TL) (bs:Bs),vs=[.ref l]∧H l=some (.lst (qad ts))∧PT H ts bs∧bs.length≤100∧
 ∀ (p:Addr) (kvs:List (Key×V)) (rs:List Int) (H':Hp),Same H H'→H p=none→H' p=some (.dK kvs)→kvs.map (·.1)=rs.map Sum.inl→rs.Nodup→(∀ r,r∈rs↔r∈bs.map (·.1))→(∀ r,r∈bs.map (·.1)→∃ a,valV kvs (Sum.inl r)=some (.ref a)∧H' a=some (.lst ((adj bs r).map V.int)))→Q (.ref p) H'
abbrev qat:Stmt:=top 1
theorem qa8:FnScope ["broken","found","row","line"] ["broken"] (yad qat):=⟨rfl,rfl,rfl,by decide +kernel,rfl,by decide +kernel,by decide +kernel⟩
theorem ok_lbr (F:FnAt K mg "lines_by_row" qat ["broken"]):Has P w K mg base 1 "lines_by_row" ["broken"] sp_lbr:=by
 refine Has.ofQ F qa8 (fun vs H Q E h=>?_) (fun f cdv A outer s H vs Q E hr h=>?_)
 ·obtain ⟨l,ts,bs,rfl,_⟩:=h
  rfl
 ·obtain ⟨l,ts,bs,rfl,hl,hP,hbl,k⟩:=h
  have sc:=qa8
  refine ⟨_,(yat rfl (qac (yam (i:=1) sc.nd rfl (Or.inl rfl) (qab qbt))
   (qac (ybb PassesOwn.never rfl (yb9 (qab (pv 0))) (yco rfl (qao (yaf (i:=2) sc.nd rfl (Or.inl rfl)) (qao (yaf (i:=3) sc.nd rfl (Or.inl rfl)) qbn)))
    (qae (ybm (qab (ydg PySem.F.plainAttrs_list PySem.F.slot_list_append PySem.F.type_list_append yax (ydg PySem.F.plainAttrs_dict PySem.F.slot_dict_setdefault PySem.F.type_dict_setdefault ydi (pv 1) (yae (pv 2) (yae (qce qak) qak))) (yae (pv 3) qak))))))
   (qae (qai (qab (pv 1))))))),?_⟩
  have hlen:=hP.len
  refine fun p hp=>?_
  refine ⟨_,rfl,l,rfl,⟨_,SqL.of (by rw[yab (qaa hl hp)];exact hl)⟩,ybq (xs:=qad ts) (fun i σ H2=>∃ (o1 o2:Option V) (kvs:List (Key×V)) (rs:List Int),σ=[some (.ref l),some (.ref p),o1,o2]∧Same H H2∧H2 p=some (.dK kvs)∧
   kvs.map (·.1)=rs.map Sum.inl∧rs.Nodup∧rs.length≤i∧(∀ r,r∈rs↔r∈(bs.take i).map (·.1))∧(∀ r,r∈rs→∃ a,valV kvs (Sum.inl r)=some (.ref a)∧H2 a=some (.lst ((adj (bs.take i) r).map V.int))∧H a=none)∧
   ∀ r r' a,valV kvs (Sum.inl r)=some (.ref a)→valV kvs (Sum.inl r')=some (.ref a)→r=r')
   ⟨none,none,[],[],rfl,(Same.refl H).upd hp,yaa,rfl,List.nodup_nil,Nat.zero_le _,fun r=>by simp,fun r h=>by simp at h,fun r r' a h=>by cases h⟩ (fun i σ H2 _ ⟨_,_,_,_,_,s2,_⟩=>SqL.of (s2 _ _ hl)) ?_ ?_⟩
  ·rintro i x σ H2 hx ⟨o1,o2,kvs,rs,rfl,s2,hp2,hk,hnd,hrl,hmem,hrow,hinj⟩
   obtain ⟨a,r,ln,rfl,hb,ha⟩:=hP.get hx
   have hi:i<bs.length:=(List.getElem?_eq_some_iff.mp hb).1
   have tk:bs.take (i+1)=bs.take i++[(r,ln)]:=by rw[List.take_add_one,hb];rfl
   have kl:kvs.length≤i:=by have:=congrArg List.length hk;rw[List.length_map,List.length_map] at this;omega
   refine ⟨a,_,rfl,SqT.of (s2 _ _ ha),rfl,_,_,rfl,_,_,rfl,rfl,?_⟩
   refine ⟨_,rfl,.inr (.inr (.inl ⟨rfl,.inl ⟨_,hp2⟩⟩)),_,rfl,Nat.zero_le _,fun q hq=>?_⟩
   have hpq:p≠q:=qaa hp2 hq
   have hqH:H q=none:=s2.free hq
   refine ⟨p,kvs,.inl r,.ref q,rfl,rfl,by rw[yab hpq];exact hp2,qa7 (by omega),fun y hy=>?_,fun hn=>?_⟩
   ·have hrs:r∈rs:=by
     have:=ydq hy
     rw[hk] at this
     obtain ⟨z,hz,e⟩:=List.mem_map.mp this
     cases e;exact hz
    obtain ⟨c,e1,e2,e3⟩:=hrow r hrs
    rw[e1] at hy;cases hy
    have hcq:c≠q:=qaa e2 hq
    have hc':upd H2 q (.lst []) c=some (.lst ((adj (bs.take i) r).map V.int)):=by rw[yab hcq];exact e2
    have hll:(adj (bs.take i) r).length≤i:=by
     unfold adj
     rw[List.length_map]
     exact Nat.le_trans (List.length_filter_le _ _) (by rw[List.length_take];omega)
    refine ⟨.inl ⟨rfl,_,SqL.of hc'⟩,_,rfl,c,_,_,rfl,rfl,hc',qa7 (by rw[List.length_map];omega),?_⟩
    have hpc:p≠c:=fun z=>by rw[z,e2] at hp2;cases hp2
    refine ⟨_,_,kvs,rs,rfl,(s2.upd hq).at e3,by rw[yab hpc,yab hpq];exact hp2,hk,hnd,by omega,fun r'=>?_,fun r' hr'=>?_,hinj⟩
    ·rw[hmem,tk,List.map_append,List.mem_append]
     constructor
     ·exact .inl
     ·rintro (z|z)
      ·exact z
      ·have:r'=r:=by simpa using z
       rw[this];exact (hmem r).mp hrs
    ·obtain ⟨d,f1,f2,f3⟩:=hrow r' hr'
     rw[tk,yc7]
     by_cases hrr:r=r'
     ·subst hrr
      rw[e1] at f1;cases f1
      refine ⟨c,e1,?_,e3⟩
      rw[yaa,if_pos rfl,List.map_append]
      rfl
     ·have hdc:d≠c:=fun z=>hrr (hinj r r' c e1 (by rw[f1,z]))
      refine ⟨d,f1,?_,f3⟩
      rw[yab hdc,yab (qaa f2 hq),if_neg hrr,List.append_nil]
      exact f2
   ·have hrs:r∉rs:=fun z=>by
     obtain ⟨c,e1,_⟩:=hrow r z
     rw[e1] at hn;cases hn
    have hq':upd (upd H2 q (.lst [])) p (.dK (putK kvs (.inl r) (.ref q))) q=some (.lst []):=by rw[yab hpq.symm];exact yaa
    refine ⟨.inl ⟨rfl,_,SqL.of hq'⟩,_,rfl,q,_,_,rfl,rfl,hq',qa7 (by simp),?_⟩
    have em:adj (bs.take i) r=[]:=by
     cases ea:adj (bs.take i) r with
     | nil=>rfl
     | cons z zs=>
      have:z∈adj (bs.take i) r:=by rw[ea];exact List.mem_cons_self ..
      exact absurd ((hmem r).mpr (List.mem_map.mpr ⟨_,ybu.mp this,rfl⟩)) hrs
    refine ⟨_,_,putK kvs (.inl r) (.ref q),rs++[r],rfl,((s2.upd hq).at hp).at hqH,by rw[yab hpq];exact yaa,?_,qcd hnd hrs,by rw[List.length_append,List.length_singleton];omega,fun r'=>?_,fun r' hr'=>?_,fun r1 r2 c=>?_⟩
    ·rw[yda _ hn,List.map_append,hk,List.map_append]
     rfl
    ·rw[List.mem_append,hmem,tk,List.map_append,List.mem_append]
     rfl
    ·rw[ybs,tk,yc7]
     by_cases hrr:r=r'
     ·subst hrr
      refine ⟨q,by rw[if_pos rfl],?_,hqH⟩
      rw[yaa,if_pos rfl,em]
      rfl
     ·have hr2:r'∈rs:=(List.mem_append.mp hr').elim id fun z=>absurd (List.mem_singleton.mp z).symm hrr
      obtain ⟨d,f1,f2,f3⟩:=hrow r' hr2
      have hdq:d≠q:=qaa f2 hq
      have hdp:d≠p:=fun z=>by rw[z,hp2] at f2;cases f2
      refine ⟨d,by rw[if_neg fun z=>hrr (Sum.inl.inj z).symm];exact f1,?_,f3⟩
      rw[yab hdq,yab hdp,yab hdq,if_neg hrr,List.append_nil]
      exact f2
    ·rw[ybs,ybs]
     have old:∀ x,valV kvs (Sum.inl x)=some (.ref q)→False:=fun x hx=>by
      have:x∈rs:=by
       have:=ydq hx
       rw[hk] at this
       obtain ⟨z,hz,e⟩:=List.mem_map.mp this
       cases e;exact hz
      obtain ⟨d,f1,f2,f3⟩:=hrow x this
      rw[hx] at f1;cases f1
      rw[hq] at f2;cases f2
     by_cases z1:r1=r
     ·by_cases z2:r2=r
      ·intro _ _;rw[z1,z2]
      ·rw[if_pos (by rw[z1]),if_neg fun z=>z2 (Sum.inl.inj z)]
       intro e f
       cases e
       exact (old _ f).elim
     ·rw[if_neg fun z=>z1 (Sum.inl.inj z)]
      by_cases z2:r2=r
      ·rw[if_pos (by rw[z2])]
       intro e f
       cases f
       exact (old _ e).elim
      ·rw[if_neg fun z=>z2 (Sum.inl.inj z)]
       exact hinj r1 r2 c
  ·rintro σ H2 ⟨o1,o2,kvs,rs,rfl,s2,hp2,hk,hnd,hrl,hmem,hrow,hinj⟩
   have ez:bs.take (qad ts).length=bs:=List.take_of_length_le (by unfold qad;rw[List.length_map];omega)
   rw[ez] at hmem hrow
   refine ⟨_,rfl,k p kvs rs H2 s2 hp hp2 hk hnd hmem fun r h=>?_⟩
   obtain ⟨a,e1,e2,_⟩:=hrow r ((hmem r).mpr h)
   exact ⟨a,e1,e2⟩
end
end Mc
namespace Mc
open PySem L2 PyProof.Rows Mx
structure Ph1 (bs:Bs) (dn:List Int) (M:Mt) (al:List Int):Prop where
 good:GoodM bs M
 one:∀ x,cnt M x≤1
 only:∀ x,cnt M x≠0→x∈dn
 each:∀ x∈dn,cnt M x=1∨x∈al
 sub:∀ x∈al,x∈dn
 len:al.length≤dn.length
 dead:∃ D,Closed bs M D∧∀ x∈al,∀ l∈adj bs x,D l
theorem Ph1.start (bs:Bs):Ph1 bs [] [] []:=⟨⟨List.nodup_nil,fun e h=>by simp at h⟩,fun x=>Nat.zero_le _,fun x h=>(h rfl).elim,fun x h=>by simp at h,fun x h=>h,Nat.le_refl _,fun _=>False,fun l h=>h.elim,fun x h=>by simp at h⟩
theorem qb9 (x:Int):ind x x=1:=by unfold ind;rw[if_pos rfl]
theorem qd6 {x y:Int} (h:x≠y):ind x y=0:=by unfold ind;rw[if_neg h]
theorem Ph1.fail {bs:Bs}{dn al T':List Int}{M:Mt}{r:Int} (h:Ph1 bs dn M al) (f:Fail bs M [] r T'):Ph1 bs (dn++[r]) M (al++[r]):=by
 obtain ⟨D,d1,d2⟩:=h.dead
 have ct:∀ l∈T',∃ r',look M l=some r'∧∀ l'∈adj bs r',l'∈T':=fun l hl=>(f.cl l hl).elim (fun z=>by simp at z) id
 refine ⟨h.good,h.one,fun x hx=>List.mem_append_left _ (h.only x hx),fun x hx=>?_,fun x hx=>?_,by simp[h.len],fun l=>D l∨l∈T',fun l hl=>?_,fun x hx l hl=>?_⟩
 ·rcases List.mem_append.mp hx with z|z
  ·exact (h.each x z).imp id fun q=>List.mem_append_left _ q
  ·exact .inr (List.mem_append_right _ z)
 ·rcases List.mem_append.mp hx with z|z
  ·exact List.mem_append_left _ (h.sub x z)
  ·exact List.mem_append_right _ z
 ·rcases hl with z|z
  ·obtain ⟨r',e,q⟩:=d1 l z
   exact ⟨r',e,fun l' h'=>.inl (q l' h')⟩
  ·obtain ⟨r',e,q⟩:=ct l z
   exact ⟨r',e,fun l' h'=>.inr (q l' h')⟩
 ·rcases List.mem_append.mp hx with z|z
  ·exact .inl (d2 x z l hl)
  ·rw[List.mem_singleton.mp z] at hl
   exact .inr (f.all l hl)
theorem Ph1.gain {bs:Bs}{dn al:List Int}{M M':Mt}{r:Int} (h:Ph1 bs dn M al) (hr:r∉dn) (g:Gain bs M [] r M'):Ph1 bs (dn++[r]) M' al:=by
 obtain ⟨D,d1,d2⟩:=h.dead
 obtain ⟨_,gk⟩:=g.dead D d1
 have c0:cnt M r=0:=by
  by_cases z:cnt M r=0
  ·exact z
  ·exact absurd (h.only r z) hr
 refine ⟨g.good,fun x=>?_,fun x hx=>?_,fun x hx=>?_,fun x hx=>List.mem_append_left _ (h.sub x hx),by simp;have:=h.len;omega,D,fun l hl=>?_,d2⟩
 ·have e:=g.cn x
  have o:=h.one x
  by_cases z:x=r
  ·subst z;rw[qb9] at e;omega
  ·rw[qd6 z] at e;omega
 ·have e:=g.cn x
  by_cases z:x=r
  ·rw[z];exact List.mem_append_right _ (List.mem_singleton.mpr rfl)
  ·rw[qd6 z] at e
   exact List.mem_append_left _ (h.only x (by omega))
 ·have e:=g.cn x
  rcases List.mem_append.mp hx with z|z
  ·have zr:x≠r:=fun q=>hr (q ▸ z)
   rw[qd6 zr] at e
   exact (h.each x z).imp (fun q=>by omega) id
  ·have:=List.mem_singleton.mp z
   subst this
   rw[qb9] at e
   exact .inl (by omega)
 ·obtain ⟨r',e,q⟩:=d1 l hl
  exact ⟨r',by rw[gk l hl];exact e,q⟩
structure Ph2 (bs:Bs) (M:Mt) (dn T:List Int):Prop where
 ok:TOk T
 cl:∀ l∈T,∃ r',look M l=some r'∧∀ l'∈adj bs r',l'∈T
 all:∀ x∈dn,∀ l∈adj bs x,l∈T
theorem Ph2.start (bs:Bs) (M:Mt):Ph2 bs M [] []:=⟨⟨List.nodup_nil,fun l h=>by simp at h⟩,fun l h=>by simp at h,fun x h=>by simp at h⟩
theorem Ph2.fail {bs:Bs}{M:Mt}{dn T T':List Int}{r:Int} (h:Ph2 bs M dn T) (f:Fail bs M T r T'):Ph2 bs M (dn++[r]) T':=by
 refine ⟨f.ok,fun l hl=>?_,fun x hx l hl=>?_⟩
 ·rcases f.cl l hl with z|z
  ·obtain ⟨r',e,q⟩:=h.cl l z
   exact ⟨r',e,fun l' h'=>f.sub _ (q l' h')⟩
  ·exact z
 ·rcases List.mem_append.mp hx with z|z
  ·exact f.sub _ (h.all x z l hl)
  ·rw[List.mem_singleton.mp z] at hl
   exact f.all l hl
structure Cov (bs:Bs) (R L:List Int) (C:Bs):Prop where
 r:R.Pairwise (· < ·)
 l:L.Pairwise (· < ·)
 r12:∀ x∈R,0≤x∧x<12
 l12:∀ x∈L,0≤x∧x<12
 cov:∀ p∈bs,p.1∈R∨p.2∈L
 sub:∀ p∈C,p∈bs
 cr:C.Pairwise fun p q=>p.1<q.1
 cl:(C.map (·.2)).Nodup
 len:C.length=R.length+L.length
def ybe (M:Mt) (T:List Int):List Int:=(M.filter fun e=>!decide (e.1∈T)).map (·.2)
theorem strict {l:List Int} (h:l.Pairwise (·≤·)) (n:l.Nodup):l.Pairwise (· < ·):=(h.and n).imp fun ⟨a,b⟩=>by omega
theorem ycd:∀ {M:Mt},(∀ x,cnt M x≤1)→(M.map (·.2)).Nodup
 | [],_=>List.nodup_nil
 | e::M,h=>by
  have cc:∀ x,cnt (e::M) x=cnt M x+ind x e.2:=fun x=>by
   unfold cnt ind
   rw[List.countP_cons]
   by_cases z:x=e.2
   ·rw[if_pos z,if_pos (by simp[z])]
   ·rw[if_neg z,if_neg (by simp;exact fun q=>z q.symm)]
  rw[List.map_cons,List.nodup_cons]
  refine ⟨fun z=>?_,ycd fun x=>by have:=h x;rw[cc] at this;omega⟩
  obtain ⟨y,hy,e2⟩:=List.mem_map.mp z
  have h1:=h e.2
  rw[cc,qb9] at h1
  have:0<cnt M e.2:=List.countP_pos_iff.mpr ⟨y,hy,by simp[e2]⟩
  omega
theorem cnt_pos {M:Mt}{x:Int} (h:cnt M x≠0):∃ e∈M,e.2=x:=by
 obtain ⟨e,he,z⟩:=List.countP_pos_iff.mp (Nat.pos_of_ne_zero h)
 exact ⟨e,he,of_decide_eq_true z⟩
theorem qdi {α:Type} (p:α→Bool) (l:List α):(l.filter p).length+(l.filter fun x=>!p x).length=l.length:=by
 induction l with
 | nil=>rfl
 | cons x l ih=>
  cases h:p x
  ·rw[List.filter_cons_of_neg (by simp[h]),List.filter_cons_of_pos (by simp[h])];simp;omega
  ·rw[List.filter_cons_of_pos h,List.filter_cons_of_neg (by simp[h])];simp;omega
theorem len_M {bs:Bs}{M:Mt}{dn T:List Int} (g:GoodM bs M) (h:Ph2 bs M dn T):M.length=(ybe M T).length+T.length:=by
 have e:=qdi (fun e:Int×Int=>decide (e.1∈T)) M
 have e1:((M.filter fun e=>decide (e.1∈T)).map (·.1)).length=T.length:=by
  refine Nat.le_antisymm (ya3 ((List.filter_sublist.map _).nodup g.nd) fun x hx=>?_) (ya3 h.ok.nd fun x hx=>?_)
  ·obtain ⟨y,hy,rfl⟩:=List.mem_map.mp hx
   exact of_decide_eq_true (List.mem_filter.mp hy).2
  ·obtain ⟨r,q,_⟩:=h.cl x hx
   exact List.mem_map.mpr ⟨(x,r),List.mem_filter.mpr ⟨qcx q,decide_eq_true hx⟩,rfl⟩
 rw[List.length_map] at e1
 unfold ybe
 rw[List.length_map]
 omega
theorem cov_of {bs C:Bs}{M:Mt}{dn al T R L:List Int} (h12:B12 bs) (hd:∀ p∈bs,p.1∈dn) (h1:Ph1 bs dn M al) (h2:Ph2 bs M al T) (pR:R.Perm (ybe M T)) (sR:R.Pairwise (·≤·)) (pL:L.Perm T) (sL:L.Pairwise (·≤·))
  (pC:C.Perm (M.map fun e=>(e.2,e.1))) (sC:C.Pairwise fun p q=>numL (pr2 p)≤numL (pr2 q)):Cov bs R L C:=by
 have nM:=ycd h1.one
 have nR:(ybe M T).Nodup:=(List.filter_sublist.map _).nodup nM
 have mC:∀ p∈C,p∈bs:=fun p hp=>by
  obtain ⟨e,he,rfl⟩:=List.mem_map.mp (pC.mem_iff.mp hp)
  exact h1.good.ed e he
 refine ⟨strict sR (pR.nodup_iff.mpr nR),strict sL (pL.nodup_iff.mpr h2.ok.nd),fun x hx=>?_,fun x hx=>h2.ok.lt x (pL.mem_iff.mp hx),fun p hp=>?_,mC,?_,?_,?_⟩
 ·obtain ⟨e,he,rfl⟩:=List.mem_map.mp (pR.mem_iff.mp hx)
  exact (h12 _ (h1.good.ed e (List.mem_filter.mp he).1)).1
 ·rw[pR.mem_iff,pL.mem_iff]
  have hadj:p.2∈adj bs p.1:=ybu.mpr hp
  rcases h1.each p.1 (hd p hp) with z|z
  ·obtain ⟨e,he,ee⟩:=cnt_pos (show cnt M p.1≠0 by omega)
   by_cases q:e.1∈T
   ·obtain ⟨r',e1,e2⟩:=h2.cl e.1 q
    rw[look_of h1.good.nd he] at e1
    cases e1
    exact .inr (e2 _ (by rw[ee];exact hadj))
   ·exact .inl (List.mem_map.mpr ⟨e,List.mem_filter.mpr ⟨he,by simp[q]⟩,ee⟩)
  ·exact .inr (h2.all p.1 z p.2 hadj)
 ·have nC:(C.map (·.1)).Nodup:=by
   refine (pC.map _).nodup_iff.mpr ?_
   rw[List.map_map]
   exact nM
  have nd:C.Pairwise fun p q=>p.1≠q.1:=List.pairwise_map.mp nC
  refine ((List.Pairwise.and_mem.mp (sC.and nd)).imp ?_)
  rintro p q ⟨hp,hq,a,b⟩
  have p1:=(h12 p (mC p hp))
  have q1:=(h12 q (mC q hq))
  have e1:numL (pr2 p)=p.1*4096+p.2:=by unfold pr2 numL numL numL;simp
  have e2:numL (pr2 q)=q.1*4096+q.2:=by unfold pr2 numL numL numL;simp
  rw[e1,e2] at a
  omega
 ·refine (pC.map _).nodup_iff.mpr ?_
  rw[List.map_map]
  exact h1.good.nd
 ·rw[pC.length_eq,List.length_map,len_M h1.good h2,pR.length_eq,pL.length_eq]
end Mc
namespace Mc
open PySem L2 PyProof.Rows Mx
theorem Kp2.same {H H1 H2:Hp}{pa tr:Addr} (k:Kp2 H1 H2 pa tr) (s:Same H H1) (hp:H pa=none) (ht:H tr=none):Same H H2:=fun x u e=>k x u (qaa e hp) (qaa e ht) (s x u e)
structure Few (H:Hp) (p:Addr) (R L:List Int) (C:Bs) (cs:List TL) (pr pl pc:Addr):Prop where
 t:H p=some (.tup [.ref pr,.ref pl,.ref pc])
 r:H pr=some (.lst (R.map V.int))
 l:H pl=some (.lst (L.map V.int))
 c:H pc=some (.lst (qad cs))
 pt:PT H cs C
section
variable {P:Program}{w:World}{K:PySem.W.Frag}{mg:Str→Option Value}{base:Heap}
def ycj:Sp:=fun vs H Q _=>∃ (l:Addr) (ts:List TL) (bs:Bs),vs=[.ref l]∧H l=some (.lst (qad ts))∧PT H ts bs∧bs.length≤63∧B12 bs∧
 ∀ (p pr pl pc:Addr) (R L:List Int) (C:Bs) (cs:List TL) (H':Hp),Same H H'→H pr=none→H pl=none→H pc=none→pr≠pl→pr≠pc→pl≠pc→Few H' p R L C cs pr pl pc→Cov bs R L C→Q (.ref p) H'
abbrev qbs:Stmt:=top 3
theorem ych:FnScope ["broken","by_row","partners","alone","row","tried","rows","cells"] ["broken"] (yad qbs):=⟨rfl,rfl,rfl,by decide +kernel,rfl,by decide +kernel,by decide +kernel⟩
theorem qdn (B:Bl mg) (qb2:Has P w K mg base 1 "lines_by_row" ["broken"] sp_lbr) (qaz:Has P w K mg base 13 "finds_line" ["by_row","partners","tried","row"] (qcb 13)) (F:FnAt K mg "fewest" qbs ["broken"]):Has P w K mg base 14 "fewest" ["broken"] ycj:=by
 refine Has.ofQ F ych (fun vs H Q E h=>?_) (fun f cdv A outer s H vs Q E hr h=>?_)
 ·obtain ⟨l,ts,bs,rfl,_⟩:=h
  rfl
 ·obtain ⟨l,ts,bs,rfl,hl,hP,hbl,h12,k⟩:=h
  have sc:=ych
  refine ⟨_,(yat rfl (qac (yam (i:=1) sc.nd rfl (Or.inl rfl) (yaj qb2 hr (yag (qab (pv 0)) qaf)))
   (qac (yam (i:=2) sc.nd rfl (Or.inl rfl) (qab qbt))
   (qac (yam (i:=3) sc.nd rfl (Or.inl rfl) (qb6 qaf))
   (qac (ybb PassesOwn.never rfl (qdg (pi_dictR (pv 1))) (yaf (i:=4) sc.nd rfl (Or.inl rfl))
    (qae (qay (qa0 (qas (yaj qaz hr (yag (qab (pv 1)) (yag (qab (pv 2)) (qa_cons (qab qbt) (yag (qab (pv 4)) qaf)))))))
     (qae (ybm (qab (ydg PySem.F.plainAttrs_list PySem.F.slot_list_append PySem.F.type_list_append yax (pv 3) (yae (pv 4) qak)))))
     qap)))
   (qac (yam (i:=5) sc.nd rfl (Or.inr rfl) (qab qbt))
   (qac (ybb PassesOwn.never rfl (yb9 (qab (pv 3))) (yaf (i:=4) sc.nd rfl (Or.inl rfl))
    (qae (ybm (yaj qaz hr (yag (qab (pv 1)) (yag (qab (pv 2)) (yag (qab (pv 5)) (yag (qab (pv 4)) qaf))))))))
   (qac (qd2 (yd5 (i:=6) rfl sc.nd rfl (Or.inl rfl) rfl (ya8 rfl) (M:=["line","row","tried"]) (ix:=[none,none,some 5]) (qcf (qdd (pv 2))) (fun _ _ _ _=>(qec (K:=K) (n:=2) rfl rfl (qao (yaf (i:=0) (show List.Nodup (["line","row","tried"]:List Str) by decide +kernel) rfl (Or.inl rfl)) (qao (yaf (i:=1) (show List.Nodup (["line","row","tried"]:List Str) by decide +kernel) rfl (Or.inl rfl)) qbn)))) (fun _ _ _ _=>(yc2 (qdm (qb0 (ycr hr) (pv 0) (pv 2)) (by with_unfolding_all rfl)))) (fun _ _ _ _=>(pv 1))))
   (qac (qd2 (yd5 (i:=7) rfl sc.nd rfl (Or.inl rfl) rfl (ya8 rfl) (M:=["line","row"]) (ix:=[none,none]) (qcf (qdd (pv 2))) (fun _ _ _ _=>(qec (K:=K) (n:=2) rfl rfl (qao (yaf (i:=0) (show List.Nodup (["line","row"]:List Str) by decide +kernel) rfl (Or.inl rfl)) (qao (yaf (i:=1) (show List.Nodup (["line","row"]:List Str) by decide +kernel) rfl (Or.inl rfl)) qbn)))) (fun _ _ _ _=>yea) (fun _ _ _ _=>(ydx (yae (pv 1) (yae (pv 0) qak))))))
   (qae (qai (qe_tup (qa_cl (qam qcp rfl (B.of rfl) qau (yag (qab (pv 6)) qaf)) (qa_cl (qab (qa2 (qc5 rfl) rfl (B.of rfl) qau (yae (pv 5) qak))) (qa_cl (qab (qa2 yb3 rfl (B.of rfl) qau (yae (pv 7) qak))) qaf))))))))))))))),?_⟩
  refine ⟨_,rfl,l,ts,bs,rfl,hl,hP,by omega,fun b kvs rs H1 s1 nb hb hk hnd hmem hrow=>?_⟩
  refine fun pa npa=>⟨Nat.zero_le _,fun aa naa=>?_⟩
  have s2:Same H (upd (upd H1 pa (.dK [])) aa (.lst [])):=(s1.upd npa).upd naa
  have hpa2:upd (upd H1 pa (.dK [])) aa (.lst []) pa=some (.dK []):=by rw[yab (qaa yaa naa)];exact yaa
  have haa2:upd (upd H1 pa (.dK [])) aa (.lst []) aa=some (.lst []):=yaa
  have k2:Same H1 (upd (upd H1 pa (.dK [])) aa (.lst [])):=((Same.refl H1).upd npa).upd naa
  have hpaH:H pa=none:=s1.free npa
  have haaH:H aa=none:=s1.free ((Same.refl H1 |>.upd npa).free naa)
  have nra:∀ r a,r∈bs.map (·.1)→valV kvs (Sum.inl r)=some (.ref a)→a≠aa:=fun r a hr e=>by
   obtain ⟨a',e1,e2⟩:=hrow r hr
   rw[e1] at e;cases e
   exact qaa ((Same.refl H1).upd npa _ _ e2) naa
  revert s2 hpa2 haa2 k2
  generalize upd (upd H1 pa (.dK [])) aa (.lst [])=H2
  intro s2 hpa2 haa2 k2
  have hb2:=k2 _ _ hb
  have hnbp:pa≠b:=qaa hb npa |>.symm
  refine ⟨_,rfl,b,kvs,rfl,.inl hb2,fun o H3 fz=>?_⟩
  have s3:Same H H3:=fun x u e=>by rw[fz.st x (qaa e nb)];exact s2 x u e
  have hB3:ByR H3 b bs kvs:=⟨⟨o,fz.at_⟩,fun r hr=>by
   obtain ⟨a,e1,e2⟩:=hrow r hr
   have e3:=k2 _ _ e2
   exact ⟨a,e1,by rw[fz.st a (ya2 e3 hb2 (by intro z;cases z))];exact e3⟩⟩
  have hpa3:H3 pa=some (.dK []):=by rw[fz.st pa hnbp];exact hpa2
  have haa3:H3 aa=some (.lst []):=by rw[fz.st aa (ya2 haa2 hb2 (by intro z;cases z))];exact haa2
  have hkl:kvs.length=rs.length:=by have:=congrArg List.length hk;rw[List.length_map,List.length_map] at this;exact this
  have hrs:rs.length≤12:=len12 hnd fun x hx=>by
   obtain ⟨p,hp,rfl⟩:=List.mem_map.mp ((hmem x).mp hx)
   exact (h12 p hp).1
  refine for_by (n:=kvs.length) (fun i σ H4=>∃ (o4:Option V) (M:Mt) (al:List Int),σ=[some (.ref l),some (.ref b),some (.ref pa),some (.ref aa),o4,none,none,none]∧Same H H4∧ByR H4 b bs kvs∧H4 b=some (.frz o (.dK kvs))∧
   H4 pa=some (.dK (kvM M))∧H4 aa=some (.lst (al.map V.int))∧Ph1 bs (rs.take i) M al) ⟨none,[],[],rfl,s3,hB3,fz.at_,hpa3,haa3,by rw[List.take_zero];exact Ph1.start bs⟩ ?_ ?_
  rotate_left
  ·rintro i σ H4 hi ⟨o4,M,al,rfl,s4,hB4,hb4,hpa4,haa4,ph⟩
   refine ⟨⟨hb4,hi⟩,?_⟩
   rintro x H5 ⟨e5,kk,vv,hkv,rfl⟩
   have e5':=e5.symm
   subst e5'
   obtain ⟨r,hr,rfl⟩:∃ r,rs[i]?=some r∧kk=Sum.inl r:=by
    have:=congrArg (·[i]?) hk
    simp only[List.getElem?_map,hkv,Option.map_some] at this
    cases e:rs[i]? with
    | none=>rw[e] at this;cases this
    | some r=>rw[e] at this;exact ⟨r,rfl,Option.some.inj this⟩
   have hrb:r∈bs.map (·.1):=(hmem r).mp (List.mem_of_getElem? hr)
   have tk:rs.take (i+1)=rs.take i++[r]:=by rw[List.take_add_one,hr];rfl
   have hrn:r∉rs.take i:=fun z=>by
    obtain ⟨j,hj,e⟩:=List.getElem_of_mem z
    rw[List.length_take] at hj
    rw[List.getElem_take] at e
    have h1:rs[j]?=some r:=by rw[List.getElem?_eq_getElem (by omega),e]
    have:=(List.getElem?_inj (show j<rs.length by omega) hnd).mp (h1.trans hr.symm)
    omega
   have hall:al.length≤12:=by have:=ph.len;rw[List.length_take] at this;omega
   refine ⟨_,rfl,_,rfl,fun tr ntr=>⟨_,rfl,?_⟩⟩
   have htrH:H tr=none:=s4.free ntr
   have hpt:pa≠tr:=qaa hpa4 ntr
   have hat:aa≠tr:=qaa haa4 ntr
   have hap:aa≠pa:=ya2 haa4 hpa4 (by intro z;cases z)
   have hbp:b≠pa:=ya2 hb4 hpa4 (by intro z;cases z)
   have hbt:b≠tr:=qaa hb4 ntr
   have s5:Same H4 (upd H4 tr (.dK [])):=(Same.refl H4).upd ntr
   have hB5:ByR (upd H4 tr (.dK [])) b bs kvs:=⟨⟨o,s5 _ _ hb4⟩,fun r hr=>by obtain ⟨a,e1,e2⟩:=hB4.row r hr;exact ⟨a,e1,s5 _ _ e2⟩⟩
   refine ⟨b,pa,tr,bs,kvs,M,[],r,rfl,hB5,s5 _ _ hpa4,yaa,hpt,hrb,h12,by omega,ph.good,⟨List.nodup_nil,fun l h=>by simp at h⟩,by decide,fun H6 T6 k6 hp6 ht6 fl=>⟨_,rfl,iteB rfl ?_⟩,fun H6 M6 T6 k6 hp6 ht6 hT6 _ gn=>⟨_,rfl,iteN rfl ?_⟩⟩
   ·have ha6:=k6 _ _ hap hat (s5 _ _ haa4)
    refine ⟨_,rfl,.inl ⟨rfl,_,SqL.of ha6⟩,_,rfl,aa,_,_,rfl,rfl,ha6,qa7 (by rw[List.length_map];omega),?_⟩
    have hB6:=hB5.kp k6 (s5 _ _ hpa4) yaa
    refine ⟨_,M,al++[r],rfl,(k6.same (s4.trans s5) hpaH htrH).at haaH,⟨⟨o,by rw[yab (ya2 hb4 haa4 (by intro z;cases z))];exact k6 _ _ hbp hbt (s5 _ _ hb4)⟩,fun x hx=>?_⟩,by rw[yab (ya2 hb4 haa4 (by intro z;cases z))];exact k6 _ _ hbp hbt (s5 _ _ hb4),by rw[yab hap.symm];exact hp6,by rw[yaa,List.map_append];rfl,by rw[tk];exact ph.fail fl⟩
    obtain ⟨a,e1,e2⟩:=hB6.row x hx
    exact ⟨a,e1,by rw[yab (nra x a hx e1)];exact e2⟩
   ·refine ⟨_,M6,al,rfl,k6.same (s4.trans s5) hpaH htrH,hB5.kp k6 (s5 _ _ hpa4) yaa,k6 _ _ hbp hbt (s5 _ _ hb4),hp6,k6 _ _ hap hat (s5 _ _ haa4),by rw[tk];exact ph.gain hrn gn⟩
  rintro σ H4 ⟨o4,M,al,rfl,s4,hB4,hb4,hpa4,haa4,ph⟩
  refine ⟨⟨hb4,Nat.le_refl _⟩,?_⟩
  have hdone:∀ p∈bs,p.1∈rs.take kvs.length:=fun p hp=>by
   rw[hkl,List.take_length]
   exact (hmem p.1).mpr (List.mem_map_of_mem hp)
  have hall:al.length≤12:=by have:=ph.len;rw[List.length_take] at this;omega
  have hml:=ph.good.len h12
  obtain ⟨Dd,dc,dal⟩:=ph.dead
  refine fun tr ntr=>?_
  have htrH:H tr=none:=s4.free ntr
  have hpt:pa≠tr:=qaa hpa4 ntr
  have hat:aa≠tr:=qaa haa4 ntr
  have hap:aa≠pa:=ya2 haa4 hpa4 (by intro z;cases z)
  have s5:Same H4 (upd H4 tr (.dK [])):=(Same.refl H4).upd ntr
  have hB5:ByR (upd H4 tr (.dK [])) b bs kvs:=⟨⟨o,s5 _ _ hb4⟩,fun r hr=>by obtain ⟨a,e1,e2⟩:=hB4.row r hr;exact ⟨a,e1,s5 _ _ e2⟩⟩
  refine ⟨_,rfl,aa,rfl,⟨_,SqL.of (s5 _ _ haa4)⟩,ybq (xs:=al.map V.int) (fun i σ H6=>∃ (o4:Option V) (T:List Int),σ=[some (.ref l),some (.ref b),some (.ref pa),some (.ref aa),o4,some (.ref tr),none,none]∧Same H H6∧ByR H6 b bs kvs∧
   H6 pa=some (.dK (kvM M))∧H6 tr=some (.dK (kvT T))∧H6 aa=some (.lst (al.map V.int))∧Ph2 bs M (al.take i) T) ⟨_,[],rfl,s4.trans s5,hB5,s5 _ _ hpa4,yaa,s5 _ _ haa4,by rw[List.take_zero];exact Ph2.start bs M⟩ (fun i σ H6 _ ⟨_,_,_,_,_,_,_,h,_⟩=>SqL.of h) ?_ ?_⟩
  ·rintro i x σ H6 hx ⟨o4',T,rfl,s6,hB6,hpa6,htr6,haa6,p2⟩
   rw[List.getElem?_map] at hx
   cases hr:al[i]? with
   | none=>rw[hr] at hx;cases hx
   | some r=>
   rw[hr] at hx
   cases hx
   have hrm:=List.mem_of_getElem? hr
   have tk:al.take (i+1)=al.take i++[r]:=by rw[List.take_add_one,hr];rfl
   have hrb:r∈bs.map (·.1):=(hmem r).mp (List.mem_of_mem_take (ph.sub r hrm))
   refine ⟨_,rfl,_,rfl,_,rfl,_,rfl,?_⟩
   refine ⟨b,pa,tr,bs,kvs,M,T,r,rfl,hB6,hpa6,htr6,hpt,hrb,h12,by omega,ph.good,p2.ok,by omega,fun H7 T7 k7 hp7 ht7 fl=>?_,fun H7 M7 T7 k7 hp7 ht7 hT7 _ gn=>?_⟩
   ·exact ⟨_,T7,rfl,k7.same s6 hpaH htrH,hB6.kp k7 hpa6 htr6,hp7,ht7,k7 _ _ hap hat haa6,by rw[tk];exact p2.fail fl⟩
   ·obtain ⟨⟨y,hy,ny⟩,_⟩:=gn.dead Dd dc
    exact absurd (dal r hrm y hy) ny
  rintro σ H6 ⟨o4',T,rfl,s6,hB6,hpa6,htr6,haa6,p2⟩
  rw[List.length_map,List.take_length] at p2
  have hTl:=p2.ok.len
  -- the rows
  refine ⟨_,rfl,pa,kvM M,rfl,.inl hpa6,fun v nv=>⟨v,pa,kvM M,rfl,yaa,.inl (by rw[yab (qaa hpa6 nv)];exact hpa6),fun o2 H7 fz2=>?_⟩⟩
  have hvH:H v=none:=s6.free nv
  have s7:Same H H7:=fun x u e=>by
   rw[fz2.st x (qaa e hpaH),yab (qaa e hvH)]
   exact s6 x u e
  have htr7:H7 tr=some (.dK (kvT T)):=by rw[fz2.st tr hpt.symm,yab (qaa htr6 nv)];exact htr6
  have hpa7:=fz2.at_
  clear fz2 hB6 haa6 hpa6 htr6 s6 hvH nv
  refine fun D nD=>?_
  have hDH:H D=none:=s7.free nD
  have frame:∀ {H8:Hp}{D':Addr}{z:List V},H8 D'=some (.lst z)→∀ {y:HO},H8 pa=some (.frz o2 (.dK (kvM M)))→H8 tr=some (.dK (kvT T))→upd H8 D' y pa=some (.frz o2 (.dK (kvM M)))∧upd H8 D' y tr=some (.dK (kvT T)):=fun h y h1 h2=>
   ⟨by rw[yab (ya2 h1 h (by intro z;cases z))];exact h1,by rw[yab (ya2 h2 h (by intro z;cases z))];exact h2⟩
  have item:∀ {i:Nat}{kk:Key}{vv:V},i<M.length→(kvM M)[i]?=some (kk,vv)→∃ e,M[i]?=some e∧kk=Sum.inl e.1∧vv=.int e.2:=fun {i kk vv} hi hkv=>by
   have hM:M[i]?=some M[i]:=List.getElem?_eq_getElem hi
   have hkv':(kvM M)[i]?=some (Sum.inl M[i].1,V.int M[i].2):=by unfold kvM;rw[List.getElem?_map,hM];rfl
   rw[hkv'] at hkv
   cases hkv
   exact ⟨_,hM,rfl,rfl⟩
  refine qbv (n:=M.length) (fun i H8=>Same H H8∧H8 pa=some (.frz o2 (.dK (kvM M)))∧H8 tr=some (.dK (kvT T))∧H8 D=some (.lst ((ybe (M.take i) T).map V.int))) ?_ ?_ ?_
  ·exact ⟨s7.upd nD,by rw[yab (qaa hpa7 nD)];exact hpa7,by rw[yab (qaa htr7 nD)];exact htr7,yaa⟩
  rotate_left
  ·rintro i H8 hi ⟨s8,hpa8,htr8,hD8⟩
   refine ⟨⟨hpa8,by unfold kvM;rw[List.length_map];exact hi⟩,?_⟩
   rintro x _ ⟨q,kk,vv,nq,rfl,rfl,hkv⟩
   obtain ⟨e,hM,rfl,rfl⟩:=item hi hkv
   have tk:M.take (i+1)=M.take i++[e]:=by rw[List.take_add_one,hM];rfl
   have s9:Same H8 (upd H8 q (.tup [kV (Sum.inl e.1),.int e.2])):=(Same.refl H8).upd nq
   refine ⟨q,_,rfl,SqT.of yaa,rfl,_,_,rfl,_,_,rfl,rfl,yay.set (yay.set (yay.refl _) rfl) rfl,?_⟩
   refine ⟨_,rfl,_,rfl,tr,_,rfl,DGet.k (k:=.inl e.1) (s9 _ _ htr8),_,rfl,?_⟩
   have rl:(ybe (M.take i) T).length≤12:=by
    unfold ybe
    rw[List.length_map]
    exact Nat.le_trans (List.length_filter_le _ _) (by rw[List.length_take];omega)
   by_cases hin:e.1∈T
   ·refine iteN (by rw[valT,decide_eq_true hin];rfl) ⟨s8.trans s9,s9 _ _ hpa8,s9 _ _ htr8,?_⟩
    rw[s9 _ _ hD8]
    unfold ybe
    rw[tk,List.filter_append,List.filter_cons_of_neg (by simp[hin])]
    simp
   ·refine iteB (by rw[valT,decide_eq_false hin];rfl) ⟨_,rfl,_,s9 _ _ hD8,qa7 (by rw[List.length_map];omega),?_⟩
    obtain ⟨f1,f2⟩:=frame (s9 _ _ hD8) (y:=.lst ((ybe (M.take i) T).map V.int++[.int e.2])) (s9 _ _ hpa8) (s9 _ _ htr8)
    refine ⟨(s8.trans s9).at hDH,f1,f2,?_⟩
    rw[yaa]
    unfold ybe
    rw[tk,List.filter_append,List.filter_cons_of_pos (by simp[hin])]
    simp
  rintro H8 ⟨s8,hpa8,htr8,hD8⟩
  rw[List.take_length] at hD8
  refine ⟨⟨hpa8,by unfold kvM;rw[List.length_map];exact Nat.le_refl _⟩,?_⟩
  -- the cells
  refine ⟨_,rfl,pa,kvM M,rfl,.inr ⟨_,hpa8⟩,fun v nv=>⟨v,pa,kvM M,rfl,yaa,.inr ⟨o2,by rw[yab (qaa hpa8 nv)];exact hpa8⟩,fun o3 H9 fz3=>?_⟩⟩
  have hvH:H v=none:=s8.free nv
  have eo:o3=o2∨True:=.inr trivial
  have s9:Same H H9:=fun x u e=>by
   rw[fz3.st x (qaa e hpaH),yab (qaa e hvH)]
   exact s8 x u e
  have htr9:H9 tr=some (.dK (kvT T)):=by rw[fz3.st tr hpt.symm,yab (qaa htr8 nv)];exact htr8
  have hD9:H9 D=some (.lst ((ybe M T).map V.int)):=by rw[fz3.st D (ya2 hD8 hpa8 (by intro z;cases z)),yab (qaa hD8 nv)];exact hD8
  have hpa9:=fz3.at_
  clear fz3 hpa8 htr8 hD8 s8 hvH nv hpa7 htr7 s7 nD
  refine fun D2 nD2=>?_
  have hD2H:H D2=none:=s9.free nD2
  have hDD:D≠D2:=qaa hD9 nD2
  refine qbv (n:=M.length) (fun i Hx=>∃ cs:List TL,Same H Hx∧Hx pa=some (.frz o3 (.dK (kvM M)))∧Hx tr=some (.dK (kvT T))∧Hx D=some (.lst ((ybe M T).map V.int))∧Hx D2=some (.lst (qad cs))∧
   cs.map (·.2)=(M.take i).map (fun e=>[e.2,e.1])∧∀ t∈cs,Hx t.1=some (.tup (t.2.map V.int))) ?_ ?_ ?_
  ·exact ⟨[],s9.upd nD2,by rw[yab (qaa hpa9 nD2)];exact hpa9,by rw[yab (qaa htr9 nD2)];exact htr9,by rw[yab hDD];exact hD9,yaa,rfl,fun t h=>by simp at h⟩
  rotate_left
  ·rintro i Hx hi ⟨cs,sx,hpx,htx,hDx,hD2x,hcs,hct⟩
   refine ⟨⟨hpx,by unfold kvM;rw[List.length_map];exact hi⟩,?_⟩
   rintro x _ ⟨q,kk,vv,nq,rfl,rfl,hkv⟩
   obtain ⟨e,hM,rfl,rfl⟩:=item hi hkv
   have tk:M.take (i+1)=M.take i++[e]:=by rw[List.take_add_one,hM];rfl
   have sy:Same Hx (upd Hx q (.tup [kV (Sum.inl e.1),.int e.2])):=(Same.refl Hx).upd nq
   have cl:cs.length≤12:=by have:=congrArg List.length hcs;rw[List.length_map,List.length_map,List.length_take] at this;omega
   refine ⟨q,_,rfl,SqT.of yaa,rfl,_,_,rfl,_,_,rfl,rfl,yay.set (yay.set (yay.refl _) rfl) rfl,yes ?_⟩
   refine ⟨_,rfl,_,rfl,(by show 2≤sizeLine;decide),fun q2 nq2=>?_⟩
   have sz:=sy.upd (o:=.tup [V.int e.2,kV (Sum.inl e.1)]) nq2
   have hz:=sz _ _ hD2x
   refine ⟨_,hz,qa7 (by unfold qad;rw[List.length_map];omega),cs++[(q2,[e.2,e.1])],(sx.trans sz).at hD2H,?_,?_,?_,?_,?_,fun t ht=>?_⟩
   ·rw[yab (ya2 (sz _ _ hpx) hz (by intro z;cases z))];exact sz _ _ hpx
   ·rw[yab (ya2 (sz _ _ htx) hz (by intro z;cases z))];exact sz _ _ htx
   ·rw[yab hDD];exact sz _ _ hDx
   ·rw[yaa];unfold qad;rw[List.map_append];rfl
   ·rw[List.map_append,hcs,tk,List.map_append];rfl
   ·have hq:upd (upd Hx q (.tup [kV (Sum.inl e.1),.int e.2])) q2 (.tup [V.int e.2,kV (Sum.inl e.1)]) t.1=some (.tup (t.2.map V.int)):=by
     rcases List.mem_append.mp ht with z|z
     ·exact sz _ _ (hct t z)
     ·rw[List.mem_singleton.mp z];exact yaa
    rw[yab (ya2 hq hz (by intro z;cases z))]
    exact hq
  rintro Hx ⟨cs,sx,hpx,htx,hDx,hD2x,hcs,hct⟩
  rw[List.take_length] at hcs
  have cl:cs.length=M.length:=by have:=congrArg List.length hcs;rw[List.length_map,List.length_map] at this;exact this
  refine ⟨⟨hpx,by unfold kvM;rw[List.length_map];exact Nat.le_refl _⟩,?_⟩
  have rl:(ybe M T).length≤12:=by
   unfold ybe
   rw[List.length_map]
   exact Nat.le_trans (List.length_filter_le _ _) hml
  have okc:∀ t∈cs,∃ e∈M,t.2=[e.2,e.1]:=fun t ht=>by
   have:t.2∈M.map (fun e=>[e.2,e.1]):=by rw[← hcs];exact List.mem_map_of_mem ht
   obtain ⟨e,he,z⟩:=List.mem_map.mp this
   exact ⟨e,he,z.symm⟩
  refine ⟨_,rfl,D,ybe M T,rfl,hDx,by omega,fun pr R npr pR sR=>?_⟩
  have sa:Same Hx (upd Hx pr (.lst (R.map V.int))):=(Same.refl Hx).upd npr
  have ea:upd Hx pr (.lst (R.map V.int)) pr=some (.lst (R.map V.int)):=yaa
  revert sa ea
  generalize upd Hx pr (.lst (R.map V.int))=Ha
  intro sa ea
  refine ⟨_,rfl,tr,kvT T,T,rfl,.inl (sa _ _ htx),by unfold kvT;rw[List.map_map];rfl,by omega,fun pl L npl pL sL=>?_⟩
  have sb:Same Ha (upd Ha pl (.lst (L.map V.int))):=(Same.refl Ha).upd npl
  have eb:upd Ha pl (.lst (L.map V.int)) pl=some (.lst (L.map V.int)):=yaa
  have nlr:pr≠pl:=qaa ea npl
  revert sb eb
  generalize upd Ha pl (.lst (L.map V.int))=Hb
  intro sb eb
  have sxb:=sa.trans sb
  refine ⟨_,rfl,D2,cs,1,rfl,sxb _ _ hD2x,fun t ht=>sxb _ _ (hct t ht),fun t ht=>?_,by omega,fun pc cs' npc pC rC=>?_⟩
  ·obtain ⟨e,he,z⟩:=okc t ht
   have h:=h12 _ (ph.good.ed e he)
   rw[z]
   refine ⟨rfl,fun x hx=>?_⟩
   rcases List.mem_cons.mp hx with rfl|hx
   ·have:=h.1;omega
   ·rw[List.mem_singleton.mp hx];have:=h.2;omega
  have sc:Same Hb (upd Hb pc (.lst (qad cs'))):=(Same.refl Hb).upd npc
  have ec:upd Hb pc (.lst (qad cs')) pc=some (.lst (qad cs')):=yaa
  have nrc:pr≠pc:=qaa (sb _ _ ea) npc
  have nlc:pl≠pc:=qaa eb npc
  revert sc ec
  generalize upd Hb pc (.lst (qad cs'))=Hc
  intro sc ec
  refine ⟨(by show 3≤sizeLine;decide),fun p np=>?_⟩
  have sd:Same Hc (upd Hc p (.tup [.ref pr,.ref pl,.ref pc])):=(Same.refl Hc).upd np
  have sxd:=(sxb.trans sc).trans sd
  have okc':∀ t∈cs',∃ e∈M,t.2=[e.2,e.1]:=fun t ht=>okc t (pC.mem_iff.mp ht)
  have hpc:(cs'.map fun t:TL=>(t.2.getD 0 0,t.2.getD 1 0)).map pr2=cs'.map (·.2):=by
   rw[List.map_map]
   refine List.map_congr_left fun t ht=>?_
   obtain ⟨e,_,z⟩:=okc' t ht
   show pr2 (t.2.getD 0 0,t.2.getD 1 0)=t.2
   rw[z]
   rfl
  have ppC:(cs'.map fun t:TL=>(t.2.getD 0 0,t.2.getD 1 0)).Perm (M.map fun e=>(e.2,e.1)):=by
   have h1:=(pC.map (·.2)).map (fun z:List Int=>(z.getD 0 0,z.getD 1 0))
   rw[hcs,List.map_map,List.map_map] at h1
   exact h1
  refine k p pr pl pc R L (cs'.map fun t:TL=>(t.2.getD 0 0,t.2.getD 1 0)) cs' _ (sx.trans sxd) (sx.free npr) ((sx.trans sa).free npl) ((sx.trans sxb).free npc) nlr nrc nlc
   ⟨yaa,sd _ _ (sc _ _ (sb _ _ ea)),sd _ _ (sc _ _ eb),sd _ _ ec,hpc.symm,fun t ht=>sxd _ _ (hct t (pC.mem_iff.mp ht))⟩
   (cov_of h12 hdone ph p2 pR sR pL sL ppC ?_)
  rw[List.pairwise_map]
  refine (List.Pairwise.and_mem.mp rC).imp ?_
  rintro t u ⟨ht,hu,z⟩
  obtain ⟨e,_,z1⟩:=okc' t ht
  obtain ⟨e',_,z2⟩:=okc' u hu
  rw[z1,z2] at z ⊢
  exact z
end
end Mc
namespace Mc
open PySem L2 PyProof.Rows Mx
theorem map_get {α β:Type}{f:α→β}{xs:List α}{i:Nat}{y:β} (h:(xs.map f)[i]?=some y):∃ x,xs[i]?=some x∧y=f x:=by
 rw[List.getElem?_map] at h
 cases e:xs[i]? with
 | none=>rw[e] at h;cases h
 | some x=>rw[e] at h;cases h;exact ⟨x,rfl,rfl⟩
def Dig (ds zs:List Int):Prop:=ds.length=zs.length∧∀ (i:Nat) d z,ds[i]?=some d→zs[i]?=some z→0≤d∧d<z
theorem Dig.get {ds zs:List Int} (h:Dig ds zs) {i:Nat}{z:Int} (hz:zs[i]?=some z):∃ d,ds[i]?=some d∧0≤d∧d<z:=by
 have hi:i<ds.length:=by rw[h.1];exact (List.getElem?_eq_some_iff.mp hz).1
 exact ⟨ds[i],by simp[hi],h.2 i _ z (by simp[hi]) hz⟩
theorem yds {ds:List Int}{i:Nat}{v:V} (h:(ds.map V.int)[i]?=some v):∃ d,ds[i]?=some d∧v=.int d:=map_get h
theorem qa5 {ds:List Int}{i:Nat}{d:Int} (h:ds[i]?=some d):(ds.map V.int)[i]?=some (.int d):=by rw[List.getElem?_map,h];rfl
section
variable {P:Program}{w:World}{K:PySem.W.Frag}{mg:Str→Option Value}{base:Heap}
def qcg:Sp:=fun vs H Q _=>∃ c t a zs,vs=[.int c,.int t,.ref a]∧H a=some (.lst (zs.map V.int))∧zs.length≤200∧(∀ z∈zs,0<z∧z≤1000)∧0≤t∧t≤1000000∧
 ∀ p ds H',Same H H'→H p=none→H' p=some (.lst (ds.map V.int))→Dig ds zs→Q (.ref p) H'
abbrev yav:Stmt:=top 5
theorem qbb:FnScope ["_law_cell","_law_turn","_law_sizes","_law_number","_law_wide","_law_seed","_law_found","_law_k","_law_size"] ["_law_cell","_law_turn","_law_sizes"] (yad yav):=⟨rfl,rfl,rfl,by decide +kernel,rfl,by decide +kernel,by decide +kernel⟩
theorem qd9 (B:Bl mg) (F:FnAt K mg "_law_digits" yav ["_law_cell","_law_turn","_law_sizes"]):Has P w K mg base 1 "_law_digits" ["_law_cell","_law_turn","_law_sizes"] qcg:=by
 refine Has.of F qbb (fun vs H Q E h=>?_) (fun f cdv A outer s H vs Q E hr h=>?_)
 ·obtain ⟨c,t,a,zs,rfl,_⟩:=h
  rfl
 ·obtain ⟨c,t,a,zs,rfl,ha,hl,hz,ht0,ht1,k⟩:=h
  have sc:=qbb
  refine ⟨_,(ya1 (ybz (i:=3) sc.nd rfl (Or.inl rfl) (qa2 call_abs rfl (B.of rfl) boot_abs (yae (pv 0) qak)))
   (ya1 (ybz (i:=4) sc.nd rfl (Or.inl rfl) (qd3 op_ge (pv 3) (ybd op_pow yac yac) (yaw _)))
   (ya1 (ybz (i:=5) sc.nd rfl (Or.inl rfl) (ybd ybi (ybd ybo (pv 3) yac) (ybd qck yac (pv 1))))
   (ya1 (ybz (i:=6) sc.nd rfl (Or.inl rfl) (qce qak))
   (ya1 (ps_for PassesOwn.never rfl (yee rfl (B.of rfl) (yae (pv 2) qak)) (yco rfl (qao (yaf (i:=7) sc.nd rfl (Or.inl rfl)) (qao (yaf (i:=8) sc.nd rfl (Or.inl rfl)) qbn)))
    (ybt (ps_if (PW.pt (qdk (pt_val (pv 4)) (qc1 (qbw qdj (pv 3) yac (yaw _)))))
     (ya1 (yc4 (ydg PySem.F.plainAttrs_list PySem.F.slot_list_append PySem.F.type_list_append yax (pv 6) (yae (ybd ybo (pv 3) (pv 8)) qak)))
     (ybt (ybz (i:=3) sc.nd rfl (Or.inl rfl) (ybd qea (pv 3) (pv 8)))))
     (ya1 (ybz (i:=5) sc.nd rfl (Or.inl rfl) (ybd ybo (ybd op_pow (ybd ybi (pv 5) (ybd qck yac (ybd ybi (pv 7) yac))) yac) yac))
     (ybt (yc4 (ydg PySem.F.plainAttrs_list PySem.F.slot_list_append PySem.F.type_list_append yax (pv 6) (yae (ybd ybo (ybd qea (pv 5) yac) (pv 8)) qak))))))))
   (ybt (ps_ret (pv 6)))))))),?_⟩
  refine ⟨_,rfl,c,rfl,?_⟩
  refine ⟨_,rfl,10,18,rfl,rfl,⟨by decide,by decide,by decide⟩,_,_,rfl,rfl,?_⟩
  refine ⟨_,rfl,_,_,rfl,rfl,(by show (0:Int)<2147483647;decide),_,rfl,_,_,rfl,rfl,.inl ⟨by decide,by decide⟩,_,_,rfl,rfl,?_⟩
  refine ⟨Nat.zero_le _,fun p hp=>?_⟩
  generalize hnum:(if c<0 then -c else c)=num
  generalize hwd:decide ((10:Int) ^ (18:Int).toNat≤num)=wd
  have hs0:0≤num % 2147483647+7919*t:=by have:=Int.emod_nonneg num (show (2147483647:Int)≠0 by decide);omega
  have hs1:num % 2147483647+7919*t<2 ^ 40:=by have:=Int.emod_lt_of_pos num (show (0:Int)<2147483647 by decide);omega
  refine ⟨_,rfl,a,_,rfl,SqL.of (by rw[yab (qaa ha hp)];exact ha),qc9 (xs:=zs.map V.int) (fun i σ H2=>∃ (nu seed:Int) (ds:List Int) (q1 q2:Option V),σ=[some (.int c),some (.int t),some (.ref a),some (.int nu),some (.bl wd),some (.int seed),some (.ref p),q1,q2]∧
   Same H H2∧H2 p=some (.lst (ds.map V.int))∧ds.length=i∧(∀ (j:Nat) d z,ds[j]?=some d→zs[j]?=some z→0≤d∧d<z)∧0≤seed∧seed<2 ^ 40) ?_ (fun i σ H2 _ ⟨_,_,_,_,_,_,s2,_⟩=>SqL.of (s2 _ _ ha)) ?_ ?_⟩
  ·exact ⟨num,_,[],none,none,by rw[← hwd];rfl,(Same.refl H).upd hp,yaa,rfl,fun j d z h=>by simp at h,hs0,hs1⟩
  ·rintro i x pp σ H2 hx ⟨nu,seed,ds,q1,q2,rfl,s2,hp2,hln,hds,hse0,hse1⟩ hpp
   obtain ⟨z,hzi,rfl⟩:=yds hx
   obtain ⟨hz0,hz1⟩:=hz z (List.mem_of_getElem? hzi)
   have hil:i<zs.length:=(List.getElem?_eq_some_iff.mp hzi).1
   have s3:Same H (upd H2 pp (.tup [.int i,.int z])):=s2.upd hpp
   have hp3:upd H2 pp (.tup [.int i,.int z]) p=some (.lst (ds.map V.int)):=by rw[yab (qaa hp2 hpp)];exact hp2
   have fin:∀ (d:Int),0≤d→d<z→∀ (j:Nat) d' z',(ds++[d])[j]?=some d'→zs[j]?=some z'→0≤d'∧d' < z':=fun d h0 h1 j d' z' hj hj2=>by
    by_cases hlt:j<ds.length
    ·rw[List.getElem?_append_left hlt] at hj
     exact hds j d' z' hj hj2
    ·rw[List.getElem?_append_right (by omega)] at hj
     have hj0:j-ds.length=0:=by
      cases q:j-ds.length with
      | zero=>rfl
      | succ n=>rw[q] at hj;simp at hj
     rw[hj0] at hj
     have e1:d=d':=by simpa using hj
     have e2:j=i:=by omega
     subst e1 e2
     rw[hzi] at hj2;cases hj2
     exact ⟨h0,h1⟩
   refine ⟨pp,_,rfl,SqT.of yaa,rfl,_,_,rfl,_,_,rfl,rfl,?_⟩
   refine ⟨_,rfl,wd,rfl,?_⟩
   cases wd with
   | true=>
    refine iteT ⟨_,rfl,_,_,rfl,rfl,_,rfl,?_⟩
    by_cases hn:0<nu
    ·refine iteD hn ?_
     refine ⟨_,rfl,.inl ⟨rfl,_,SqL.of hp3⟩,_,rfl,_,rfl,_,_,rfl,rfl,hz0,p,_,_,rfl,rfl,hp3,qa7 (by rw[List.length_map];omega),?_⟩
     refine ⟨_,rfl,_,rfl,_,_,rfl,rfl,⟨hz0,by omega⟩,?_⟩
     exact ⟨_,seed,ds++[nu % z],_,_,rfl,s3.at hp,by rw[List.map_append];exact yaa,by simp[hln],fin _ (Int.emod_nonneg _ (by omega)) (Int.emod_lt_of_pos _ hz0),hse0,hse1⟩
    ·refine iteN (decide_eq_false hn) ?_
     refine ⟨_,rfl,_,rfl,_,_,rfl,rfl,_,_,rfl,rfl,.inl ⟨by decide,by decide⟩,_,_,rfl,rfl,_,_,rfl,rfl,⟨by decide,by decide,by omega⟩,_,_,rfl,rfl,(by show (0:Int)<2147483587;decide),?_⟩
     have g0:=Int.emod_nonneg ((seed+104729*((i:Int)+1)) ^ (2:Int).toNat) (show (2147483587:Int)≠0 by decide)
     have g1:=Int.emod_lt_of_pos ((seed+104729*((i:Int)+1)) ^ (2:Int).toNat) (show (0:Int)<2147483587 by decide)
     generalize hse':(seed+104729*((i:Int)+1)) ^ (2:Int).toNat % 2147483587=seed' at g0 g1
     refine ⟨_,rfl,.inl ⟨rfl,_,SqL.of hp3⟩,_,rfl,_,_,rfl,rfl,⟨by decide,by decide⟩,_,rfl,_,_,rfl,rfl,hz0,p,_,_,rfl,rfl,hp3,qa7 (by rw[List.length_map];omega),?_⟩
     exact ⟨nu,seed',ds++[seed' / 16 % z],_,_,by rw[← hse'];rfl,s3.at hp,by rw[List.map_append,← hse'];exact yaa,by simp[hln],fin _ (Int.emod_nonneg _ (by omega)) (Int.emod_lt_of_pos _ hz0),g0,by omega⟩
   | false=>
    refine iteF (iteF ?_)
    refine ⟨_,rfl,_,rfl,_,_,rfl,rfl,_,_,rfl,rfl,.inl ⟨by decide,by decide⟩,_,_,rfl,rfl,_,_,rfl,rfl,⟨by decide,by decide,by omega⟩,_,_,rfl,rfl,(by show (0:Int)<2147483587;decide),?_⟩
    have g0:=Int.emod_nonneg ((seed+104729*((i:Int)+1)) ^ (2:Int).toNat) (show (2147483587:Int)≠0 by decide)
    have g1:=Int.emod_lt_of_pos ((seed+104729*((i:Int)+1)) ^ (2:Int).toNat) (show (0:Int)<2147483587 by decide)
    generalize hse':(seed+104729*((i:Int)+1)) ^ (2:Int).toNat % 2147483587=seed' at g0 g1
    refine ⟨_,rfl,.inl ⟨rfl,_,SqL.of hp3⟩,_,rfl,_,_,rfl,rfl,⟨by decide,by decide⟩,_,rfl,_,_,rfl,rfl,hz0,p,_,_,rfl,rfl,hp3,qa7 (by rw[List.length_map];omega),?_⟩
    exact ⟨nu,seed',ds++[seed' / 16 % z],_,_,by rw[← hse'];rfl,s3.at hp,by rw[List.map_append,← hse'];exact yaa,by simp[hln],fin _ (Int.emod_nonneg _ (by omega)) (Int.emod_lt_of_pos _ hz0),g0,by omega⟩
  ·rintro σ H2 ⟨nu,seed,ds,q1,q2,rfl,s2,hp2,hln,hds,_,_⟩
   rw[List.length_map] at hln
   exact ⟨_,rfl,k p ds H2 s2 hp hp2 ⟨hln,hds⟩⟩
end
end Mc
namespace Mc
open PySem L2 PyProof.Rows Mx
def zsB (n:Nat):List Int:=[4,12,12,(n:Int)+1]++(List.replicate n [12,12]).flatten
theorem yec {α:Type} (a b:α):∀ {n k:Nat},k<n→(List.replicate n [a,b]).flatten[2*k]?=some a∧(List.replicate n [a,b]).flatten[2*k+1]?=some b
 | n+1,0,_=>by simp[List.replicate_succ]
 | n+1,k+1,h=>by
  have ih:=yec a b (n:=n) (k:=k) (by omega)
  rw[List.replicate_succ,List.flatten_cons]
  constructor
  ·rw[List.getElem?_append_right (by simp;omega)]
   simpa [show 2*(k+1)-2=2*k by omega] using ih.1
  ·rw[List.getElem?_append_right (by simp;omega)]
   simpa [show 2*(k+1)+1-2=2*k+1 by omega] using ih.2
theorem zsB_len (n:Nat):(zsB n).length=4+n*2:=by
 unfold zsB
 rw[List.length_append,ycz]
 rfl
theorem zsB_at {n k:Nat} (h:k<n):(zsB n)[4+2*k]?=some 12∧(zsB n)[5+2*k]?=some 12:=by
 obtain ⟨a,b⟩:=yec (12:Int) 12 h
 unfold zsB
 rw[List.getElem?_append_right (by simp),List.getElem?_append_right (by simp;omega)]
 simp only[List.length_cons,List.length_nil]
 rw[show 4+2*k-(0+1+1+1+1)=2*k by omega,show 5+2*k-(0+1+1+1+1)=2*k+1 by omega]
 exact ⟨a,b⟩
theorem zsB_map (n:Nat):[V.int 4,.int 12,.int 12,.int ((n:Int)+1)]++(List.replicate n [V.int 12,.int 12]).flatten=(zsB n).map V.int:=by
 unfold zsB
 rw[List.map_append,List.map_flatten,List.map_replicate]
 rfl
theorem zsB_ok {n:Nat} (h:n≤60):∀ z∈zsB n,0<z∧z≤1000:=by
 intro z hz
 rcases List.mem_append.mp hz with hz|hz
 ·simp only[List.mem_cons,List.not_mem_nil,or_false] at hz
  rcases hz with rfl|rfl|rfl|rfl<;>omega
 ·obtain ⟨l,hl,hz⟩:=List.mem_flatten.mp hz
  rw[(List.mem_replicate.mp hl).2] at hz
  simp only[List.mem_cons,List.not_mem_nil,or_false] at hz
  rcases hz with rfl|rfl<;>omega
def kyB (bs:Bs):List (List Key):=bs.map fun p=>[Sum.inl p.1,Sum.inl p.2]
theorem putBs {kvs:List (List Key×V)}{bs:Bs}{r l:Int}{v:V} (h:kvs.map (·.1)=kyB bs) (h12:B12 bs) (hr:0≤r∧r<12) (hl:0≤l∧l<12):∃ bs',(putK kvs [Sum.inl r,Sum.inl l] v).map (·.1)=kyB bs'∧B12 bs'∧bs'.length≤bs.length+1:=by
 unfold putK
 split
 ·refine ⟨bs,?_,h12,by omega⟩
  rw[← h,List.map_map]
  refine List.map_congr_left fun e _=>?_
  show (if e.1=_ then _ else e).1=e.1
  split<;>rfl
 ·refine ⟨bs++[(r,l)],?_,fun p hp=>?_,by simp⟩
  ·rw[List.map_append,h]
   unfold kyB
   rw[List.map_append]
   rfl
  ·rcases List.mem_append.mp hp with hp|hp
   ·exact h12 p hp
   ·rw[List.mem_singleton.mp hp];exact ⟨hr,hl⟩
theorem qeb {ts:List TL}{bs:Bs} (h:(ts.map (·.2)).Perm (bs.map pr2)):∃ bs':Bs,bs'.Perm bs∧ts.map (·.2)=bs'.map pr2:=by
 refine ⟨ts.map fun t=>(t.2.getD 0 0,t.2.getD 1 0),?_,?_⟩
 ·have:=h.map (fun z:List Int=>(z.getD 0 0,z.getD 1 0))
  rw[List.map_map,List.map_map] at this
  have e:((fun z:List Int=>(z.getD 0 0,z.getD 1 0)) ∘ pr2)=id:=rfl
  rw[e,List.map_id] at this
  exact this
 ·rw[List.map_map]
  refine List.map_congr_left fun t ht=>?_
  obtain ⟨p,_,e⟩:=List.mem_map.mp (h.mem_iff.mp (List.mem_map_of_mem ht))
  show t.2=pr2 (t.2.getD 0 0,t.2.getD 1 0)
  rw[← e]
  rfl
theorem okT_of {ts:List TL}{bs:Bs} (h:ts.map (·.2)=bs.map pr2) (h12:B12 bs):OkT 1 ts:=fun t ht=>by
 have:t.2∈bs.map pr2:=by rw[← h];exact List.mem_map_of_mem ht
 obtain ⟨p,hp,e⟩:=List.mem_map.mp this
 rw[← e]
 refine ⟨rfl,fun x hx=>?_⟩
 have:=h12 p hp
 rcases List.mem_cons.mp hx with rfl|hx
 ·omega
 ·rw[List.mem_singleton.mp hx];omega
section
variable {P:Program}{w:World}{K:PySem.W.Frag}{mg:Str→Option Value}{base:Heap}
def qcm:Sp:=fun vs H Q _=>∃ (c t:Int) (n:Nat),vs=[.int c,.int t,.int n]∧n≤60∧0≤t∧t≤1000000∧
 ∀ (p:Addr) (ts:List TL) (bs:Bs) (H':Hp),Same H H'→H p=none→H' p=some (.lst (qad ts))→PT H' ts bs→B12 bs→bs.length≤n→Q (.ref p) H'
abbrev yau:Stmt:=top 6
theorem ybc:FnScope ["_law_cell","_law_turn","_law_most","_law_head","_law_rows","_law_lines","_law_found","_law_k","_law_row","_law_line"] ["_law_cell","_law_turn","_law_most"] (yad yau):=⟨rfl,rfl,rfl,by decide +kernel,rfl,by decide +kernel,by decide +kernel⟩
theorem qdv (B:Bl mg) (qb8:Has P w K mg base 1 "_law_digits" ["_law_cell","_law_turn","_law_sizes"] qcg) (F:FnAt K mg "_law_broken" yau ["_law_cell","_law_turn","_law_most"]):Has P w K mg base 2 "_law_broken" ["_law_cell","_law_turn","_law_most"] qcm:=by
 refine Has.ofQ F ybc (fun vs H Q E h=>?_) (fun f cdv A outer s H vs Q E hr h=>?_)
 ·obtain ⟨c,t,n,rfl,_⟩:=h
  rfl
 ·obtain ⟨c,t,n,rfl,hn,ht0,ht1,k⟩:=h
  have sc:=ybc
  refine ⟨_,(yat rfl (qac (yam (i:=3) sc.nd rfl (Or.inl rfl) (yaj qb8 hr (yag (qab (pv 0)) (yag (qab (pv 1)) (qa_bo (ya5 op_cat (qb6 (yb2 (qab yac) (yb2 (qab yac) (yb2 (qab yac) (qa_bo (ya5 ybi (qab (pv 2)) (qab yac)) qaf))))) (ya5 op_rep (qb6 (yb2 (qab yac) (yb2 (qab yac) qaf))) (qab (pv 2)))) qaf)))))
   (qac (yam (i:=4) sc.nd rfl (Or.inl rfl) (ya5 ybi (qab yac) (qaw yai (qab (pv 3)) (qab yac) (fun _ _=>rfl))))
   (qac (yam (i:=5) sc.nd rfl (Or.inl rfl) (ya5 ybi (qab yac) (qaw yai (qab (pv 3)) (qab yac) (fun _ _=>rfl))))
   (qac (yam (i:=6) sc.nd rfl (Or.inl rfl) (qab pe_dnewT))
   (qac (ybb PassesOwn.never rfl (qdg (ybf rfl (B.of rfl) (yae (qdf yai (pv 3) yac (fun _ _=>rfl)) qak))) (yaf (i:=7) sc.nd rfl (Or.inl rfl))
    (qac (yam (i:=8) sc.nd rfl (Or.inl rfl) (ya5 ybo (qaw yai (qab (pv 3)) (ya5 ybi (qab yac) (ya5 qck (qab yac) (qab (pv 7)))) (fun _ _=>rfl)) (qab (pv 4))))
    (qac (yam (i:=9) sc.nd rfl (Or.inl rfl) (ya5 ybo (qaw yai (qab (pv 3)) (ya5 ybi (qab yac) (ya5 qck (qab yac) (qab (pv 7)))) (fun _ _=>rfl)) (qab (pv 5))))
    (ydk (qay (yar op_eq (qaw yai (qab (pv 3)) (qab yac) (fun _ _=>rfl)) (qab yac) (yaw _))
     (qae (yam (i:=8) sc.nd rfl (Or.inl rfl) (ya5 ydz (qab yac) (qab (pv 8)))))
     qap)
    (ydk (qay (yar op_eq (qaw yai (qab (pv 3)) (qab yac) (fun _ _=>rfl)) (qab yac) (yaw _))
     (qae (yam (i:=9) sc.nd rfl (Or.inl rfl) (qaw yai (qb6 (yag (qab (pv 9)) (qa_bo (ya5 ybo (ya5 qck (qab yac) (qab (pv 7))) (qab yac)) qaf))) (ya5 ybo (qab (pv 7)) (qab yac)) (fun _ _=>rfl))))
     qap)
    (qae (qd2 (qc0 (ycr hr) (QE.of (qab (pv 6))) (QE.of (qe_tup (yag (qab (pv 8)) (yag (qab (pv 9)) qaf)))) (QE.of (qab ya6)) rfl))))))))
   (qae (qai (qam (qc2 rfl) rfl (B.of rfl) qau (yag (qab (pv 6)) qaf)))))))))),?_⟩
  refine ⟨_,rfl,_,rfl,_,rfl,_,_,rfl,rfl,(by show 4≤sizeLine;decide),fun q1 n1=>⟨(by show 2≤sizeLine;decide),fun q2 n2=>⟨_,rfl,q2,n,_,rfl,rfl,yaa,by omega,by omega,yb1 (by show 2*Int.toNat (n:Int)≤_;omega),fun q3 n3=>?_⟩⟩⟩
  refine ⟨q1,q3,_,_,rfl,rfl,by rw[yab (qaa (by rw[yab (qaa yaa n2)];exact yaa) n3),yab (qaa yaa n2)];exact yaa,yaa,?_,fun q4 n4=>?_⟩
  ·rw[ycz];exact yb1 (by show 4+Int.toNat (n:Int)*2≤_;omega)
  rw[show Int.toNat (n:Int)=n from rfl,zsB_map]
  have s1:Same H (upd (upd (upd (upd H q1 (.lst [V.int 4,.int 12,.int 12,.int ((n:Int)+1)])) q2 (.lst [V.int 12,.int 12])) q3 (.lst (List.replicate n [V.int 12,.int 12]).flatten)) q4 (.lst ((zsB n).map V.int))):=((((Same.refl H).upd n1).upd n2).upd n3).upd n4
  have e1:=yaa (H:=upd (upd (upd H q1 (.lst [V.int 4,.int 12,.int 12,.int ((n:Int)+1)])) q2 (.lst [V.int 12,.int 12])) q3 (.lst (List.replicate n [V.int 12,.int 12]).flatten)) (a:=q4) (o:=.lst ((zsB n).map V.int))
  revert s1 e1
  generalize upd (upd (upd (upd H q1 (.lst [V.int 4,.int 12,.int 12,.int ((n:Int)+1)])) q2 (.lst [V.int 12,.int 12])) q3 (.lst (List.replicate n [V.int 12,.int 12]).flatten)) q4 (.lst ((zsB n).map V.int))=H1
  intro s1 e1
  refine ⟨c,t,q4,zsB n,rfl,e1,by rw[zsB_len];omega,zsB_ok hn,ht0,ht1,fun hd ds H2 s2' nhd ehd hD=>?_⟩
  have s2:=s1.trans s2'
  clear s2' e1 s1
  obtain ⟨d0,g0,m0,m0'⟩:=hD.get (i:=0) (z:=4) rfl
  obtain ⟨d1,g1,m1,m1'⟩:=hD.get (i:=1) (z:=12) rfl
  obtain ⟨d2,g2,m2,m2'⟩:=hD.get (i:=2) (z:=12) rfl
  obtain ⟨d3,g3,m3,m3'⟩:=hD.get (i:=3) (z:=(n:Int)+1) rfl
  refine ⟨_,rfl,hd,_,_,_,rfl,rfl,SqL.of ehd,yas 1 (qa5 g1),_,_,rfl,rfl,?_⟩
  refine ⟨_,rfl,hd,_,_,_,rfl,rfl,SqL.of ehd,yas 2 (qa5 g2),_,_,rfl,rfl,?_⟩
  refine fun fo nfo=>?_
  have hfo:H fo=none:=s2.free nfo
  have s3:=s2.upd (o:=.dT []) nfo
  have ehd3:upd H2 fo (.dT []) hd=some (.lst (ds.map V.int)):=by rw[yab (qaa ehd nfo)];exact ehd
  have efo3:upd H2 fo (.dT []) fo=some (.dT []):=yaa
  revert s3 ehd3 efo3
  generalize upd H2 fo (.dT [])=H3
  intro s3 ehd3 efo3
  refine ⟨_,rfl,hd,_,_,_,rfl,rfl,SqL.of ehd3,yas 3 (qa5 g3),_,rfl,by omega,by omega,?_⟩
  refine qbj (n:=d3.toNat) (fun i σ H4=>∃ (o7 o8 o9:Option V) (kvs:List (List Key×V)) (bs:Bs),σ=[some (.int c),some (.int t),some (.int n),some (.ref hd),some (.int (1+d1)),some (.int (1+d2)),some (.ref fo),o7,o8,o9]∧Same H H4∧H4 hd=some (.lst (ds.map V.int))∧
   H4 fo=some (.dT kvs)∧kvs.map (·.1)=kyB bs∧B12 bs∧bs.length≤i) ⟨none,none,none,[],[],rfl,s3,ehd3,efo3,rfl,fun p hp=>by simp at hp,Nat.le_refl _⟩ ?_ ?_
  ·rintro i σ H4 hi ⟨o7,o8,o9,kvs,bs,rfl,s4,ehd4,efo4,hk,h12,hbl⟩
   have hin:i<n:=by omega
   obtain ⟨z1,z2⟩:=zsB_at hin
   obtain ⟨dr,gr,mr,mr'⟩:=hD.get z1
   obtain ⟨dl,gl,ml,ml'⟩:=hD.get z2
   have kl:kvs.length≤i:=by have:=congrArg List.length hk;unfold kyB at this;rw[List.length_map,List.length_map] at this;omega
   have ei:(0:Int)+(i:Int)=(i:Int):=by omega
   have a1:atI (ds.map V.int) (4+2*((0:Int)+(i:Int)))=some (.int dr):=by rw[show (4:Int)+2*(0+(i:Int))=((4+2*i:Nat):Int) by omega];exact qbf (qa5 gr)
   have a2:atI (ds.map V.int) (5+2*((0:Int)+(i:Int)))=some (.int dl):=by rw[show (5:Int)+2*(0+(i:Int))=((5+2*i:Nat):Int) by omega];exact qbf (qa5 gl)
   refine ⟨_,rfl,_,rfl,_,_,rfl,rfl,.inl ⟨by decide,by decide⟩,_,_,rfl,rfl,hd,_,_,_,rfl,rfl,SqL.of ehd4,a1,_,rfl,_,_,rfl,rfl,(by show (0:Int)<1+d1;omega),?_⟩
   refine ⟨_,rfl,_,rfl,_,_,rfl,rfl,.inl ⟨by decide,by decide⟩,_,_,rfl,rfl,hd,_,_,_,rfl,rfl,SqL.of ehd4,a2,_,rfl,_,_,rfl,rfl,(by show (0:Int)<1+d2;omega),?_⟩
   have r0:=Int.emod_nonneg dr (show (1+d1:Int)≠0 by omega)
   have r1:=Int.emod_lt_of_pos dr (show (0:Int)<1+d1 by omega)
   have l0:=Int.emod_nonneg dl (show (1+d2:Int)≠0 by omega)
   have l1:=Int.emod_lt_of_pos dl (show (0:Int)<1+d2 by omega)
   generalize hre:dr % (1+d1)=r at r0 r1
   generalize hle:dl % (1+d2)=l at l0 l1
   refine ⟨fun σ' H'=>∃ r':Int,(0≤r'∧r' < 12)∧H'=H4∧σ'=[some (.int c),some (.int t),some (.int n),some (.ref hd),some (.int (1+d1)),some (.int (1+d2)),some (.ref fo),some (.int ((0:Int)+(i:Int))),some (.int r'),some (.int l)],?_,?_⟩
   ·refine ⟨_,rfl,hd,_,_,_,rfl,rfl,SqL.of ehd4,yas 0 (qa5 g0),rfl,_,rfl,?_⟩
    by_cases hc:d0=1
    ·refine iteB (by rw[hc];rfl) ⟨_,rfl,_,_,rfl,rfl,11-r,by omega,rfl,by rw[← hre,← hle];rfl⟩
    ·refine iteN (decide_eq_false fun z=>hc (by injection z)) ⟨r,by omega,rfl,by rw[← hre,← hle];rfl⟩
   rintro σ' H' ⟨r',hr',e',rfl⟩
   subst e'
   refine ⟨fun σ' H'=>∃ l':Int,(0≤l'∧l' < 12)∧Same H H'∧H' hd=some (.lst (ds.map V.int))∧H' fo=some (.dT kvs)∧σ'=[some (.int c),some (.int t),some (.int n),some (.ref hd),some (.int (1+d1)),some (.int (1+d2)),some (.ref fo),some (.int ((0:Int)+(i:Int))),some (.int r'),some (.int l')],?_,?_⟩
   ·refine ⟨_,rfl,hd,_,_,_,rfl,rfl,SqL.of ehd4,yas 0 (qa5 g0),rfl,_,rfl,?_⟩
    by_cases hc:d0=2
    ·refine iteB (by rw[hc];rfl) ?_
     refine ⟨_,rfl,_,rfl,_,_,rfl,rfl,.inl ⟨by decide,by decide⟩,_,_,rfl,rfl,(by show (0:Int)<12;decide),(by show 2≤sizeLine;decide),fun q5 n5=>?_⟩
     have s5:=s4.upd (o:=.lst [V.int l,.int (3*((0:Int)+(i:Int)) % 12)]) n5
     have hx0:=Int.emod_nonneg (3*((0:Int)+(i:Int))) (show (12:Int)≠0 by decide)
     have hx1:=Int.emod_lt_of_pos (3*((0:Int)+(i:Int))) (show (0:Int)<12 by decide)
     have hm:((0:Int)+(i:Int)) % 2=0∨((0:Int)+(i:Int)) % 2=1:=by omega
     have hat:∃ l':Int,(0≤l'∧l' < 12)∧atI [V.int l,.int (3*((0:Int)+(i:Int)) % 12)] (((0:Int)+(i:Int)) % 2)=some (.int l'):=by
      rcases hm with e|e
      ·rw[e];exact ⟨l,by omega,rfl⟩
      ·rw[e];exact ⟨_,⟨hx0,hx1⟩,rfl⟩
     obtain ⟨l',b1,b2⟩:=hat
     refine ⟨_,rfl,_,_,rfl,rfl,(by show (0:Int)<2;decide),q5,_,_,_,rfl,rfl,SqL.of yaa,b2,l',b1,s5,by rw[yab (qaa ehd4 n5)];exact ehd4,by rw[yab (qaa efo4 n5)];exact efo4,rfl⟩
    ·refine iteN (decide_eq_false fun z=>hc (by injection z)) ⟨l,by omega,s4,ehd4,efo4,rfl⟩
   rintro σ' H5 ⟨l',hl',s5,ehd5,efo5,rfl⟩
   refine ⟨_,rfl,_,rfl,_,rfl,(by show 2≤sizeLine;decide),fun q6 n6=>?_⟩
   have s6:=s5.upd (o:=.tup [V.int r',.int l']) n6
   have ehd6:upd H5 q6 (.tup [V.int r',.int l']) hd=some (.lst (ds.map V.int)):=by rw[yab (qaa ehd5 n6)];exact ehd5
   have efo6:upd H5 q6 (.tup [V.int r',.int l']) fo=some (.dT kvs):=by rw[yab (qaa efo5 n6)];exact efo5
   have eq6:upd H5 q6 (.tup [V.int r',.int l']) q6=some (.tup [V.int r',.int l']):=yaa
   revert s6 ehd6 efo6 eq6
   generalize upd H5 q6 (.tup [V.int r',.int l'])=H6
   intro s6 ehd6 efo6 eq6
   obtain ⟨bs',p1,p2,p3⟩:=putBs (v:=.bl true) hk h12 hr' hl'
   refine ⟨fo,_,rfl,DPut.t (k:=[Sum.inl r',Sum.inl l']) efo6 eq6 (qa7 (by omega)),?_⟩
   exact ⟨_,_,_,_,bs',rfl,s6.at hfo,by rw[yab (ya2 ehd6 efo6 (by intro z;cases z))];exact ehd6,yaa,p1,p2,by omega⟩
  ·rintro σ H4 ⟨o7,o8,o9,kvs,bs,rfl,s4,ehd4,efo4,hk,h12,hbl⟩
   refine ⟨_,rfl,fo,kvs,bs.map pr2,1,rfl,efo4,by rw[hk,List.map_map];rfl,fun z hz=>?_,by rw[List.length_map];omega,fun p ts np ht hpm hri=>?_⟩
   ·obtain ⟨p,hp,rfl⟩:=List.mem_map.mp hz
    refine ⟨rfl,fun x hx=>?_⟩
    have:=h12 p hp
    rcases List.mem_cons.mp hx with rfl|hx
    ·omega
    ·rw[List.mem_singleton.mp hx];omega
   ·obtain ⟨bs',e1,e2⟩:=qeb hpm
    exact k p ts bs' _ (s4.upd np) (s4.free np) yaa ⟨e2,fun t ht'=>by rw[yab (qaa (ht t ht') np)];exact ht t ht'⟩ (fun q hq=>h12 q (e1.mem_iff.mp hq)) (by rw[e1.length_eq];omega)
end
end Mc
namespace Mc
open PySem L2 PyProof.Rows Mx
section
variable {P:Program}{w:World}{K:PySem.W.Frag}{mg:Str→Option Value}{base:Heap}
def ycc:Sp:=fun vs H Q _=>∃ i:Int,vs=[.int i]∧Q (.bl true) H
abbrev qar:Stmt:=top 7
theorem qa6:FnScope ["_law_thing"] ["_law_thing"] (yad qar):=⟨rfl,rfl,rfl,by decide +kernel,rfl,by decide +kernel,by decide +kernel⟩
theorem ok_whole (B:Bl mg) (F:FnAt K mg "_law_is_whole" qar ["_law_thing"]):Has P w K mg base 1 "_law_is_whole" ["_law_thing"] ycc:=by
 refine Has.ofQ F qa6 (fun vs H Q E h=>?_) (fun f cdv A outer s H vs Q E hr h=>?_)
 ·obtain ⟨i,rfl,_⟩:=h
  rfl
 ·obtain ⟨i,rfl,k⟩:=h
  have sc:=qa6
  refine ⟨_,(yat rfl (qae (qai (qab (pe_and (qa2 yba rfl (B.of rfl) boot_isinstance (yae (pv 0) (yae (ybn (v:=.ty "int") rfl (B.of rfl) boot_int rfl) qak))) (pe_one (pe_not (qa2 yba rfl (B.of rfl) boot_isinstance (yae (pv 0) (yae (ybn (v:=.ty "bool") rfl (B.of rfl) boot_bool rfl) qak)))))))))),?_⟩
  exact ⟨_,rfl,_,_,_,_,rfl,.int _,rfl,_,rfl,iteB rfl ⟨_,rfl,_,_,_,_,rfl,.int _,rfl,_,rfl,k⟩⟩
def qdo:Sp:=fun vs H Q _=>∃ (l:Addr) (ns:List Int),vs=[.ref l,.int 12]∧H l=some (.lst (ns.map V.int))∧ns.Pairwise (· < ·)∧(∀ x∈ns,0≤x∧x<12)∧∀ H',Same H H'→Q (.bl true) H'
abbrev yal:Stmt:=top 8
theorem qax:FnScope ["_law_thing","_law_most","_law_at"] ["_law_thing","_law_most"] (yad yal):=⟨rfl,rfl,rfl,by decide +kernel,rfl,by decide +kernel,by decide +kernel⟩
theorem ok_nums (B:Bl mg) (qaq:Has P w K mg base 1 "_law_is_whole" ["_law_thing"] ycc) (F:FnAt K mg "_law_are_numbers" yal ["_law_thing","_law_most"]):Has P w K mg base 2 "_law_are_numbers" ["_law_thing","_law_most"] qdo:=by
 refine Has.ofQ F qax (fun vs H Q E h=>?_) (fun f cdv A outer s H vs Q E hr h=>?_)
 ·obtain ⟨l,ns,rfl,_⟩:=h
  rfl
 ·obtain ⟨l,ns,rfl,hl,hp,h12,k⟩:=h
  have sc:=qax
  refine ⟨_,(yat rfl (qac (qay (QW.pt (ybl (qa0 (qas (qam yba rfl (B.of rfl) boot_isinstance (yag (qab (pv 0)) (yag (qab (ybn (v:=.ty "list") rfl (B.of rfl) boot_list rfl)) qaf))))) (qbd (yar qdj (qam yah rfl (B.of rfl) boot_len (yag (qab (pv 0)) qaf)) (qab (pv 1)) (yaw _)))))
    (qae (qai (qab ya6)))
    qap)
   (qac (ybb PassesOwn.never rfl (qdg (ybf rfl (B.of rfl) (yae (qa2 yah rfl (B.of rfl) boot_len (yae (pv 0) qak)) qak))) (yaf (i:=2) sc.nd rfl (Or.inl rfl))
    (qae (qay (QW.pt (ybl (qa0 (qas (yaj qaq hr (qc3 (qaw yai (qab (pv 0)) (qab (pv 2)) (fun _ _=>rfl)) qaf)))) (ybl (qa0 (qt_of (pt_chain op_le op_lt yac (qdf yai (pv 0) (pv 2) (fun _ _=>rfl)) yac))) (qbd (QW.pt (qw_and (yar qdj (qab (pv 2)) (qab yac) (yaw _)) (yd2 (yar op_le (qaw yai (qab (pv 0)) (qab (pv 2)) (fun _ _=>rfl)) (qaw yai (qab (pv 0)) (ya5 ydz (qab (pv 2)) (qab yac)) (fun _ _=>rfl)) (yaw _)))))))))
     (qae (qai (qab ya6)))
     qap)))
   (qae (qai (qab ya6)))))),?_⟩
  have hnl:ns.length≤12:=len12 (hp.imp fun h=>by omega) h12
  refine ⟨_,rfl,_,_,_,_,rfl,.lst hl,rfl,_,rfl,iteN rfl ?_⟩
  refine ⟨_,rfl,l,_,rfl,.inl (SqL.of hl),_,rfl,_,_,rfl,rfl,_,rfl,ydf (by rw[List.length_map];omega) ?_⟩
  refine ⟨_,rfl,l,_,rfl,.inl (SqL.of hl),_,rfl,by rw[List.length_map];omega,by rw[List.length_map];omega,?_⟩
  rw[List.length_map]
  refine qbj (n:=ns.length) (fun i σ H2=>∃ o2:Option V,σ=[some (.ref l),some (.int 12),o2]∧Same H H2) ⟨none,rfl,Same.refl H⟩ ?_ fun σ H2 ⟨_,_,s2⟩=>k H2 s2
  rintro i σ H2 hi ⟨o2,rfl,s2⟩
  have hl2:=s2 _ _ hl
  have hx:ns[i]?=some ns[i]:=List.getElem?_eq_getElem hi
  have hm:ns[i]∈ns:=List.getElem_mem hi
  obtain ⟨x0,x1⟩:=h12 _ hm
  have at1:atI (ns.map V.int) ((0:Int)+(i:Int))=some (.int ns[i]):=by rw[show (0:Int)+(i:Int)=((i:Nat):Int) by omega];exact qbf (qa5 hx)
  refine ⟨_,rfl,_,rfl,l,_,_,_,rfl,rfl,SqL.of hl2,at1,_,rfl,_,rfl,iteN rfl ?_⟩
  refine ⟨_,rfl,_,rfl,l,_,_,_,rfl,rfl,SqL.of hl2,at1,_,_,rfl,rfl,_,rfl,?_⟩
  refine iteD x0 ⟨_,_,rfl,rfl,_,rfl,iteN (by rw[decide_eq_true x1];rfl) ?_⟩
  refine ⟨_,rfl,_,_,rfl,rfl,_,rfl,?_⟩
  by_cases hi0:(0:Int)<0+(i:Int)
  ·refine iteD hi0 ?_
   have hj:i-1<ns.length:=by omega
   have at2:atI (ns.map V.int) ((0:Int)+(i:Int)-1)=some (.int ns[i-1]):=by rw[show (0:Int)+(i:Int)-1=((i-1:Nat):Int) by omega];exact qbf (qa5 (List.getElem?_eq_getElem hj))
   have lt:=List.pairwise_iff_getElem.mp hp (i-1) i hj hi (by omega)
   refine ⟨_,rfl,_,rfl,l,_,_,_,rfl,rfl,SqL.of hl2,at1,_,rfl,_,rfl,_,_,rfl,rfl,l,_,_,_,rfl,rfl,SqL.of hl2,at2,_,_,rfl,rfl,_,rfl,ydf (by omega) ⟨_,rfl,s2⟩⟩
  ·exact ydf hi0 (iteF ⟨_,rfl,s2⟩)
def qct:Sp:=fun vs H Q _=>∃ (b r l:Addr) (ts:List TL) (bs:Bs) (R L:List Int),vs=[.ref b,.ref r,.ref l]∧H b=some (.lst (qad ts))∧PT H ts bs∧H r=some (.lst (R.map V.int))∧H l=some (.lst (L.map V.int))∧bs.length≤100∧
 ∀ H',Same H H'→Q (.bl (bs.all fun p=>decide (p.1∈R)||decide (p.2∈L))) H'
abbrev qav:Stmt:=top 9
theorem qbc:FnScope ["_law_broken_here","_law_rows","_law_lines"] ["_law_broken_here","_law_rows","_law_lines"] (yad qav):=⟨rfl,rfl,rfl,by decide +kernel,rfl,by decide +kernel,by decide +kernel⟩
theorem qbr (x:Int):∀ (R:List Int),inV (.int x) (R.map V.int)=decide (x∈R)
 | []=>rfl
 | r::R=>by
  have e:inV (.int x) ((r::R).map V.int)=(eqV (.int r) (.int x)||inV (.int x) (R.map V.int)):=rfl
  rw[e,qbr x R,show eqV (.int r) (.int x)=decide (r=x) from rfl,← Bool.decide_or]
  refine decide_eq_decide.mpr ?_
  rw[List.mem_cons]
  exact ⟨fun z=>z.imp Eq.symm id,fun z=>z.imp Eq.symm id⟩
theorem ybg:∀ (R:List Int),(R.map V.int).all qca=true
 | []=>rfl
 | r::R=>by rw[List.map_cons,List.all_cons,ybg R];rfl
theorem PT.bs_eq {H:Hp}{ts:List TL}{bs:Bs} (h:PT H ts bs):bs=ts.map fun t=>(t.2.getD 0 0,t.2.getD 1 0):=by
 have:=congrArg (List.map fun z:List Int=>(z.getD 0 0,z.getD 1 0)) h.eq
 rw[List.map_map,List.map_map] at this
 have e:((fun z:List Int=>(z.getD 0 0,z.getD 1 0)) ∘ pr2)=id:=rfl
 rw[e,List.map_id] at this
 exact this.symm
theorem yb6 {α:Type} (p:α→Bool):∀ l:List α,(l.filter p).isEmpty=l.all fun x=>!p x
 | []=>rfl
 | x::l=>by
  rw[List.all_cons,← yb6 p l]
  cases h:p x
  ·rw[List.filter_cons_of_neg (by simp[h])];simp
  ·rw[List.filter_cons_of_pos h];simp
theorem eqT_nil (ks:List (List Int)):PyData.eqv (.list (tupD ks)) (.list [])=ks.isEmpty:=by
 rw[PyData.eqv]
 have:=eqTs ks []
 rw[show tupD []=[] from rfl] at this
 rw[this]
 cases ks<;>rfl
def yb0 (R L:List Int) (t:TL):Bool:=!decide (t.2.getD 0 0∈R) && !decide (t.2.getD 1 0∈L)
theorem qdy (B:Bl mg) (F:FnAt K mg "_law_covers" qav ["_law_broken_here","_law_rows","_law_lines"]):Has P w K mg base 1 "_law_covers" ["_law_broken_here","_law_rows","_law_lines"] qct:=by
 refine Has.ofQ F qbc (fun vs H Q E h=>?_) (fun f cdv A outer s H vs Q E hr h=>?_)
 ·obtain ⟨b,r,l,ts,bs,R,L,rfl,_⟩:=h
  rfl
 ·obtain ⟨b,r,l,ts,bs,R,L,rfl,hb,hP,hR,hL,hbl,k⟩:=h
  have hpl:=hP.len
  have sc:=qbc
  refine ⟨_,(yat rfl (qae (qai (qe_cmpR (op_eqD hr) (qab (qcw rfl (ya8 rfl) (M:=["_law_cell","_law_rows","_law_lines"]) (ix:=[none,some 1,some 2]) (yca (pv 0)) (fun _ _ _ _=>(yaf (i:=0) (show List.Nodup (["_law_cell","_law_rows","_law_lines"]:List Str) by decide +kernel) rfl (Or.inl rfl))) (fun _ _ _ _=>(yc2 (PW.pt (qdk (qbw (ybj (K:=K) rfl) (qdf (yc0 (K:=K) rfl) (pv 0) yac (fun _ _=>rfl)) (pv 1) (by with_unfolding_all rfl)) (qc1 (qbw (ybj (K:=K) rfl) (qdf (yc0 (K:=K) rfl) (pv 0) yac (fun _ _=>rfl)) (pv 2) (by with_unfolding_all rfl))))))) (fun _ _ _ _=>(pv 0)))) (qb6 qaf) (yaw _))))),?_⟩
  refine ⟨_,rfl,b,rfl,⟨_,SqL.of hb⟩,fun D nD=>qbv (n:=ts.length) (fun i H2=>Same H H2∧H2 D=some (.lst (qad ((ts.take i).filter (yb0 R L))))) ⟨(Same.refl H).upd nD,yaa⟩ ?_ ?_⟩
  ·rintro H2 ⟨s2,e2⟩
   rw[List.take_length] at e2
   refine ⟨⟨_,SqL.of (s2 _ _ hb),by unfold qad;simp⟩,Nat.zero_le _,fun z nz=>?_⟩
   have s3:=s2.upd (o:=.lst []) nz
   have e3:upd H2 z (.lst []) D=some (.lst (qad (ts.filter (yb0 R L)))):=by rw[yab (qaa e2 nz)];exact e2
   refine ⟨.list (tupD ((ts.filter (yb0 R L)).map (·.2))),.list [],.lst e3 (atTs fun t ht=>s3 _ _ (hP.at_ t (List.mem_filter.mp ht).1)),.lst yaa .nil,layTs _,rfl,by have:=depTs ((ts.filter (yb0 R L)).map (·.2));simp only[PyData.depth];omega,?_⟩
   rw[eqT_nil,List.isEmpty_map,yb6]
   have kk:=k _ s3
   rw[hP.bs_eq,List.all_map] at kk
   have e:(ts.all fun t=>!yb0 R L t)=ts.all ((fun p=>decide (p.1∈R)||decide (p.2∈L)) ∘ fun t:TL=>(t.2.getD 0 0,t.2.getD 1 0)):=by
    congr 1
    funext t
    unfold yb0
    rw[Bool.not_and,Bool.not_not,Bool.not_not]
    rfl
   rw[e]
   exact kk
  ·rintro i H2 hi ⟨s2,e2⟩
   have hb2:=s2 _ _ hb
   have hti:(qad ts)[i]?=some (.ref ts[i].1):=by unfold qad;rw[List.getElem?_map,List.getElem?_eq_getElem hi];rfl
   refine ⟨⟨_,_,SqL.of hb2,hti⟩,?_⟩
   rintro x H3 ⟨rfl,hx⟩
   have hx':=hx _ (SqL.of hb2)
   rw[hti] at hx'
   cases hx'
   obtain ⟨a,r1,l1,ea,hbi,hat⟩:=hP.get hti
   cases ea
   have ht:ts[i]?=some ts[i]:=List.getElem?_eq_getElem hi
   have tk:ts.take (i+1)=ts.take i++[ts[i]]:=by rw[List.take_add_one,ht];rfl
   have g01:ts[i].2.getD 0 0=r1∧ts[i].2.getD 1 0=l1:=by
    have:=congrArg (·[i]?) hP.bs_eq
    simp only[List.getElem?_map,hbi,ht,Option.map_some,Option.some.injEq,Prod.mk.injEq] at this
    exact ⟨this.1.symm,this.2.symm⟩
   have fl:((ts.take i).filter (yb0 R L)).length≤i:=Nat.le_trans (List.length_filter_le _ _) (by rw[List.length_take];omega)
   refine ⟨yay.set (yay.refl _) rfl,?_⟩
   have h3:=s2 _ _ hat
   have hR3:=s2 _ _ hR
   have hL3:=s2 _ _ hL
   refine ⟨_,rfl,_,_,_,_,rfl,rfl,SqT.of h3,yas 0 rfl,_,rfl,r,_,rfl,.inl (SqL.of hR3),rfl,ybg R,_,rfl,?_⟩
   show if (!inV (V.int r1) (R.map V.int))=true then _ else _
   rw[qbr]
   by_cases h1:r1∈R
   ·refine iteN (by rw[decide_eq_true h1];rfl) (iteF ⟨s2,?_⟩)
    rw[e2,tk,List.filter_append,List.filter_cons_of_neg (by unfold yb0;rw[g01.1];simp[h1])]
    simp
   ·refine iteB (by rw[decide_eq_false h1];rfl) ?_
    refine ⟨_,rfl,_,_,_,_,rfl,rfl,SqT.of h3,yas 1 rfl,_,rfl,l,_,rfl,.inl (SqL.of hL3),rfl,ybg L,_,rfl,?_⟩
    show if (!inV (V.int l1) (L.map V.int))=true then _ else _
    rw[qbr]
    by_cases h2:l1∈L
    ·refine iteN (by rw[decide_eq_true h2];rfl) ⟨s2,?_⟩
     rw[e2,tk,List.filter_append,List.filter_cons_of_neg (by unfold yb0;rw[g01.2];simp[h2])]
     simp
    ·refine iteB (by rw[decide_eq_false h2];rfl) ⟨_,rfl,_,e2,qa7 (by unfold qad;rw[List.length_map];omega),s2.at nD,?_⟩
     rw[yaa,tk,List.filter_append,List.filter_cons_of_pos (by unfold yb0;rw[g01.1,g01.2];simp[h1,h2])]
     unfold qad
     rw[List.map_append]
     rfl
end
end Mc
namespace Mc
open PySem L2 PyProof.Rows Mx
section
variable {P:Program}{w:World}{K:PySem.W.Frag}{mg:Str→Option Value}{base:Heap}
def qc8:Sp:=fun vs H Q _=>∃ (b c:Addr) (ts cs:List TL) (bs C:Bs),vs=[.ref b,.ref c]∧H b=some (.lst (qad ts))∧PT H ts bs∧H c=some (.lst (qad cs))∧PT H cs C∧C.length≤12∧(∀ p∈C,p∈bs)∧C.Pairwise (fun p q=>p.1<q.1)∧(C.map (·.2)).Nodup∧
 ∀ H',Same H H'→Q (.bl true) H'
abbrev yao:Stmt:=top 10
theorem qa4:FnScope ["_law_broken_here","_law_cells","_law_at"] ["_law_broken_here","_law_cells"] (yad yao):=⟨rfl,rfl,rfl,by decide +kernel,rfl,by decide +kernel,by decide +kernel⟩
theorem ok_cells (B:Bl mg) (qaq:Has P w K mg base 1 "_law_is_whole" ["_law_thing"] ycc) (F:FnAt K mg "_law_are_cells" yao ["_law_broken_here","_law_cells"]):Has P w K mg base 2 "_law_are_cells" ["_law_broken_here","_law_cells"] qc8:=by
 refine Has.ofQ F qa4 (fun vs H Q E h=>?_) (fun f cdv A outer s H vs Q E hr h=>?_)
 ·obtain ⟨b,c,ts,cs,bs,C,rfl,_⟩:=h
  rfl
 ·obtain ⟨b,c,ts,cs,bs,C,rfl,hb,hP,hc,hC,hCl,hsub,hpw,hnd,k⟩:=h
  have hcl:=hC.len
  have sc:=qa4
  refine ⟨_,(yat rfl (qac (qay (QW.pt (ybl (qa0 (qas (qam yba rfl (B.of rfl) boot_isinstance (yag (qab (pv 1)) (yag (qab (ybn (v:=.ty "list") rfl (B.of rfl) boot_list rfl)) qaf))))) (qbd (yar qdj (qam yah rfl (B.of rfl) boot_len (yag (qab (pv 1)) qaf)) (qab yac) (yaw _)))))
    (qae (qai (qab ya6)))
    qap)
   (qac (ybb PassesOwn.never rfl (qdg (ybf rfl (B.of rfl) (yae (qa2 yah rfl (B.of rfl) boot_len (yae (pv 1) qak)) qak))) (yaf (i:=2) sc.nd rfl (Or.inl rfl))
    (qac (qay (QW.pt (ybl (qa0 (qas (qam yba rfl (B.of rfl) boot_isinstance (qc3 (qaw yai (qab (pv 1)) (qab (pv 2)) (fun _ _=>rfl)) (yag (qab (ybn (v:=.ty "tuple") rfl (B.of rfl) boot_tuple rfl)) qaf))))) (ybl (yar op_ne (qam yah rfl (B.of rfl) boot_len (qc3 (qaw yai (qab (pv 1)) (qab (pv 2)) (fun _ _=>rfl)) qaf)) (qab yac) (yaw _)) (qbd (yar (ycm hr) (qaw yai (qab (pv 1)) (qab (pv 2)) (fun _ _=>rfl)) (qab (pv 0)) (by with_unfolding_all rfl))))))
     (qae (qai (qab ya6)))
     qap)
    (qac (qay (QW.pt (ybl (qa0 (qas (yaj qaq hr (qc3 (qaw qb4 (qaw yai (qab (pv 1)) (qab (pv 2)) (fun _ _=>rfl)) (qab yac) (fun _ _=>rfl)) qaf)))) (qbd (qa0 (qas (yaj qaq hr (qc3 (qaw qb4 (qaw yai (qab (pv 1)) (qab (pv 2)) (fun _ _=>rfl)) (qab yac) (fun _ _=>rfl)) qaf)))))))
     (qae (qai (qab ya6)))
     qap)
    (qae (qay (QW.pt (ybl (QW.pt (qw_and (yar qdj (qab (pv 2)) (qab yac) (yaw _)) (yd2 (yar op_le (qaw qb4 (qaw yai (qab (pv 1)) (qab (pv 2)) (fun _ _=>rfl)) (qab yac) (fun _ _=>rfl)) (qaw qb4 (qaw yai (qab (pv 1)) (ya5 ydz (qab (pv 2)) (qab yac)) (fun _ _=>rfl)) (qab yac) (fun _ _=>rfl)) (yaw _))))) (qbd (yar yd4 (qaw qb4 (qaw yai (qab (pv 1)) (qab (pv 2)) (fun _ _=>rfl)) (qab yac) (fun _ _=>rfl)) (qab (qcw rfl (ya8 rfl) (M:=["_law_cell"]) (ix:=[none]) (yca (qbm qbz (pv 1) ybw (qbu (pv 2)))) (fun _ _ _ _=>(yaf (i:=0) (show List.Nodup (["_law_cell"]:List Str) by decide +kernel) rfl (Or.inl rfl))) (fun _ _ _ _=>yea) (fun _ _ _ _=>(qdf (yc0 (K:=K) rfl) (pv 0) yac (fun _ _=>rfl))))) (by with_unfolding_all rfl)))))
     (qae (qai (qab ya6)))
     qap)))))
   (qae (qai (qab ya6)))))),?_⟩
  refine ⟨_,rfl,_,_,_,_,rfl,.lst hc,rfl,_,rfl,iteN rfl ?_⟩
  refine ⟨_,rfl,c,_,rfl,.inl (SqL.of hc),_,_,rfl,rfl,_,rfl,ydf (by unfold qad;rw[List.length_map];omega) ?_⟩
  refine ⟨_,rfl,c,_,rfl,.inl (SqL.of hc),_,rfl,by unfold qad;rw[List.length_map];omega,by unfold qad;rw[List.length_map];omega,?_⟩
  rw[show (qad cs).length=cs.length from List.length_map _]
  refine qbj (n:=cs.length) (fun i σ H2=>∃ o2:Option V,σ=[some (.ref b),some (.ref c),o2]∧Same H H2) ⟨none,rfl,Same.refl H⟩ ?_ fun σ H2 ⟨_,_,s2⟩=>k H2 s2
  rintro i σ H2 hi ⟨o2,rfl,s2⟩
  have hb2:=s2 _ _ hb
  have hc2:=s2 _ _ hc
  have hti:(qad cs)[i]?=some (.ref cs[i].1):=by unfold qad;rw[List.getElem?_map,List.getElem?_eq_getElem hi];rfl
  obtain ⟨a,r1,l1,ea,hCi,hat⟩:=hC.get hti
  have ea':cs[i].1=a:=by cases ea;rfl
  rw[ea'] at hti
  clear ea ea'
  have hat2:=s2 _ _ hat
  have at1:atI (qad cs) ((0:Int)+(i:Int))=some (.ref a):=by rw[show (0:Int)+(i:Int)=((i:Nat):Int) by omega];exact qbf hti
  refine ⟨_,rfl,_,rfl,c,_,_,_,rfl,rfl,SqL.of hc2,at1,_,_,_,_,rfl,.tup hat2,rfl,_,rfl,iteN rfl ?_⟩
  refine ⟨_,rfl,_,rfl,c,_,_,_,rfl,rfl,SqL.of hc2,at1,a,_,rfl,.inr (SqT.of hat2),rfl,_,rfl,iteN rfl ?_⟩
  have hin:pr2 (r1,l1)∈ts.map (·.2):=by rw[hP.eq];exact List.mem_map_of_mem (hsub _ (List.mem_of_getElem? hCi))
  refine ⟨_,rfl,_,rfl,c,_,_,_,rfl,rfl,SqL.of hc2,at1,_,rfl,a,b,[r1,l1],ts,rfl,rfl,hat2,hb2,fun t ht=>s2 _ _ (hP.at_ t ht),_,rfl,iteN ?_ ?_⟩
  ·show (!decide ([r1,l1]∈ts.map (·.2)))=false
   rw[decide_eq_true (show [r1,l1]∈ts.map (·.2) from hin)]
   rfl
  refine ⟨_,rfl,_,rfl,c,_,_,_,rfl,rfl,SqL.of hc2,at1,a,_,_,_,rfl,rfl,SqT.of hat2,yas 0 rfl,_,rfl,_,rfl,iteN rfl ?_⟩
  refine ⟨_,rfl,_,rfl,c,_,_,_,rfl,rfl,SqL.of hc2,at1,a,_,_,_,rfl,rfl,SqT.of hat2,yas 1 rfl,_,rfl,_,rfl,iteN rfl ?_⟩
  refine ⟨_,rfl,_,_,rfl,rfl,_,rfl,?_⟩
  have hiC:i<C.length:=by omega
  by_cases hi0:(0:Int)<0+(i:Int)
  case' pos=>
   refine iteD hi0 ?_
   have hj:i-1<cs.length:=by omega
   have htj:(qad cs)[i-1]?=some (.ref cs[i-1].1):=by unfold qad;rw[List.getElem?_map,List.getElem?_eq_getElem hj];rfl
   obtain ⟨a',r0,l0,ea,hCj,hat'⟩:=hC.get htj
   have ea':cs[i-1].1=a':=by cases ea;rfl
   rw[ea'] at htj
   have hat2':=s2 _ _ hat'
   have at2:atI (qad cs) ((0:Int)+(i:Int)-1)=some (.ref a'):=by rw[show (0:Int)+(i:Int)-1=((i-1:Nat):Int) by omega];exact qbf htj
   have lt:r0<r1:=by
    have h:=List.pairwise_iff_getElem.mp hpw (i-1) i (by omega) hiC (by omega)
    have e1:C[i-1]=(r0,l0):=Option.some.inj ((List.getElem?_eq_getElem (by omega)).symm.trans hCj)
    have e2:C[i]=(r1,l1):=Option.some.inj ((List.getElem?_eq_getElem hiC).symm.trans hCi)
    rw[e1,e2] at h
    exact h
   refine ⟨_,rfl,_,rfl,c,_,_,_,rfl,rfl,SqL.of hc2,at1,a,_,_,_,rfl,rfl,SqT.of hat2,yas 0 rfl,_,rfl,_,rfl,_,_,rfl,rfl,c,_,_,_,rfl,rfl,SqL.of hc2,at2,a',_,_,_,rfl,rfl,SqT.of hat2',yas 0 rfl,_,_,rfl,rfl,_,rfl,ydf (by omega) ?_⟩
  case' neg=>refine ydf hi0 (iteF ?_)
  all_goals
   refine ⟨_,rfl,_,rfl,c,_,_,_,rfl,rfl,SqL.of hc2,at1,a,_,_,_,rfl,rfl,SqT.of hat2,yas 1 rfl,_,rfl,_,rfl,_,rfl,c,_,rfl,SqL.of hc2,fun q nq=>⟨q,rfl,⟨_,SqL.of yaa⟩,?_⟩⟩
   rw[show cutV (qad cs) none (some ((0:Int)+(i:Int)))=qad (cs.take i) by rw[show (0:Int)+(i:Int)=((i:Nat):Int) by omega,yc9];unfold qad;rw[List.map_take]]
   have s3:=s2.upd (o:=.lst (qad (cs.take i))) nq
   have hq3:upd H2 q (.lst (qad (cs.take i))) q=some (.lst (qad (cs.take i))):=yaa
   revert s3 hq3
   generalize upd H2 q (.lst (qad (cs.take i)))=H3
   intro s3 hq3
   refine fun D nD=>qbv (n:=i) (fun j H'=>Same H3 H'∧H' D=some (.lst (((C.take j).map (·.2)).map V.int))) ⟨(Same.refl H3).upd nD,yaa⟩ ?_ ?_
   ·rintro H4 ⟨s4,e4⟩
    refine ⟨⟨_,SqL.of (s4 _ _ hq3),by unfold qad;rw[List.length_map,List.length_take];omega⟩,D,_,rfl,.inl (SqL.of e4),rfl,ybg _,_,rfl,iteN ?_ ⟨_,rfl,s3.trans s4⟩⟩
    show inV (.int l1) (((C.take i).map (·.2)).map V.int)=false
    rw[qbr]
    refine decide_eq_false fun hm=>?_
    rw[List.map_take] at hm
    obtain ⟨j,hj,ej⟩:=List.getElem_of_mem hm
    rw[List.length_take,List.length_map] at hj
    rw[List.getElem_take] at ej
    have h1:(C.map (·.2))[j]?=some l1:=by rw[List.getElem?_eq_getElem (by rw[List.length_map];omega),ej]
    have h2:(C.map (·.2))[i]?=some l1:=by rw[List.getElem?_map,hCi];rfl
    have:=(List.getElem?_inj (by rw[List.length_map];omega) hnd).mp (h1.trans h2.symm)
    omega
   ·rintro j H4 hj ⟨s4,e4⟩
    have htj:(qad (cs.take i))[j]?=some (.ref cs[j].1):=by unfold qad;rw[List.getElem?_map,List.getElem?_take_of_lt hj,List.getElem?_eq_getElem (show j<cs.length by omega)];rfl
    have htj':(qad cs)[j]?=some (.ref cs[j].1):=by unfold qad;rw[List.getElem?_map,List.getElem?_eq_getElem (show j<cs.length by omega)];rfl
    obtain ⟨a2,r2,l2,ea2,hC2,hat3⟩:=hC.get htj'
    have ea3:cs[j].1=a2:=by cases ea2;rfl
    rw[ea3] at htj
    refine ⟨⟨_,_,SqL.of (s4 _ _ hq3),htj⟩,?_⟩
    rintro x H5 ⟨rfl,hx⟩
    have hx':=hx _ (SqL.of (s4 _ _ hq3))
    rw[htj] at hx'
    cases hx'
    refine ⟨yay.set (yay.refl _) rfl,yes ?_⟩
    refine ⟨_,rfl,a2,_,_,_,rfl,rfl,SqT.of (s4 _ _ (s3 _ _ hat3)),yas 1 rfl,_,e4,qa7 (by simp;omega),s4.at nD,?_⟩
    rw[yaa,List.take_add_one,hC2]
    simp
end
end Mc
namespace Mc
open PySem L2 PyProof.Rows Mx
theorem eqT_refl (ks:List (List Int)):PyData.eqv (.list (tupD ks)) (.list (tupD ks))=true:=by
 rw[PyData.eqv,eqTs]
 exact decide_eq_true rfl
section
variable {P:Program}{w:World}{K:PySem.W.Frag}{mg:Str→Option Value}{base:Heap}
def ydc:Sp:=fun vs H Q _=>∃ (b:Addr) (ts:List TL) (bs:Bs),vs=[.ref b]∧H b=some (.lst (qad ts))∧PT H ts bs∧bs.length≤63∧B12 bs∧∀ H',Same H H'→Q (.bl true) H'
abbrev yaz:Stmt:=top 11
theorem qbh:FnScope ["_law_broken_here","_law_handed","_law_turn","_law_found","_law_rows","_law_lines","_law_cells"] ["_law_broken_here"] (yad yaz):=⟨rfl,rfl,rfl,by decide +kernel,rfl,by decide +kernel,by decide +kernel⟩
theorem ok_right (B:Bl mg) (h_fewest:Has P w K mg base 14 "fewest" ["broken"] ycj) (qa1:Has P w K mg base 2 "_law_are_numbers" ["_law_thing","_law_most"] qdo) (qcc:Has P w K mg base 1 "_law_covers" ["_law_broken_here","_law_rows","_law_lines"] qct)
  (qbq:Has P w K mg base 2 "_law_are_cells" ["_law_broken_here","_law_cells"] qc8) (F:FnAt K mg "_law_right" yaz ["_law_broken_here"]):Has P w K mg base 15 "_law_right" ["_law_broken_here"] ydc:=by
 refine Has.ofQ F qbh (fun vs H Q E h=>?_) (fun f cdv A outer s H vs Q E hr h=>?_)
 ·obtain ⟨b,ts,bs,rfl,_⟩:=h
  rfl
 ·obtain ⟨b,ts,bs,rfl,hb,hP,hbl,h12,k⟩:=h
  have hpl:=hP.len
  have sc:=qbh
  refine ⟨_,(yat rfl (qac (yam (i:=1) sc.nd rfl (Or.inl rfl) (ydl qcs rfl (B.of rfl) boot_list (yag (qab (pv 0)) qaf)))
   (qac (ybb PassesOwn.never rfl (qdg (ybf rfl (B.of rfl) (yae yac qak))) (yaf (i:=2) sc.nd rfl (Or.inl rfl))
    (qac (yam (i:=3) sc.nd rfl (Or.inl rfl) (yaj h_fewest hr (yag (qab (pv 1)) qaf)))
    (qac (qay (QW.pt (ybl (qa0 (qas (qam yba rfl (B.of rfl) boot_isinstance (yag (qab (pv 3)) (yag (qab (ybn (v:=.ty "tuple") rfl (B.of rfl) boot_tuple rfl)) qaf))))) (ybl (yar op_ne (qam yah rfl (B.of rfl) boot_len (yag (qab (pv 3)) qaf)) (qab yac) (yaw _)) (qbd (yar (op_neD hr) (qab (pv 1)) (qab (pv 0)) (yaw _))))))
     (qae (qai (qab ya6)))
     qap)
    (qac (qs_asg (qab (pv 3)) (yco rfl (qao (yaf (i:=4) sc.nd rfl (Or.inl rfl)) (qao (yaf (i:=5) sc.nd rfl (Or.inl rfl)) (qao (yaf (i:=6) sc.nd rfl (Or.inl rfl)) qbn)))))
    (qac (qay (QW.pt (ybl (qa0 (qas (yaj qa1 hr (yag (qab (pv 4)) (yb2 (qab yac) qaf))))) (ybl (qa0 (qas (yaj qa1 hr (yag (qab (pv 5)) (yb2 (qab yac) qaf))))) (qbd (qa0 (qas (yaj qcc hr (yag (qab (pv 0)) (yag (qab (pv 4)) (yag (qab (pv 5)) qaf))))))))))
     (qae (qai (qab ya6)))
     qap)
    (qac (qay (QW.pt (ybl (qa0 (qas (yaj qbq hr (yag (qab (pv 0)) (yag (qab (pv 6)) qaf))))) (qbd (yar op_ne (qam yah rfl (B.of rfl) boot_len (yag (qab (pv 6)) qaf)) (ya5 ybi (qam yah rfl (B.of rfl) boot_len (yag (qab (pv 4)) qaf)) (qam yah rfl (B.of rfl) boot_len (yag (qab (pv 5)) qaf))) (yaw _)))))
     (qae (qai (qab ya6)))
     qap)
    (qac (ybm (qe_bm PySem.F.plainAttrs_list PySem.F.slot_list_append PySem.F.type_list_append yax (qab (pv 4)) (yb2 (qab yac) qaf)))
    (qac (ybm (qe_bm PySem.F.plainAttrs_list PySem.F.slot_list_append PySem.F.type_list_append yax (qab (pv 5)) (yb2 (qab yac) qaf)))
    (qae (ybm (qab (pe_bm0 PySem.F.plainAttrs_list PySem.F.slot_list_clear PySem.F.type_list_clear mt_clear (pv 6)))))))))))))
   (qae (qai (qab ya6)))))),?_⟩
  refine ⟨_,rfl,b,_,rfl,.inl (SqL.of hb),fun h nh=>?_⟩
  have s1:=(Same.refl H).upd (o:=.lst (qad ts)) nh
  have e1:upd H h (.lst (qad ts)) h=some (.lst (qad ts)):=yaa
  revert s1 e1
  generalize upd H h (.lst (qad ts))=H1
  intro s1 e1
  refine ⟨2,rfl,by decide,by decide,?_⟩
  refine qbj (n:=2) (fun i σ H2=>∃ (o2 o3 o4 o5 o6:Option V),σ=[some (.ref b),some (.ref h),o2,o3,o4,o5,o6]∧Same H1 H2) ⟨none,none,none,none,none,rfl,Same.refl H1⟩ ?_ fun σ H2 ⟨_,_,_,_,_,_,s2⟩=>k H2 (s1.trans s2)
  rintro i σ H2 hi ⟨o2,o3,o4,o5,o6,rfl,s2⟩
  have s12:=s1.trans s2
  refine ⟨_,rfl,h,ts,bs,rfl,s2 _ _ e1,hP.same s12,hbl,h12,fun p pr pl pc R L C cs H3 s3 npr npl npc nrl nrc nlc few cov=>?_⟩
  have s13:=s12.trans s3
  have h3:=s3 _ _ (s2 _ _ e1)
  have b3:=s13 _ _ hb
  have hP3:=hP.same s13
  obtain ⟨ft,fr,fl,fc,fp⟩:=few
  refine ⟨_,rfl,_,_,_,_,rfl,.tup ft,rfl,_,rfl,iteN rfl ?_⟩
  refine ⟨_,rfl,p,_,rfl,.inr (SqT.of ft),rfl,_,rfl,iteN rfl ?_⟩
  refine ⟨_,rfl,_,rfl,.list (tupD (ts.map (·.2))),.list (tupD (ts.map (·.2))),.lst h3 (atTs hP3.at_),.lst b3 (atTs hP3.at_),layTs _,layTs _,by have:=depTs (ts.map (·.2));simp only[PyData.depth];omega,_,rfl,iteN (by rw[eqT_refl];rfl) ?_⟩
  refine ⟨_,rfl,p,_,rfl,SqT.of ft,rfl,_,_,rfl,_,_,rfl,_,_,rfl,rfl,?_⟩
  refine ⟨_,rfl,pr,R,rfl,fr,cov.r,cov.r12,fun H4 s4=>⟨_,rfl,iteN rfl ?_⟩⟩
  refine ⟨_,rfl,pl,L,rfl,s4 _ _ fl,cov.l,cov.l12,fun H5 s5=>⟨_,rfl,iteN rfl ?_⟩⟩
  have s35:=s4.trans s5
  refine ⟨_,rfl,_,rfl,_,rfl,b,pr,pl,ts,bs,R,L,rfl,s35 _ _ b3,hP3.same s35,s35 _ _ fr,s35 _ _ fl,by omega,fun H6 s6=>⟨_,rfl,iteN ?_ ?_⟩⟩
  ·have:(bs.all fun p=>decide (p.1∈R)||decide (p.2∈L))=true:=List.all_eq_true.mpr fun p hp=>by
    rcases cov.cov p hp with z|z
    ·rw[decide_eq_true z];rfl
    ·rw[decide_eq_true z,Bool.or_true]
   rw[this]
   rfl
  have s36:=s35.trans s6
  have hcl:C.length≤12:=by
   have h1:=ya3 (m:=ycg) cov.cl fun x hx=>by
    obtain ⟨q,hq,rfl⟩:=List.mem_map.mp hx
    exact in12 (h12 q (cov.sub q hq)).2
   simpa [ycg] using h1
  refine ⟨_,rfl,_,rfl,b,pc,ts,cs,bs,C,rfl,s36 _ _ b3,hP3.same s36,s36 _ _ fc,fp.same s36,hcl,cov.sub,cov.cr,cov.cl,fun H7 s7=>⟨_,rfl,iteN rfl ?_⟩⟩
  have s37:=s36.trans s7
  have fr7:=s37 _ _ fr
  have fl7:=s37 _ _ fl
  have fc7:=s37 _ _ fc
  have hcs:=fp.len
  refine ⟨_,rfl,pc,_,rfl,.inl (SqL.of fc7),_,rfl,pr,_,rfl,.inl (SqL.of fr7),_,rfl,pl,_,rfl,.inl (SqL.of fl7),_,_,rfl,rfl,rfl,_,rfl,iteN ?_ ?_⟩
  ·have e:=cov.len
   unfold qad
   rw[List.length_map,List.length_map,List.length_map,hcs,e]
   simp
  have hrl:R.length≤12:=by have:=cov.len;omega
  have hll:L.length≤12:=by have:=cov.len;omega
  have n1:H1 pr=none:=s2.free npr
  have n2:H1 pl=none:=s2.free npl
  have n3:H1 pc=none:=s2.free npc
  refine ⟨_,rfl,.inl ⟨rfl,_,SqL.of fr7⟩,pr,_,_,rfl,rfl,fr7,qa7 (by rw[List.length_map];omega),?_⟩
  have fl8:upd H7 pr (.lst (R.map V.int++[.int 5])) pl=some (.lst (L.map V.int)):=by rw[yab nrl.symm];exact fl7
  refine ⟨_,rfl,.inl ⟨rfl,_,SqL.of fl8⟩,pl,_,_,rfl,rfl,fl8,qa7 (by rw[List.length_map];omega),?_⟩
  have fc9:upd (upd H7 pr (.lst (R.map V.int++[.int 5]))) pl (.lst (L.map V.int++[.int 5])) pc=some (.lst (qad cs)):=by rw[yab nlc.symm,yab nrc.symm];exact fc7
  refine ⟨_,rfl,.inl ⟨rfl,_,SqL.of fc9⟩,pc,_,rfl,rfl,fc9,?_⟩
  exact ⟨_,_,_,_,_,rfl,((((s2.trans s3).trans s37).at n1).at n2).at n3⟩
end
end Mc
namespace Mc
open PySem L2 PyProof.Rows Mx
theorem PT.drop {H:Hp}{ts:List TL}{bs:Bs} (h:PT H ts bs) (n:Nat):PT H (ts.drop n) (bs.drop n):=⟨by rw[List.map_drop,List.map_drop,h.eq],fun t ht=>h.at_ t (List.mem_of_mem_drop ht)⟩
theorem B12.drop {bs:Bs} (h:B12 bs) (n:Nat):B12 (bs.drop n):=fun p hp=>h p (List.mem_of_mem_drop hp)
section
variable {P:Program}{w:World}{K:PySem.W.Frag}{mg:Str→Option Value}{base:Heap}
def qc6 (K:PySem.W.Frag):Sp:=fun vs H Q _=>∃ (a:Addr) (ns:List Int),vs=[.ref a]∧SqL K H a (ns.map V.int)∧ns.length≤63∧∀ H',Q (.bl true) H'
abbrev qb7:Stmt:=top 12
theorem sc_law:FnScope ["_law_script","_law_turn","_law_cell","_law_broken_here","_law_more","_law_one"] ["_law_script"] (yad qb7):=⟨rfl,rfl,rfl,by decide +kernel,rfl,by decide +kernel,by decide +kernel⟩
theorem ok_law (B:Bl mg) (yb7:Has P w K mg base 2 "_law_broken" ["_law_cell","_law_turn","_law_most"] qcm) (yci:Has P w K mg base 15 "_law_right" ["_law_broken_here"] ydc) {f:Addr}{fd:FuncData} (F:Fun K "law" "law" qb7 f fd):FnOk P w K mg base CX0 16 f fd ["_law_script"] (qc6 K):=by
 refine Fun.okQ F sc_law (fun vs H Q E h=>?_) (fun cdv A outer s H vs Q E hr h=>?_)
 ·obtain ⟨a,ns,rfl,_⟩:=h
  rfl
 ·obtain ⟨a,ns,rfl,hS,hnl,k⟩:=h
  have sc:=sc_law
  refine ⟨_,(yat rfl (qac (ybb PassesOwn.never rfl (qdg (yee rfl (B.of rfl) (yae (qbm qbz (ybd op_catS (pv 0) (qce (yae yac qak))) ybw (qbu yac)) qak))) (yco rfl (qao (yaf (i:=1) sc.nd rfl (Or.inl rfl)) (qao (yaf (i:=2) sc.nd rfl (Or.inl rfl)) qbn)))
    (qac (yam (i:=3) sc.nd rfl (Or.inr rfl) (yaj yb7 hr (yag (qab (pv 2)) (yag (qab (pv 1)) (yb2 (qab yac) qaf)))))
    (qac (yam (i:=4) sc.nd rfl (Or.inl rfl) (qam yb3 rfl (B.of rfl) qau (qa_bo (ya5 op_cat (qab (qbm qbz (pv 3) (qbu yac) ybw)) (qab (qcw rfl (ya8 rfl) (M:=["_law_one","_law_broken_here"]) (ix:=[none,some 3]) (yca (qce (yae (ydx (yae yac (yae yac qak))) qak))) (fun _ _ _ _=>(yaf (i:=0) (show List.Nodup (["_law_one","_law_broken_here"]:List Str) by decide +kernel) rfl (Or.inl rfl))) (fun _ _ _ _=>(yc2 (qbw (ycm hr) (pv 0) (qbm (sl_listK (K:=K) rfl) (pv 1) (qbu yac) ybw) (by with_unfolding_all rfl)))) (fun _ _ _ _=>(pv 0))))) qaf)))
    (qae (ybb PassesOwn.never rfl (yb9 (qb6 (yag (qab (pv 3)) (qc3 (qab (qbm qbz (pv 3) (qbu yac) ybw)) (yag (qab (pv 4)) (yag (qab (pv 3)) qaf)))))) (yaf (i:=5) sc.nd rfl (Or.inl rfl))
     (qae (qay (qa0 (qas (yaj yci hr (yag (qab (pv 5)) qaf))))
      (qae (qai (qab ya6)))
      qap)))))))
   (qae (qai (qab ya6))))),?_⟩
  refine ⟨_,rfl,(by show 1≤sizeLine;decide),fun c1 v1=>?_⟩
  refine ⟨a,c1,_,_,rfl,rfl,((Same.refl H).upd v1).seq hS,SqL.of yaa,yb1 (by simp;omega),fun c2 v2=>?_⟩
  refine ⟨20,rfl,c2,_,rfl,SqL.of yaa,fun c3 v3=>?_⟩
  obtain ⟨ms,hms,hml⟩:∃ ms:List Int,cutV (ns.map V.int++[.int 3]) none (some 20)=ms.map V.int∧ms.length≤20:=by
   refine ⟨(ns++[3]).take 20,?_,by rw[List.length_take];omega⟩
   rw[show (20:Int)=((20:Nat):Int) from rfl,yc9,List.map_take,List.map_append]
   rfl
  rw[hms]
  generalize hHa:upd (upd (upd H c1 _) c2 _) c3 (.lst (ms.map V.int))=Ha
  have fA:Ha c3=some (.lst (ms.map V.int)):=by rw[← hHa];exact yaa
  clear hHa
  refine ⟨c3,_,rfl,SqL.of fA,qc9 (xs:=ms.map V.int) (fun i σ H3=>∃ (o1 o2 o3 o4 o5:Option V),σ=[some (.ref a),o1,o2,o3,o4,o5]∧Same Ha H3) ⟨_,_,_,_,_,rfl,Same.refl _⟩ (fun i σ H3 _ ⟨_,_,_,_,_,_,s3⟩=>SqL.of (s3 _ _ fA)) ?_ (fun σ H3 _=>k _)⟩
  rintro i x pp σ H3 hx ⟨o1,o2,o3,o4,o5,rfl,s3⟩ hpp
  obtain ⟨c,hc,rfl⟩:=yds hx
  have hi20:i<ms.length:=(List.getElem?_eq_some_iff.mp hc).1
  refine ⟨pp,_,rfl,SqT.of yaa,rfl,_,_,rfl,_,_,rfl,rfl,?_⟩
  have sB:=s3.upd (o:=.tup [V.int i,.int c]) hpp
  revert sB
  generalize upd H3 pp (.tup [V.int i,.int c])=HB
  intro sB
  refine ⟨_,rfl,_,rfl,c,i,60,rfl,by omega,by omega,by omega,fun p ts bs HC sC' np ep hP h12 hbl=>?_⟩
  have sC:=sB.trans sC'
  clear sC' sB
  have hpl:=hP.len
  -- the other cells
  refine ⟨_,rfl,1,rfl,p,_,rfl,SqL.of ep,fun q1 n1=>?_⟩
  have cd:cutV (qad ts) (some 1) none=qad (ts.drop 1):=by rw[show (1:Int)=((1:Nat):Int) from rfl,cut_drop];unfold qad;rw[List.map_drop]
  rw[cd]
  have sD:=(Same.refl HC).upd (o:=.lst (qad (ts.drop 1))) n1
  have eq1:upd HC q1 (.lst (qad (ts.drop 1))) q1=some (.lst (qad (ts.drop 1))):=yaa
  revert sD eq1
  generalize upd HC q1 (.lst (qad (ts.drop 1)))=HD
  intro sD eq1
  refine ⟨(by show 2≤sizeLine;decide),fun t0 n0=>⟨(by show 1≤sizeLine;decide),fun q2 n2=>⟨q2,rfl,⟨_,SqL.of yaa⟩,?_⟩⟩⟩
  have sE:=((Same.refl HD).upd (o:=.tup [V.int 11,.int 11]) n0).upd (o:=.lst [.ref t0]) n2
  have et0:upd (upd HD t0 (.tup [V.int 11,.int 11])) q2 (.lst [.ref t0]) t0=some (.tup [V.int 11,.int 11]):=by rw[yab (qaa yaa n2)];exact yaa
  have eq2:upd (upd HD t0 (.tup [V.int 11,.int 11])) q2 (.lst [.ref t0]) q2=some (.lst [.ref t0]):=yaa
  revert sE et0 eq2
  generalize upd (upd HD t0 (.tup [V.int 11,.int 11])) q2 (.lst [.ref t0])=HE
  intro sE et0 eq2
  have sCE:=sD.trans sE
  refine fun D nD=>qbv (n:=1) (fun j H'=>∃ cs:List TL,Same HE H'∧H' D=some (.lst (qad cs))∧cs.length≤j∧∀ t∈cs,t=(t0,[11,11])) ⟨[],(Same.refl HE).upd nD,yaa,Nat.le_refl _,fun t ht=>by simp at ht⟩ ?_ ?_
  rotate_left
  ·rintro j H4 hj ⟨cs,s4,e4,cl,ce⟩
   have hj0:j=0:=by omega
   subst hj0
   refine ⟨⟨_,_,SqL.of (s4 _ _ eq2),rfl⟩,?_⟩
   rintro x H5 ⟨rfl,hx⟩
   have hx':=hx _ (SqL.of (s4 _ _ eq2))
   cases hx'
   refine ⟨yay.set (yay.refl _) rfl,?_⟩
   have sx:=sCE.trans s4
   refine ⟨_,rfl,_,rfl,1,rfl,p,_,rfl,SqL.of (sx _ _ ep),fun q3 n3=>?_⟩
   rw[cd]
   have s6:=(Same.refl H5).upd (o:=.lst (qad (ts.drop 1))) n3
   refine ⟨t0,q3,[11,11],ts.drop 1,rfl,rfl,s6 _ _ (s4 _ _ et0),yaa,fun t ht=>s6 _ _ (sx _ _ (hP.at_ t (List.mem_of_mem_drop ht))),_,rfl,?_⟩
   by_cases hin:([11,11]:List Int)∈(ts.drop 1).map (·.2)
   ·refine iteN (by rw[decide_eq_true hin];rfl) ⟨cs,s4.trans s6,s6 _ _ e4,by omega,ce⟩
   ·refine iteB (by rw[decide_eq_false hin];rfl) ⟨_,rfl,_,s6 _ _ e4,qa7 (by unfold qad;rw[List.length_map];omega),cs++[(t0,[11,11])],(s4.trans s6).at nD,?_,by rw[List.length_append,List.length_singleton];omega,fun t ht=>?_⟩
    ·rw[yaa];unfold qad;rw[List.map_append];rfl
    ·rcases List.mem_append.mp ht with z|z
     ·exact ce t z
     ·exact List.mem_singleton.mp z
  rintro HF ⟨cs,sF,eD,cl,ce⟩
  refine ⟨⟨_,SqL.of (sF _ _ eq2),by simp⟩,?_⟩
  have sCF:=sCE.trans sF
  refine ⟨q1,D,_,_,rfl,rfl,sF _ _ (sE _ _ eq1),eD,yb1 (by unfold qad;simp;omega),fun q4 n4=>?_⟩
  rw[show qad (ts.drop 1)++qad cs=qad (ts.drop 1++cs) by unfold qad;rw[List.map_append]]
  have sG:=(Same.refl HF).upd (o:=.lst (qad (ts.drop 1++cs))) n4
  have eq4:upd HF q4 (.lst (qad (ts.drop 1++cs))) q4=some (.lst (qad (ts.drop 1++cs))):=yaa
  revert sG eq4
  generalize upd HF q4 (.lst (qad (ts.drop 1++cs)))=HG
  intro sG eq4
  have sCG:=sCF.trans sG
  have hP1:PT HG (ts.drop 1++cs) (bs.drop 1++cs.map fun _=>(11,11)):=by
   refine ⟨?_,fun t ht=>?_⟩
   ·rw[List.map_append,List.map_append,(hP.drop 1).eq,List.map_map]
    congr 1
    refine List.map_congr_left fun t ht=>?_
    rw[ce t ht]
    rfl
   ·rcases List.mem_append.mp ht with z|z
    ·exact sCG _ _ (hP.at_ t (List.mem_of_mem_drop z))
    ·rw[ce t z];exact sG _ _ (sF _ _ et0)
  have h12':B12 (bs.drop 1++cs.map fun _=>(11,11)):=fun q hq=>by
   rcases List.mem_append.mp hq with z|z
   ·exact h12.drop 1 q z
   ·obtain ⟨_,_,rfl⟩:=List.mem_map.mp z
    exact ⟨⟨by decide,by decide⟩,by decide,by decide⟩
  have hbl':(bs.drop 1++cs.map fun _=>((11,11):Int×Int)).length≤61:=by rw[List.length_append,List.length_map,List.length_drop];omega
  have hl1:=hP1.len
  refine ⟨q4,ts.drop 1++cs,1,rfl,eq4,hP1.at_,okT_of hP1.eq h12',by omega,fun mo us nmo pm _=>?_⟩
  obtain ⟨bm,pm1,pm2⟩:=qeb (ts:=us) (bs:=bs.drop 1++cs.map fun _=>(11,11)) (by rw[← hP1.eq];exact pm.map _)
  have sH:=(Same.refl HG).upd (o:=.lst (qad us)) nmo
  have emo:upd HG mo (.lst (qad us)) mo=some (.lst (qad us)):=yaa
  revert sH emo
  generalize upd HG mo (.lst (qad us))=HH
  intro sH emo
  have sCH:=sCG.trans sH
  have hPm:PT HH us bm:=⟨pm2,fun t ht=>sH _ _ (hP1.at_ t (pm.mem_iff.mp ht))⟩
  have h12m:B12 bm:=fun q hq=>h12' q (pm1.mem_iff.mp hq)
  have hblm:bm.length≤61:=by rw[pm1.length_eq];exact hbl'
  -- each of the four
  refine ⟨_,rfl,_,rfl,1,rfl,p,_,rfl,SqL.of (sCH _ _ ep),fun q5 n5=>?_⟩
  rw[cd]
  have sI:=(Same.refl HH).upd (o:=.lst (qad (ts.drop 1))) n5
  have eq5:upd HH q5 (.lst (qad (ts.drop 1))) q5=some (.lst (qad (ts.drop 1))):=yaa
  revert sI eq5
  generalize upd HH q5 (.lst (qad (ts.drop 1)))=HI
  intro sI eq5
  have sCI:=sCH.trans sI
  refine ⟨_,rfl,_,rfl,(by show 4≤sizeLine;decide),fun q6 n6=>?_⟩
  have sJ:=(Same.refl HI).upd (o:=.lst [.ref p,.ref q5,.ref mo,.ref p]) n6
  have eq6:upd HI q6 (.lst [.ref p,.ref q5,.ref mo,.ref p]) q6=some (.lst [.ref p,.ref q5,.ref mo,.ref p]):=yaa
  revert sJ eq6
  generalize upd HI q6 (.lst [.ref p,.ref q5,.ref mo,.ref p])=HJ
  intro sJ eq6
  have sCJ:=sCI.trans sJ
  refine ⟨q6,rfl,⟨_,SqL.of eq6⟩,ybq (xs:=[V.ref p,.ref q5,.ref mo,.ref p]) (fun m σ HK=>∃ o5:Option V,σ=[some (.ref a),some (.int i),some (.int c),some (.ref p),some (.ref mo),o5]∧Same HJ HK) ⟨_,rfl,Same.refl _⟩ (fun m σ HK _ ⟨_,_,sK⟩=>SqL.of (sK _ _ eq6)) ?_ ?_⟩
  ·rintro m x σ HK hx ⟨o5',rfl,sK⟩
   have sCK:=sCJ.trans sK
   have go:∃ (y:Addr) (vs:List TL) (cs:Bs),x=.ref y∧HK y=some (.lst (qad vs))∧PT HK vs cs∧cs.length≤63∧B12 cs:=by
    have one:HK p=some (.lst (qad ts))∧PT HK ts bs∧bs.length≤63∧B12 bs:=⟨sCK _ _ ep,hP.same sCK,by omega,h12⟩
    match m,hx with
    | 0,hx=>cases hx;exact ⟨p,ts,bs,rfl,one⟩
    | 1,hx=>cases hx;exact ⟨q5,ts.drop 1,bs.drop 1,rfl,sK _ _ (sJ _ _ eq5),(hP.drop 1).same sCK,by rw[List.length_drop];omega,h12.drop 1⟩
    | 2,hx=>cases hx;exact ⟨mo,us,bm,rfl,sK _ _ (sJ _ _ (sI _ _ emo)),hPm.same ((sI.trans sJ).trans sK),by omega,h12m⟩
    | 3,hx=>cases hx;exact ⟨p,ts,bs,rfl,one⟩
    | (_+4),hx=>simp at hx
   obtain ⟨y,vs,cs',rfl,g1,g2,g3,g4⟩:=go
   exact ⟨_,rfl,y,vs,cs',rfl,g1,g2,g3,g4,fun HL sL=>⟨_,rfl,iteN rfl ⟨_,rfl,sK.trans sL⟩⟩⟩
  ·rintro σ HK ⟨o5',rfl,sK⟩
   exact ⟨_,_,_,_,_,rfl,(sC.trans sCJ).trans sK⟩
end
end Mc
namespace Mc
open PySem L2 PyProof.Rows
theorem fnAt_mk {K:PySem.W.Frag}{h:Heap}{mg:Str→Option Value}{x:Str}{st:Stmt}{ps:List Str}{f:Addr}{oc:Value}{od an:Option Addr}{osl:Array (Option Value)}{kV doc pm cdv ct:Value} (X:K.In h) (G:h.Ns mainGlobals mg)
  (a:PySem.W.nsIn K mainGlobals x=some (some (.ref f))) (l:K.lookup f=some ⟨oc,od,.func (PySem.W.fnOf x x (qa3 st) (yaq st) (yad st) .none kV doc pm an cdv ct),osl⟩) (c:PySem.W.codeIn K cdv x=true) (k:PySem.W.keepIn K (.ref f)=true)
  (hb:∀ (kV doc pm:Value) (an:Option Addr) (cdv ct:Value) (us:List Value),us.length=ps.length→bindArgs (PySem.W.fnOf x x (qa3 st) (yaq st) (yad st) .none kV doc pm an cdv ct) ⟨us,[]⟩=pure (ps.zip us)):FnAt K mg x st ps:=by
 have F:=fun_mk (st:=st) l c k
 exact ⟨f,_,PySem.W.mg_of X G a,F,F.binds hb⟩
def FnP (K:PySem.W.Frag) (x:Str) (st:Stmt):Prop:=∃ (f:Addr) (oc:Value) (od an:Option Addr) (sl:Array (Option Value)) (kV dc pm cd ct:Value),PySem.W.nsIn K mainGlobals x=some (some (.ref f))∧K.lookup f=some ⟨oc,od,.func (PySem.W.fnOf x x (qa3 st) (yaq st) (yad st) .none kV dc pm an cd ct),sl⟩∧PySem.W.codeIn K cd x=true∧PySem.W.keepIn K (.ref f)=true
theorem FnP.at {K:PySem.W.Frag}{h:Heap}{mg:Str→Option Value}{x:Str}{st:Stmt}{ps:List Str} (p:FnP K x st) (X:K.In h) (G:h.Ns mainGlobals mg)
  (hb:∀ (kV doc pm:Value) (an:Option Addr) (cdv ct:Value) (us:List Value),us.length=ps.length→bindArgs (PySem.W.fnOf x x (qa3 st) (yaq st) (yad st) .none kV doc pm an cdv ct) ⟨us,[]⟩=pure (ps.zip us)):FnAt K mg x st ps:=by
 obtain ⟨f,oc,od,an,sl,kV,dc,pm,cd,ct,a,l,c,k⟩:=p
 exact fnAt_mk X G a l c k hb
set_option maxHeartbeats 0 in
theorem all_mk {l:PySem.W.OpenLaw}{w:World}{K:PySem.W.Frag}{h:Heap}{mg:Str→Option Value}{fa:Addr} (X:K.In h) (G:h.Ns mainGlobals mg) (hfa:mg "law" = some (.ref fa))
  (p0:FnP K "lines_by_row" qat)
  (p1:FnP K "finds_line" ya0)
  (p2:FnP K "fewest" qbs)
  (p3:FnP K "_law_digits" yav)
  (p4:FnP K "_law_broken" yau)
  (p5:FnP K "_law_is_whole" qar)
  (p6:FnP K "_law_are_numbers" yal)
  (p7:FnP K "_law_covers" qav)
  (p8:FnP K "_law_are_cells" yao)
  (p9:FnP K "_law_right" yaz)
  {f10:Addr}{od10 an10:Option Addr}{sl10:Array (Option Value)}{oc10 kV10 dc10 pm10 cd10 ct10:Value}
  (a10:PySem.W.nsIn K mainGlobals "law" = some (some (.ref f10)))
  (l10:K.lookup f10=some ⟨oc10,od10,.func (PySem.W.fnOf "law" "law" (qa3 qb7) (yaq qb7) (yad qb7) .none kV10 dc10 pm10 an10 cd10 ct10),sl10⟩)
  (c10:PySem.W.codeIn K cd10 "law" = true)
  (k10:PySem.W.keepIn K (.ref f10)=true)
  (z0:PySem.W.nsIn K mainGlobals "len" = some none)
  (z1:PySem.W.nsIn K mainGlobals "abs" = some none)
  (z2:PySem.W.nsIn K mainGlobals "max" = some none)
  (z3:PySem.W.nsIn K mainGlobals "min" = some none)
  (z4:PySem.W.nsIn K mainGlobals "repr" = some none)
  (z5:PySem.W.nsIn K mainGlobals "isinstance" = some none)
  (z6:PySem.W.nsIn K mainGlobals "int" = some none)
  (z7:PySem.W.nsIn K mainGlobals "bool" = some none)
  (z8:PySem.W.nsIn K mainGlobals "str" = some none)
  (z9:PySem.W.nsIn K mainGlobals "tuple" = some none)
  (z10:PySem.W.nsIn K mainGlobals "list" = some none)
  (z11:PySem.W.nsIn K mainGlobals "dict" = some none)
  (z12:PySem.W.nsIn K mainGlobals "range" = some none)
  (z13:PySem.W.nsIn K mainGlobals "enumerate" = some none)
  (z14:PySem.W.nsIn K mainGlobals "sorted" = some none)
  (z15:PySem.W.nsIn K mainGlobals "sum" = some none) :
  ∃ fd:FuncData,(∀ (s:Shared) (v:Value),BindsTo s fd ⟨[v],[]⟩ [("_law_script",v)])∧∀ base:Heap,K.In base→base.Ns mainGlobals mg→FnOk l.prog w K mg base CX0 16 fa fd ["_law_script"] (qc6 K):=by
 have e:=hfa.symm.trans (PySem.W.mg_of X G a10)
 cases e
 have B:Bl mg:=⟨fun x hx=>by
  unfold qcy at hx
  simp only[List.mem_cons,List.not_mem_nil,or_false] at hx
  rcases hx with rfl|rfl|rfl|rfl|rfl|rfl|rfl|rfl|rfl|rfl|rfl|rfl|rfl|rfl|rfl|rfl
  ·exact PySem.W.mg_none_of X G z0
  ·exact PySem.W.mg_none_of X G z1
  ·exact PySem.W.mg_none_of X G z2
  ·exact PySem.W.mg_none_of X G z3
  ·exact PySem.W.mg_none_of X G z4
  ·exact PySem.W.mg_none_of X G z5
  ·exact PySem.W.mg_none_of X G z6
  ·exact PySem.W.mg_none_of X G z7
  ·exact PySem.W.mg_none_of X G z8
  ·exact PySem.W.mg_none_of X G z9
  ·exact PySem.W.mg_none_of X G z10
  ·exact PySem.W.mg_none_of X G z11
  ·exact PySem.W.mg_none_of X G z12
  ·exact PySem.W.mg_none_of X G z13
  ·exact PySem.W.mg_none_of X G z14
  ·exact PySem.W.mg_none_of X G z15⟩
 have F0:FnAt K mg "lines_by_row" qat ["broken"]:=p0.at X G fun _ _ _ _ _ _ us hl=>match us,hl with | [_],_=>rfl
 have F1:FnAt K mg "finds_line" ya0 ["by_row","partners","tried","row"]:=p1.at X G fun _ _ _ _ _ _ us hl=>match us,hl with | [_,_,_,_],_=>rfl
 have F2:FnAt K mg "fewest" qbs ["broken"]:=p2.at X G fun _ _ _ _ _ _ us hl=>match us,hl with | [_],_=>rfl
 have F3:FnAt K mg "_law_digits" yav ["_law_cell","_law_turn","_law_sizes"]:=p3.at X G fun _ _ _ _ _ _ us hl=>match us,hl with | [_,_,_],_=>rfl
 have F4:FnAt K mg "_law_broken" yau ["_law_cell","_law_turn","_law_most"]:=p4.at X G fun _ _ _ _ _ _ us hl=>match us,hl with | [_,_,_],_=>rfl
 have F5:FnAt K mg "_law_is_whole" qar ["_law_thing"]:=p5.at X G fun _ _ _ _ _ _ us hl=>match us,hl with | [_],_=>rfl
 have F6:FnAt K mg "_law_are_numbers" yal ["_law_thing","_law_most"]:=p6.at X G fun _ _ _ _ _ _ us hl=>match us,hl with | [_,_],_=>rfl
 have F7:FnAt K mg "_law_covers" qav ["_law_broken_here","_law_rows","_law_lines"]:=p7.at X G fun _ _ _ _ _ _ us hl=>match us,hl with | [_,_,_],_=>rfl
 have F8:FnAt K mg "_law_are_cells" yao ["_law_broken_here","_law_cells"]:=p8.at X G fun _ _ _ _ _ _ us hl=>match us,hl with | [_,_],_=>rfl
 have F9:FnAt K mg "_law_right" yaz ["_law_broken_here"]:=p9.at X G fun _ _ _ _ _ _ us hl=>match us,hl with | [_],_=>rfl
 have FL:=fun_mk (st:=qb7) l10 c10 k10
 refine ⟨PySem.W.fnOf "law" "law" (qa3 qb7) (yaq qb7) (yad qb7) .none kV10 dc10 pm10 an10 cd10 ct10,fun s v=>.of_eq rfl,fun base _ _=>?_⟩
 have h0:=ok_lbr (P:=l.prog) (w:=w) (base:=base) F0
 have h1:=(fun F=>yc6 (P:=l.prog) (w:=w) (base:=base) F 13) F1
 have h2:=qdn B h0 h1 F2
 have h3:=qd9 (P:=l.prog) (w:=w) (base:=base) B F3
 have h4:=qdv B h3 F4
 have h5:=ok_whole (P:=l.prog) (w:=w) (base:=base) B F5
 have h6:=ok_nums B h5 F6
 have h7:=qdy (P:=l.prog) (w:=w) (base:=base) B F7
 have h8:=ok_cells B h5 F8
 have h9:=ok_right B h2 h6 h7 h8 F9
 exact ok_law B h4 h9 FL
theorem walk {l:PySem.W.OpenLaw}{q:Program}{loose:List Str}{XP:(Str→Option Value)→Heap→Prop}{YP:World→Heap→Prop}{d:DefRec}{K:Params→PySem.W.Frag} (hn:l.most=some 63) (hdf:d.params.defaults=[])
  (hY:∀ (w:World) (h:Heap),YP w h→(K w.params).In h)
  (F:∀ (w:World) (mg:Str→Option Value) (fa:Addr) (h:Heap),(K w.params).In h→h.Ns mainGlobals mg→mg d.name=some (.ref fa)→
   ∃ fd:FuncData,(∀ (s:Shared) (u:Value),BindsTo s fd ⟨[u],[]⟩ [("_law_script",u)])∧∀ base:Heap,(K w.params).In base→base.Ns mainGlobals mg→FnOk l.prog w (K w.params) mg base CX0 16 fa fd ["_law_script"] (qc6 (K w.params))) :
  PySem.W.WalkO q loose XP YP l.row.toRowW d [] (fun f vs=>PySem.call f vs):=
 L2.walk_of (n:=63) (k:=16) (x:="_law_script") (CX:=fun _=>CX0) (sp:=fun w=>qc6 (K w.params)) hn (by decide) hdf ⟨rfl,by decide,by decide,rfl⟩ hY F (fun _ _ a ns hl _ hS=>⟨a,ns,rfl,hS,hl,fun _=>rfl⟩) fun _ _ _ _ _ z=>z
end Mc
def PySem.W.Fast.tw6201665229706204886:Nat:=0
def PySem.W.Fast.tw5868680011615353599:=PySem.Challenge.pw_marchmend_k45_fewest_covers
theorem PySem.W.Fast.te5868680011615353599:PySem.Challenge.pw_marchmend_k45_fewest_covers=PySem.W.Fast.tw5868680011615353599:=rfl
def PySem.W.Fast.tw18008485812047756667:Nat:=0
def PySem.W.Fast.tw17651287924494041367:Nat:=0
def PySem.W.Fast.tw12415844985675828991:Nat:=0
def PySem.W.Fast.tw2965674415308910392:Nat:=0
def PySem.W.Fast.tw11571216272264092306:Nat:=0
def PySem.W.Fast.tw15738859075885197189:Nat:=0
def PySem.W.Fast.tw10521447906652094752:Nat:=0
def PySem.W.Fast.tw10683075675868539170:Nat:=0
def PySem.W.Fast.tw12858236283818526570:Nat:=0
def PySem.W.Fast.tw10084283716915775144:Nat:=0
def PySem.W.Fast.tw2268448120653595677:Nat:=0
def PySem.W.Fast.tw15854197060961461215:Nat:=0
def PySem.W.Fast.tw4292357576231000519:Nat:=0
def PySem.W.Fast.tw15646472580861265955:Nat:=0
def PySem.W.Fast.tw13643533814460986771:Nat:=0
def PySem.W.Fast.tw13683128445858496848:Nat:=0
def PySem.W.Fast.tw4139565277506034610:Nat:=0
def PySem.W.Fast.tw8406588526067191603:Nat:=0
def PySem.W.Fast.tw6343823244777586077:Nat:=0
def PySem.W.Fast.tw14723340570262593757:Nat:=0
def PySem.W.Fast.tw11156695743567390394:Nat:=0
def PySem.W.Fast.tw1395397018056007460:Nat:=0
def PySem.W.Fast.tw8204575286937481399:Nat:=0
open PySem PySem.W PyProof.Rows
set_option maxRecDepth 100000 in
set_option maxHeartbeats 0 in
theorem PySem.Challenge.cw_marchmend_k45_fewest_covers_holds : PySem.Challenge.rw_marchmend_k45_fewest_covers.Holds := by
  w_on; o_law; k_head; (case hw=>w_witness2)
  k_fill
  refine Mc.walk (l:=PySem.Challenge.rw_marchmend_k45_fewest_covers) rfl rfl (fun w h Y=>PySem.W.kIn_of Y) ?F
  case F=>
    intro w mg fa h KX G hmg
    refine' Mc.all_mk KX G hmg ?p0 ?p1 ?p2 ?p3 ?p4 ?p5 ?p6 ?p7 ?p8 ?p9 ?a10 ?l10 ?c10 ?k10 ?z0 ?z1 ?z2 ?z3 ?z4 ?z5 ?z6 ?z7 ?z8 ?z9 ?z10 ?z11 ?z12 ?z13 ?z14 ?z15
    (case p0=>exact ⟨_,_,_,_,_,_,_,_,_,_,by k_is,by k_is,by k_is,by k_is⟩)
    (case p1=>exact ⟨_,_,_,_,_,_,_,_,_,_,by k_is,by k_is,by k_is,by k_is⟩)
    (case p2=>exact ⟨_,_,_,_,_,_,_,_,_,_,by k_is,by k_is,by k_is,by k_is⟩)
    (case p3=>exact ⟨_,_,_,_,_,_,_,_,_,_,by k_is,by k_is,by k_is,by k_is⟩)
    (case p4=>exact ⟨_,_,_,_,_,_,_,_,_,_,by k_is,by k_is,by k_is,by k_is⟩)
    (case p5=>exact ⟨_,_,_,_,_,_,_,_,_,_,by k_is,by k_is,by k_is,by k_is⟩)
    (case p6=>exact ⟨_,_,_,_,_,_,_,_,_,_,by k_is,by k_is,by k_is,by k_is⟩)
    (case p7=>exact ⟨_,_,_,_,_,_,_,_,_,_,by k_is,by k_is,by k_is,by k_is⟩)
    (case p8=>exact ⟨_,_,_,_,_,_,_,_,_,_,by k_is,by k_is,by k_is,by k_is⟩)
    (case p9=>exact ⟨_,_,_,_,_,_,_,_,_,_,by k_is,by k_is,by k_is,by k_is⟩)
    (case a10=>k_is)
    (case l10=>k_is)
    (case c10=>k_is)
    (case k10=>k_is)
    (case z0=>k_is)
    (case z1=>k_is)
    (case z2=>k_is)
    (case z3=>k_is)
    (case z4=>k_is)
    (case z5=>k_is)
    (case z6=>k_is)
    (case z7=>k_is)
    (case z8=>k_is)
    (case z9=>k_is)
    (case z10=>k_is)
    (case z11=>k_is)
    (case z12=>k_is)
    (case z13=>k_is)
    (case z14=>k_is)
    (case z15=>k_is)
#print axioms PySem.Challenge.cw_marchmend_k45_fewest_covers_holds
