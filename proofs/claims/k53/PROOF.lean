import PyProof.Rows.All
import Wide.All
import OpenK.AllK
import Wide.FinOn
import Lean
import PyProof.EqAt
import PyProof.EqKinds
import PyProof.TupleCall
import PyProof.StrLawsTight
import PyProof.Rows.StrJoin2
import PyProof.Rows.StrSplitJoin
import KE.KTab
import PyProof.ZipIter
import PyProof.Rows.TupIter
import PyProof.Rows.SortWalk
import PyProof.Rows.SortStr
import PyProof.ConsumeWalk
import KE.KRevSl
import KE.KTryMore
import PyProof.NsDelKeeps
import PyProof.NeKinds
import KE.KIntText
import PyProof.SetKind
import PyProof.SetRoads
import PyProof.Rows.SetFrom
import PyProof.CollectWalk
import PyProof.CollectIter
import PyProof.Rows.SortShell
import PyProof.Rows.MinMaxN
import KE.RegKTryMore
import PySem.Challenge.RW_marchmend_k53_no_mended
set_option Elab.async false
set_option linter.all false
set_option maxRecDepth 100000
namespace L2
open PySem PySem.Spec PyProof.Rows
abbrev Key:=Sum Int Str
def yis:Key→Value→Bool
  | .inl k,v=>Value.isInt k v
  | .inr x,v=>Value.isStrOf x v
def keyH (w:World):Key→Int
  | .inl k=>hashInt k
  | .inr x=>hashStr w x
theorem ybb:∀ {k:Key} {v:Value},yis k v=true→(∃ i t,k=Sum.inl i∧v=Value.int i t)∨(∃ x t,k=Sum.inr x∧v=Value.str x t)
  | .inl i,v,h=>by
    obtain ⟨t,e⟩:=Value.isInt_shape (k:=i) (v:=v) h
    exact .inl ⟨i,t,rfl,e⟩
  | .inr x,v,h=>by
    obtain ⟨t,e⟩:=Value.isStrOf_shape (x:=x) (v:=v) h
    exact .inr ⟨x,t,rfl,e⟩
theorem qjz (i:Int) (t:Tok):yis (.inl i) (.int i t)=true:=by simp [yis,Value.isInt]
theorem qkh (x:Str) (t:Tok):yis (.inr x) (.str x t)=true:=by simp [yis,Value.isStrOf]
theorem key_ll (a b:Int):decide ((Sum.inl a:Key)=Sum.inl b)=(a == b):=by
  by_cases e:a=b
  · subst e; simp
  · have h:¬ (Sum.inl a:Key)=Sum.inl b:=fun q=>e (Sum.inl.inj q)
    rw [decide_eq_false h]
    exact (beq_eq_false_iff_ne.mpr e).symm
theorem key_rr (a b:Str):decide ((Sum.inr a:Key)=Sum.inr b)=decide (a=b):=by
  by_cases e:a=b
  · subst e; simp
  · have h:¬ (Sum.inr a:Key)=Sum.inr b:=fun q=>e (Sum.inr.inj q)
    rw [decide_eq_false h,decide_eq_false e]
theorem key_lr (a:Int) (b:Str):decide ((Sum.inl a:Key)=Sum.inr b)=false:=decide_eq_false (fun q=>nomatch q)
theorem key_rl (a:Str) (b:Int):decide ((Sum.inr a:Key)=Sum.inl b)=false:=decide_eq_false (fun q=>nomatch q)
def qbq (prog:Program) (w:World):PySem.KeyKind prog w Key where
  is:=yis
  hash:=keyH w
  inj:=fun v a b ha hb=>by
    rcases ybb ha with ⟨i,t,rfl,rfl⟩ | ⟨x,t,rfl,rfl⟩
    · rcases ybb hb with ⟨j,u,rfl,e⟩ | ⟨y,u,rfl,e⟩
      · injection e with e1 _; rw [e1]
      · exact nomatch e
    · rcases ybb hb with ⟨j,u,rfl,e⟩ | ⟨y,u,rfl,e⟩
      · exact nomatch e
      · injection e with e1 _; rw [e1]
  byValue:=fun k v h=>by
    rcases ybb h with ⟨i,t,rfl,rfl⟩ | ⟨x,t,rfl,rfl⟩ <;> rfl
  pyHash:=fun hv h=>by
    rcases ybb hv with ⟨i,t,rfl,rfl⟩ | ⟨x,t,rfl,rfl⟩
    · exact wpAny_pyHash_int h
    · exact wpAny_pyHash_str h
  eqBool:=fun hu hv h=>by
    rcases ybb hu with ⟨i,t,rfl,rfl⟩ | ⟨x,t,rfl,rfl⟩
    · rcases ybb hv with ⟨j,u,rfl,rfl⟩ | ⟨y,u,rfl,rfl⟩
      · rw [key_ll] at h; exact wpAny_eqBool_int h
      · rw [key_lr] at h; exact SeqAt.EqAt.int_str i t y u _ _ _ _ h
    · rcases ybb hv with ⟨j,u,rfl,rfl⟩ | ⟨y,u,rfl,rfl⟩
      · rw [key_rl] at h; exact SeqAt.EqAt.str_int x t j u _ _ _ _ h
      · rw [key_rr] at h; exact wpAny_eqBool_str h
  «strs»:=fun k x t v h=>by
    rcases ybb h with ⟨i,u,rfl,e⟩ | ⟨y,u,rfl,e⟩
    · exact nomatch e
    · injection e with e1 _
      subst e1
      cases v <;> rfl
theorem yhy (prog:Program) (w:World) (i:Int) (t:Tok):(qbq prog w).is (.inl i) (.int i t)=true:=qjz i t
theorem qhj (prog:Program) (w:World) (x:Str) (t:Tok):(qbq prog w).is (.inr x) (.str x t)=true:=qkh x t
end L2
namespace L2
open PySem PySem.Spec PyProof.Rows
inductive V where
  | non | bl (b:Bool) | int (i:Int) | str (x:Str) | byt (b:Array UInt8) | flt (b:UInt64) | ref (a:Addr) | ty (n:String)
  deriving DecidableEq
def RelV:V→Value→Prop
  | .non,u=>u=Value.none
  | .bl b,u=>u=Value.bool b
  | .int i,u=>∃ t,u=Value.int i t
  | .str x,u=>∃ t,u=Value.str x t
  | .byt b,u=>∃ t,u=Value.bytes b t
  | .flt b,u=>∃ t,u=Value.float b t
  | .ref a,u=>u=Value.ref a
  | .ty n,u=>u=Value.type n
abbrev Vals:List V→List Value→Prop:=Paired RelV
theorem Vals.length {xs:List V} {us:List Value} (r:Vals xs us):xs.length=us.length:=Paired.length r
theorem Vals.get:∀ {xs:List V} {us:List Value} {i:Nat} {x:V},Vals xs us→xs[i]?=some x→∃ u,us[i]?=some u∧RelV x u
  | _,_,_,_,.nil,e=>by simp at e
  | _,_,0,_,.cons r _,e=>by simp at e; subst e; exact ⟨_,rfl,r⟩
  | _,_,i + 1,x,.cons _ t,e=>by
    obtain ⟨u,h1,h2⟩:=Vals.get (i:=i) (x:=x) t (by simpa using e)
    exact ⟨u,by simpa using h1,h2⟩
theorem Vals.set {x:V} {u:Value} (r:RelV x u):∀ {xs:List V} {us:List Value} (i:Nat),Vals xs us→Vals (xs.set i x) (us.set i u)
  | _,_,_,.nil=>.nil
  | _,_,0,.cons _ t=>.cons r t
  | _,_,i + 1,.cons q t=>.cons q (Vals.set r i t)
theorem Vals.append:∀ {xs ys:List V} {us ws:List Value},Vals xs us→Vals ys ws→Vals (xs++ys) (us++ws)
  | _,_,_,_,.nil,s=>s
  | _,_,_,_,.cons r t,s=>.cons r (Vals.append t s)
theorem Vals.take:∀ {xs:List V} {us:List Value} (n:Nat),Vals xs us→Vals (xs.take n) (us.take n)
  | _,_,0,_=>.nil
  | _,_,_ + 1,.nil=>.nil
  | _,_,n + 1,.cons r t=>.cons r (Vals.take n t)
theorem Vals.drop:∀ {xs:List V} {us:List Value} (n:Nat),Vals xs us→Vals (xs.drop n) (us.drop n)
  | _,_,0,r=>r
  | _,_,_ + 1,.nil=>.nil
  | _,_,n + 1,.cons _ t=>Vals.drop n t
def RelO:Option V→Option Value→Prop
  | some v,some u=>RelV v u
  | none,none=>True
  | _,_=>False
def KV {κ:Type}:List (κ×V)→List (κ×Value)→Prop:=Paired fun (p:κ×V) (q:κ×Value)=>p.1=q.1∧RelV p.2 q.2
def kV:Key→V
  | .inl i=>.int i
  | .inr x=>.str x
inductive HO where
  /-- a list -/
  | lst (xs:List V)
  /-- a tuple (never changes) -/
  | tup (xs:List V)
  /-- a dict whose keys are ints and texts; one whose keys are tuples of ints and texts (the empty one is both) -/
  | dK (kvs:List (Key×V)) | dT (kvs:List (List Key×V))
  /-- a set of ints: its members,its size -/
  | set (S:Int→Bool) (n:Nat)
  /-- an instance of the class at C,its dict at dx,its attributes -/
  | ins (C dx:Addr) (fs:List (Str×V))
  /-- the dict of the instance at x -/
  | own (x:Addr)
  /-- the dict of an exception -/
  | xd (fs:List (Str×V))
  /-- a bound method,f of x -/
  | met (f x:Addr)
  /-- a range object lo,lo + 1,.. below hi -/
  | rng (lo hi:Int)
  /-- a thing that is known to the object (the script; a dict while a loop walks it): read,never written while it is so -/
  | frz (o:Obj) (u:HO)
  /-- a code object's table -/
  | tbl (ps:Array Value)
  /-- any other thing,by what is true of its one object (a def of one's own: SetO a S n:=HO.ext fun h=>..) -/
  | ext (φ:Heap→Prop)
abbrev Hp:=Addr→Option HO
def upd (H:Hp) (a:Addr) (o:HO):Hp:=fun b=>if b=a then some o else H b
theorem qab {H:Hp} {a:Addr} {o:HO}:upd H a o a=some o:=by unfold upd; rw [if_pos rfl]
theorem qaf {H:Hp} {a b:Addr} {o:HO} (h:b≠a):upd H a o b=H b:=by unfold upd; rw [if_neg h]
theorem qd6 {H:Hp} {a:Addr} {o u:HO}:upd (upd H a o) a u=upd H a u:=by
  funext b; unfold upd; split <;> rfl
theorem ne_of {H:Hp} {a b:Addr} {o u:HO} (h:H a=some o) (h':H b=some u) (d:o≠u):a≠b:=by
  intro e; subst e; rw [h] at h'; exact d (Option.some.inj h')
theorem qah {H:Hp} {a b:Addr} {o:HO} (h:H a=some o) (h':H b=none):a≠b:=by
  intro e; subst e; rw [h] at h'; cases h'
section
variable (P:Program) (w:World)
def ybc (H:Hp) (h:Heap) (a:Addr):HO→Prop
  | .lst xs=>xs.length≤sizeLine∧∃ (its:List Value) (n:Nat),Vals xs its∧h.get? a=some { cls:=.type "list",data:=.seq its.toArray n }
  | .tup xs=>xs.length≤sizeLine∧∃ its:List Value,Vals xs its∧IsTup h a its.toArray
  | .dK kvs=>kvs.length≤sizeLine∧(a == sysModules)=false∧∃ vs,KV kvs vs∧h.DictOf (qbq P w) a vs
  | .dT kvs=>kvs.length≤sizeLine∧(a == sysModules)=false∧∃ xs:List (List Key×Addr×Value),
      Paired (fun (p:List Key×V) (q:List Key×Addr×Value)=>p.1=q.1∧H q.2.1=some (.tup (p.1.map kV))∧RelV p.2 q.2.2) kvs xs∧
      ∃ o es ep,h.get? a=some o∧o.ExactDict∧o.data=.dict es ep∧es.toList=xs.map (entryOfKey (tupleKind (qbq P w)))∧(xs.map (·.1)).Nodup
  | .set S n=>h.SetOf (intKind P w) a S n
  | .ins C dx fs=>H dx=some (.own a)∧fs.length≤1000∧dx≠a∧h.get? a=some (PySem.W.instObj C dx)∧
      ∃ mA,h.Ns1 dx mA∧(∀ f,RelO (fs.lookup f) (mA f))∧PySem.Within mA (fs.map (·.1))
  | .own _=>∃ o,h.get? a=some o
  | .xd fs=>∃ mA,h.Ns1 a mA∧∀ f,RelO (fs.lookup f) (mA f)
  | .rng lo hi=>∃ t u v,h.get? a=some { cls:=.type "range",data:=.fields #[.int lo t,.int hi u,.int 1 v] }
  | .frz o u=>h.get? a=some o∧ybc H h a u
  | .tbl ps=>h.get? a=some { cls:=.none,data:=.fields ps }
  | .met f x=>h.get? a=some (PySem.W.methodObj (.ref f) (.ref x))
  | .ext φ=>φ h∧(∃ o,h.get? a=some o)∧∀ h1 h2:Heap,φ h1→(∀ o,h1.get? a=some o→h2.get? a=some o)→φ h2
def HOk (H:Hp) (h:Heap):Prop:=∀ a o,H a=some o→ybc P w H h a o
end
section
variable {P:Program} {w:World} {H H':Hp} {h h':Heap} {a:Addr} {o:HO}
theorem ybc.lt (x:ybc P w H h a o):a < h.objs.size:=by
  cases o with
  | lst xs=>obtain ⟨_,_,_,_,e⟩:=x; exact Heap.lt_size e
  | tup xs=>obtain ⟨_,_,_,p⟩:=x; exact p.lt
  | dK kvs=>obtain ⟨_,_,_,_,o,_,_,e,_⟩:=x; exact Heap.lt_size e
  | dT kvs=>obtain ⟨_,_,_,_,o,_,_,e,_⟩:=x; exact Heap.lt_size e
  | set S n=>obtain ⟨o,_,_,_,e,_⟩:=x; exact Heap.lt_size e
  | ins C dx fs=>obtain ⟨_,_,_,e,_⟩:=x; exact Heap.lt_size e
  | own y=>obtain ⟨_,e⟩:=x; exact Heap.lt_size e
  | xd fs=>obtain ⟨_,⟨_,_,_,e,_⟩,_⟩:=x; exact Heap.lt_size e
  | rng lo hi=>obtain ⟨_,_,_,e⟩:=x; exact Heap.lt_size e
  | frz ob u=>obtain ⟨e,_⟩:=x; exact Heap.lt_size e
  | tbl ps=>exact Heap.lt_size (show h.get? a=some _ from x)
  | met f y=>exact Heap.lt_size (show h.get? a=some _ from x)
  | ext φ=>obtain ⟨_,⟨_,e⟩,_⟩:=x; exact Heap.lt_size e
theorem Paired.mapP {α β:Type} {F G:α→β→Prop}:∀ {l₁:List α} {l₂:List β},Paired F l₁ l₂→(∀ a b,F a b→G a b)→Paired G l₁ l₂
  | _,_,.nil,_=>.nil
  | _,_,.cons r t,f=>.cons (f _ _ r) (Paired.mapP t f)
theorem ybc.stay (x:ybc P w H h a o) (k:∀ b u,(b=a∨H b=some (.own a))→h.get? b=some u→h'.get? b=some u)
    (ho:∀ b,H b=some (.own a)→H' b=some (.own a)) (ht:∀ b xs,H b=some (.tup xs)→H' b=some (.tup xs)):ybc P w H' h' a o:=by
  induction o with
  | lst xs=>obtain ⟨z,its,n,r,e⟩:=x; exact ⟨z,its,n,r,k _ _ (.inl rfl) e⟩
  | tup xs=>obtain ⟨z,its,r,ob,e,c⟩:=x; exact ⟨z,its,r,ob,k _ _ (.inl rfl) e,c⟩
  | dK kvs=>obtain ⟨z,y,vs,r,ob,es,ep,e,c⟩:=x; exact ⟨z,y,vs,r,ob,es,ep,k _ _ (.inl rfl) e,c⟩
  | dT kvs=>
    obtain ⟨z,y,xs,r,ob,es,ep,e,c⟩:=x
    exact ⟨z,y,xs,Paired.mapP r fun p q z=>⟨z.1,ht _ _ z.2.1,z.2.2⟩,ob,es,ep,k _ _ (.inl rfl) e,c⟩
  | set S n=>obtain ⟨ob,es,ep,t,e,c⟩:=x; exact ⟨ob,es,ep,t,k _ _ (.inl rfl) e,c⟩
  | ins C dx fs=>
    obtain ⟨d,z,ne,e,mA,⟨od,es,ep,e2,c⟩,r⟩:=x
    exact ⟨ho _ d,z,ne,k _ _ (.inl rfl) e,mA,⟨od,es,ep,k _ _ (.inr d) e2,c⟩,r⟩
  | own y=>obtain ⟨ob,e⟩:=x; exact ⟨ob,k _ _ (.inl rfl) e⟩
  | xd fs=>obtain ⟨mA,⟨od,es,ep,e,c⟩,r⟩:=x; exact ⟨mA,⟨od,es,ep,k _ _ (.inl rfl) e,c⟩,r⟩
  | rng lo hi=>obtain ⟨t,u,v,e⟩:=x; exact ⟨t,u,v,k _ _ (.inl rfl) e⟩
  | frz ob u ih=>obtain ⟨e,q⟩:=x; exact ⟨k _ _ (.inl rfl) e,ih q⟩
  | tbl ps=>
    have e:h.get? a=some { cls:=.none,data:=.fields ps }:=x
    show h'.get? a=some { cls:=.none,data:=.fields ps }
    exact k a _ (.inl rfl) e
  | met f y=>
    have e:h.get? a=some (PySem.W.methodObj (.ref f) (.ref y)):=x
    show h'.get? a=some (PySem.W.methodObj (.ref f) (.ref y))
    exact k a _ (.inl rfl) e
  | ext φ=>obtain ⟨p,⟨o,e⟩,st⟩:=x; exact ⟨st _ _ p fun o q=>k _ _ (.inl rfl) q,⟨o,k _ _ (.inl rfl) e⟩,st⟩
theorem HOk.lt (x:HOk P w H h) (e:H a=some o):a < h.objs.size:=(x a o e).lt
theorem HOk.fresh (x:HOk P w H h) (e:h.objs.size≤a):H a=none:=by
  cases q:H a with
  | none=>rfl
  | some u=>exact absurd (Nat.lt_of_lt_of_le (x.lt q) e) (Nat.lt_irrefl _)
theorem HOk.kept (x:HOk P w H h) (k:∀ b u,h.get? b=some u→h'.get? b=some u):HOk P w H h':=fun a o e=>
  (x a o e).stay (fun b u _ q=>k b u q) (fun _ q=>q) fun _ _ q=>q
theorem HOk.laid (x:HOk P w H h) (k:∀ b u,h.get? b=some u→h'.get? b=some u) (hp:h.objs.size≤a) (new:ybc P w (upd H a o) h' a o):HOk P w (upd H a o) h':=fun b u e=>by
  have hn:=x.fresh hp
  by_cases hb:b=a
  · subst hb; rw [qab] at e; cases e; exact new
  · rw [qaf hb] at e
    exact (x b u e).stay (fun c v _ q=>k c v q) (fun c q=>by rw [qaf (qah q hn)]; exact q) fun c xs q=>by rw [qaf (qah q hn)]; exact q
end
def Rd (H:Hp) (a:Addr) (u:HO):Prop:=H a=some u∨∃ o,H a=some (.frz o u)
theorem Rd.ok {P:Program} {w:World} {H:Hp} {h:Heap} {a:Addr} {u:HO} (r:Rd H a u) (x:HOk P w H h):ybc P w H h a u:=by
  rcases r with r | ⟨o,r⟩
  · exact x a u r
  · obtain ⟨_,q⟩:=x a _ r
    exact q
def Mut:Option HO→Prop
  | some (.lst _)=>True
  | some (.dK _)=>True
  | some (.dT _)=>True
  | some (.set _ _)=>True
  | some (.ins _ _ _)=>True
  | some (.ext _)=>True
  | _=>False
section
variable {P:Program} {w:World} {H:Hp} {h h':Heap} {x e:Addr} {o':HO}
theorem HOk.write (ok:HOk P w H h) (mu:Mut (H x)) (he:e=x∨H e=some (.own x)) (k:∀ b u,b≠e→h.get? b=some u→h'.get? b=some u) (heo:∃ u,h'.get? e=some u)
    (new:ybc P w (upd H x o') h' x o'):HOk P w (upd H x o') h':=fun b u q=>by
  have nown:∀ c y,H c=some (.own y)→c≠x:=fun c y r z=>by subst z; rw [r] at mu; exact mu
  have ntup:∀ c xs,H c=some (.tup xs)→c≠x:=fun c xs r z=>by subst z; rw [r] at mu; exact mu
  by_cases hb:b=x
  · subst hb; rw [qab] at q; cases q; exact new
  · rw [qaf hb] at q
    by_cases hbe:b=e
    · have q':H b=some (.own x):=by
        rcases he with z | z
        · exact absurd (hbe.trans z) hb
        · rw [hbe]; exact z
      rw [q] at q'; cases q'
      obtain ⟨v,hv⟩:=heo
      exact ⟨v,by rw [hbe]; exact hv⟩
    · refine (ok b u q).stay (fun c v hc r=>k c v ?_ r) (fun c r=>by rw [qaf (nown c b r)]; exact r) fun c xs r=>by rw [qaf (ntup c xs r)]; exact r
      rcases hc with rfl | hc
      · exact hbe
      · rintro rfl
        rcases he with z | z
        · exact nown c b hc z
        · rw [hc] at z; cases z; exact hb rfl
end
structure Un (fs ex:List Addr) (H H':Hp) (h h':Heap):Prop where
  keep:∀ b o,h.get? b=some o→H b=none→b∉fs→b∉ex→h'.get? b=some o
  slot:∀ b o,h.get? b=some o→H b=none→b∈fs→b∉ex→∃ sl,h'.get? b=some { o with slots:=sl }
  free:∀ b o,h.get? b=some o→H b=none→b∉ex→H' b=none
  there:∀ b o,h.get? b=some o→b∉ex→∃ o',h'.get? b=some o'
  tups:∀ b xs,H b=some (.tup xs)→H' b=some (.tup xs)
  frzs:∀ b o u,H b=some (.frz o u)→H' b=some (.frz o u)
  tbls:∀ b ps,H b=some (.tbl ps)→∃ more,H' b=some (.tbl (ps++more))
section
variable {fs fs' ex ex':List Addr} {H H1 H2:Hp} {h h1 h2 h':Heap} {a x e:Addr} {o:HO}
theorem Un.any (u:Un fs ex H H1 h h1) {b:Addr} {ob:Obj} (q:h.get? b=some ob) (n:H b=none) (hx:b∉ex):∃ sl,h1.get? b=some { ob with slots:=sl }:=by
  by_cases hb:b∈fs
  · exact u.slot b ob q n hb hx
  · exact ⟨ob.slots,u.keep b ob q n hb hx⟩
theorem Un.kept (k:∀ b u,h.get? b=some u→h'.get? b=some u):Un fs ex H H h h':=
  ⟨fun b ob q _ _ _=>k b ob q,fun b ob q _ _ _=>⟨ob.slots,k b ob q⟩,fun _ _ _ n _=>n,fun b ob q _=>⟨ob,k b ob q⟩,fun _ _ q=>q,fun _ _ _ q=>q,fun _ ps q=>⟨#[],by rw [q]; simp⟩⟩
theorem Un.refl:Un fs ex H H h h:=Un.kept fun _ _ q=>q
theorem Un.laid (k:∀ b u,h.get? b=some u→h'.get? b=some u) (hp:h.objs.size≤a) (hn:H a=none):Un fs ex H (upd H a o) h h' where
  keep:=fun b u q _ _ _=>k b u q
  slot:=fun b u q _ _ _=>⟨u.slots,k b u q⟩
  free:=fun b u q n _=>by rw [qaf (Nat.ne_of_lt (Nat.lt_of_lt_of_le (Heap.lt_size q) hp))]; exact n
  there:=fun b u q _=>⟨u,k b u q⟩
  tups:=fun b xs q=>by rw [qaf (qah q hn)]; exact q
  frzs:=fun b u xs q=>by rw [qaf (qah q hn)]; exact q
  tbls:=fun b ps q=>⟨#[],by rw [qaf (qah q hn),q]; simp⟩
theorem Un.write (mu:Mut (H x)) (he:e=x∨H e=some (.own x)) (k:∀ b u,b≠e→h.get? b=some u→h'.get? b=some u) (heo:∃ u,h'.get? e=some u):Un fs ex H (upd H x o) h h':=by
  have hx:∀ b,H b=none→b≠x:=fun b n z=>by subst z; rw [n] at mu; exact mu
  have hb:∀ b,H b=none→b≠e:=fun b n z=>by
    subst z
    rcases he with r | r
    · exact hx b n r
    · rw [n] at r; cases r
  have hm:∀ b u,H b=some u→¬ Mut (some u)→b≠x:=fun b u q nm z=>by subst z; rw [q] at mu; exact nm mu
  refine ⟨fun b u q n _ _=>k b u (hb b n) q,fun b u q n _ _=>⟨u.slots,k b u (hb b n) q⟩,fun b u q n _=>by rw [qaf (hx b n)]; exact n,fun b u q _=>?_,
    fun b xs q=>by rw [qaf (hm b _ q fun z=>z)]; exact q,fun b u xs q=>by rw [qaf (hm b _ q fun z=>z)]; exact q,fun b ps q=>⟨#[],by rw [qaf (hm b _ q fun z=>z),q]; simp⟩⟩
  by_cases hbe:b=e
  · subst hbe; exact heo
  · exact ⟨u,k b u hbe q⟩
end
def trk (h:Heap) (H:Hp):List Addr:=(List.range h.objs.size).filter fun a=>(H a).isSome
def hidT (h:Heap) (H:Hp):Heap:=PySem.W.hideAll h (trk h H)
theorem ykt (h:Heap) (H:Hp):(hidT h H).objs.size=h.objs.size:=PySem.W.hideAll_size _ _
theorem hidT_get {h:Heap} {H:Hp} {b:Addr} {o:Obj} (e:h.get? b=some o) (n:H b=none):(hidT h H).get? b=some o:=
  PySem.W.hideAll_get _ e fun hm=>by
    have q:(H b).isSome=true:=(List.mem_filter.mp hm).2
    rw [n] at q; simp at q
theorem of_hidT {h:Heap} {H:Hp} {b:Addr} {o:Obj} (e:(hidT h H).get? b=some o):h.get? b=some o∧H b=none:=by
  have e':h.get? b=some o:=PySem.W.of_hideAll (trk h H) e
  refine ⟨e',?_⟩
  cases q:H b with
  | none=>rfl
  | some x=>
    have hm:b∈trk h H:=List.mem_filter.mpr ⟨List.mem_range.mpr (Heap.lt_size e'),by simp [q]⟩
    have z:(hidT h H).get? b=none:=PySem.W.hideAll_none (trk h H) hm
    rw [z] at e; cases e
end L2
namespace L2
open PySem PySem.Spec PyProof.Rows
structure Mod (K:PySem.W.Frag) (mg:Str→Option Value) (base:Heap):Prop where
  kin:K.In base
  glob:base.Ns mainGlobals mg
  blt:∃ mb,base.Ns builtinsNs mb∧∀ x:Str,x≠"__name__"→mb x=bootBuiltins x
  nolimit:base.NoLimit
structure Cx where
  prog:Program
  w:World
  K:PySem.W.Frag
  mg:Str→Option Value
  base:Heap
  A:Around
  N:List Str
  s₀:Shared
  H₀:Hp
  env:Env
  outer:List Env
  stack:List Env
  ex:List Addr
  fn:Str→Bool
  calm:Bool
  pn:List (Addr×Obj)
  xe:Value→Shared→Prop
def frs (l:List Env):List Addr:=l.filterMap (·.frame)
abbrev Cx.fs (X:Cx):List Addr:=frs X.outer
def Vis (sc:Scope) (x:Str):Prop:=sc.names.lookup x=some .local∨sc.names.lookup x=some .cell∨sc.names.lookup x=some .free
def Loc (sc:Scope) (x:Str):Prop:=sc.names.lookup x=some .local∨sc.names.lookup x=some .cell
def Look (env:Env) (h:Heap) (m:Str→Option Value) (x:Str) (u:Value):Prop:=
  (env.kindOf x=some .local∧m x=some u)∨((env.kindOf x=some .cell∨env.kindOf x=some .free)∧∃ c,env.cells.lookup x=some c∧h.IsCell c (some u))
structure Cx.Ok (X:Cx):Prop where
  mod:Mod X.K X.mg X.base
  kind:X.env.scope.kind=.function
  glob:X.env.globals=mainGlobals
  blt:X.env.builtins=builtinsNs
  above:X.s₀.heap.objs.size≤X.env.locals
  inj:∀ x y c,X.env.cells.lookup x=some c→X.env.cells.lookup y=some c→x=y
  has:∀ x,(X.env.kindOf x=some .cell∨X.env.kindOf x=some .free)→∃ c,X.env.cells.lookup x=some c
  cab:∀ x c,X.fn x=true→X.env.cells.lookup x=some c→X.s₀.heap.objs.size≤c
  hd:X.calm=true→X.A.handled=none
  frames:X.A.frames=some X.stack
  stk:X.stack=X.outer∨(X.stack=X.env :: X.outer∧X.env.frame=some X.env.locals)
  exf:∀ b∈X.ex,b≠X.env.locals∧∀ x c,X.env.cells.lookup x=some c→c≠b
  bs:∀ b o,X.base.get? b=some o→X.s₀.heap.get? b=some o∧X.H₀ b=none
  bsz:X.base.objs.size≤X.s₀.heap.objs.size
  noex:∀ b o,X.base.get? b=some o→b∉X.ex
  exfs:∀ b∈X.ex,b∉X.fs
  funs:X.s₀.heap.FunFrames X.base X.outer
  frf:∀ b∈X.fs,X.H₀ b=none
structure Inv (X:Cx) (pins:List (Addr×Obj)) (σ:List (Option V)) (H:Hp) (s:Shared):Prop where
  ok:X.Ok
  os:s.os=X.s₀.os
  bare:AllBare s.gens
  base:Un X.fs X.ex X.H₀ H X.s₀.heap s.heap
  loc:∃ m,s.heap.Ns X.env.locals m∧∀ (i:Nat) (x:Str) (v:V),X.N[i]?=some x→σ[i]?=some (some v)→Vis X.env.scope x→∃ u,RelV v u∧Look X.env s.heap m x u
  cell:∀ x c,X.env.cells.lookup x=some c→∃ v,s.heap.IsCell c v
  free:H X.env.locals=none
  freeC:∀ x c,X.env.cells.lookup x=some c→H c=none
  pin:∀ p∈X.pn++pins,s.heap.get? p.1=some p.2∧H p.1=none∧p.1≠X.env.locals∧p.1∉X.fs∧∀ v,p.2.data≠.cell v
  hok:HOk X.prog X.w H s.heap
  len:σ.length=X.N.length
section
variable {X:Cx} {pins:List (Addr×Obj)} {σ:List (Option V)} {H H':Hp} {s:Shared} {h':Heap}
theorem Cx.Ok.nofr (ok:X.Ok) {b:Addr} {o:Obj} (e:X.base.get? b=some o):b∉X.fs:=fun hb=>by
  have:=(ok.funs.mem hb).1
  rw [e] at this; cases this
theorem Inv.bs (I:Inv X pins σ H s):∀ b o,X.base.get? b=some o→s.heap.get? b=some o∧H b=none:=fun b o e=>
  ⟨I.base.keep b o (I.ok.bs b o e).1 (I.ok.bs b o e).2 (I.ok.nofr e) (I.ok.noex b o e),I.base.free b o (I.ok.bs b o e).1 (I.ok.bs b o e).2 (I.ok.noex b o e)⟩
theorem Inv.bk (I:Inv X pins σ H s):∀ b o,X.base.get? b=some o→s.heap.get? b=some o:=fun b o e=>(I.bs b o e).1
theorem Inv.mod (I:Inv X pins σ H s):Mod X.K X.mg X.base:=I.ok.mod
theorem Inv.kIn (I:Inv X pins σ H s):X.K.In s.heap:=I.ok.mod.kin.keeps I.bk
theorem Inv.lt (I:Inv X pins σ H s):X.env.locals < s.heap.objs.size:=let ⟨_,hn,_⟩:=I.loc; hn.lt
theorem Inv.sz (I:Inv X pins σ H s):X.s₀.heap.objs.size≤s.heap.objs.size:=Nat.le_trans I.ok.above (Nat.le_of_lt I.lt)
theorem Inv.nofs (I:Inv X pins σ H s) {a:Addr} (h:s.heap.objs.size≤a):a∉X.fs:=fun hb=>by
  obtain ⟨_,o,ho,_⟩:=I.ok.funs.mem hb
  exact absurd (Nat.lt_of_lt_of_le (Heap.lt_size ho) (Nat.le_trans I.sz h)) (Nat.lt_irrefl _)
theorem Inv.cne (I:Inv X pins σ H s):∀ x c,X.env.cells.lookup x=some c→c≠X.env.locals:=fun x c e z=>by
  obtain ⟨v,o,ho,hd⟩:=I.cell x c e
  obtain ⟨m,⟨o',es,ep,ho',hd',_⟩,_⟩:=I.loc
  rw [z,ho'] at ho; cases ho; rw [hd'] at hd; cases hd
theorem Inv.funs (I:Inv X pins σ H s):s.heap.FunFrames X.base X.outer:=by
  have all:∀ (l:List Env),(∀ b∈frs l,b∈X.fs)→X.s₀.heap.FunFrames X.base l→s.heap.FunFrames X.base l:=by
    intro l
    induction l with
    | nil=>intro _ _; trivial
    | cons env r ih=>
      intro hs hl
      obtain ⟨hk,⟨L,o,hf,hn,ho,hd⟩,hr⟩:=hl
      have hL:L∈X.fs:=hs L (by unfold frs; rw [List.filterMap_cons,hf]; exact List.mem_cons_self)
      obtain ⟨sl,e⟩:=I.base.slot L o ho (I.ok.frf L hL) hL fun z=>I.ok.exfs L z hL
      exact ⟨hk,⟨L,_,hf,hn,e,hd⟩,ih (fun b hb=>hs b (by unfold frs; rw [List.filterMap_cons,hf]; exact List.mem_cons_of_mem _ hb)) hr⟩
  exact all X.outer (fun _ hb=>hb) I.ok.funs
theorem Inv.stack (I:Inv X pins σ H s):s.heap.FunFrames X.base X.stack:=by
  rcases I.ok.stk with e | ⟨e,hf⟩
  · rw [e]; exact I.funs
  · rw [e]
    obtain ⟨m,hn,_⟩:=I.loc
    refine .cons (by rw [I.ok.kind]; decide) hf hn ?_ I.funs
    exact Heap.get?_none_of_le (Nat.le_trans I.ok.bsz I.ok.above)
theorem Inv.stkSub (I:Inv X pins σ H s):∀ b∈frs X.stack,b∈X.env.locals :: X.fs:=fun b hb=>by
  rcases I.ok.stk with e | ⟨e,hf⟩
  · rw [e] at hb; exact List.mem_cons_of_mem _ hb
  · rw [e] at hb
    unfold frs at hb
    rw [List.filterMap_cons,hf] at hb
    exact hb
theorem Inv.stkFree (I:Inv X pins σ H s):∀ b∈frs X.stack,H b=none:=fun b hb=>by
  rcases List.mem_cons.mp (I.stkSub b hb) with e | hb
  · rw [e]; exact I.free
  · obtain ⟨_,o,ho,_⟩:=I.ok.funs.mem hb
    exact I.base.free b o ho (I.ok.frf b hb) fun z=>I.ok.exfs b z hb
theorem Inv.step {g':Array GenState} {t':Nat} {d':Drawn} {ch:List Addr} (I:Inv X pins σ H s)
    (hch:∀ b∈ch,(b∈X.ex∨X.s₀.heap.objs.size≤b)∧b≠X.env.locals∧(∀ x c,X.env.cells.lookup x=some c→c≠b)∧∀ p∈X.pn++pins,p.1≠b)
    (keep:∀ b o,b≠X.env.locals→b∉X.fs→b∉ch→s.heap.get? b=some o→H b=none→h'.get? b=some o)
    (slot:∀ b o,b≠X.env.locals→b∈X.fs→b∉ch→s.heap.get? b=some o→H b=none→∃ sl,h'.get? b=some { o with slots:=sl }) (free:∀ b o,b∉ch→s.heap.get? b=some o→H b=none→H' b=none)
    (there:∀ b o,b∉ch→s.heap.get? b=some o→∃ o',h'.get? b=some o')
    (tups:∀ b xs,H b=some (.tup xs)→H' b=some (.tup xs)) (frzs:∀ b o u,H b=some (.frz o u)→H' b=some (.frz o u)) (tbls:∀ b ps,H b=some (.tbl ps)→∃ more,H' b=some (.tbl (ps++more)))
    (ns:∀ m,s.heap.Ns X.env.locals m→h'.Ns X.env.locals m) (hok:HOk X.prog X.w H' h') (hg:AllBare g') :
    Inv X pins σ H' { s with heap:=h',gens:=g',drawn:=d',toks:=t' }:=by
  have neL:∀ b o,X.s₀.heap.get? b=some o→b≠X.env.locals:=fun b o e=>Nat.ne_of_lt (Nat.lt_of_lt_of_le (Heap.lt_size e) I.ok.above)
  have neC:∀ b o,X.s₀.heap.get? b=some o→b∉X.ex→b∉ch:=fun b o e hx hb=>by
    rcases (hch b hb).1 with z | z
    · exact hx z
    · exact absurd (Nat.lt_of_lt_of_le (Heap.lt_size e) z) (Nat.lt_irrefl _)
  have cellK:∀ x c,X.env.cells.lookup x=some c→∀ v,s.heap.IsCell c v→h'.IsCell c v:=fun x c e v ⟨o,ho,hd⟩=>by
    have nch:c∉ch:=fun z=>(hch c z).2.2.1 x c e rfl
    by_cases hc:c∈X.fs
    · obtain ⟨sl,q⟩:=slot c o (I.cne x c e) hc nch ho (I.freeC x c e)
      exact ⟨_,q,hd⟩
    · exact ⟨o,keep c o (I.cne x c e) hc nch ho (I.freeC x c e),hd⟩
  refine ⟨I.ok,I.os,hg,⟨fun b o e n hb hx=>?_,fun b o e n hb hx=>?_,fun b o e n hx=>?_,fun b o e hx=>?_,fun b xs e=>tups b xs (I.base.tups b xs e),fun b o xs e=>frzs b o xs (I.base.frzs b o xs e),fun b ps e=>?_⟩,?_,fun x c e=>?_,?_,fun x c e=>?_,fun p hp=>?_,hok,I.len⟩
  · exact keep b o (neL b o e) hb (neC b o e hx) (I.base.keep b o e n hb hx) (I.base.free b o e n hx)
  · obtain ⟨sl,e1⟩:=I.base.slot b o e n hb hx
    obtain ⟨sl',e2⟩:=slot b _ (neL b o e) hb (neC b o e hx) e1 (I.base.free b o e n hx)
    exact ⟨sl',e2⟩
  · obtain ⟨o',e1⟩:=I.base.there b o e hx
    exact free b o' (neC b o e hx) e1 (I.base.free b o e n hx)
  · obtain ⟨o',e1⟩:=I.base.there b o e hx
    exact there b o' (neC b o e hx) e1
  · obtain ⟨m1,e1⟩:=I.base.tbls b ps e
    obtain ⟨m2,e2⟩:=tbls b _ e1
    exact ⟨m1++m2,by rw [e2,Array.append_assoc]⟩
  · obtain ⟨m,hn,hl⟩:=I.loc
    refine ⟨m,ns m hn,fun i x v e1 e2 e3=>?_⟩
    obtain ⟨u,r,l⟩:=hl i x v e1 e2 e3
    refine ⟨u,r,?_⟩
    rcases l with l | ⟨k,c,e,z⟩
    · exact .inl l
    · exact .inr ⟨k,c,e,cellK x c e _ z⟩
  · obtain ⟨v,z⟩:=I.cell x c e
    exact ⟨v,cellK x c e v z⟩
  · obtain ⟨m,⟨o,_,_,ho,_⟩,_⟩:=I.loc
    exact free _ o (fun z=>(hch _ z).2.1 rfl) ho I.free
  · obtain ⟨v,o,ho,hd⟩:=I.cell x c e
    exact free c o (fun z=>(hch c z).2.2.1 x c e rfl) ho (I.freeC x c e)
  · obtain ⟨e,n,ne,nf,d⟩:=I.pin p hp
    have nch:p.1∉ch:=fun z=>(hch p.1 z).2.2.2 p hp rfl
    exact ⟨keep p.1 p.2 ne nf nch e n,free p.1 p.2 nch e n,ne,nf,d⟩
theorem Inv.un {t':Nat} (I:Inv X pins σ H s) (u:Un X.fs [] H H' s.heap h') (hok:HOk X.prog X.w H' h'):Inv X pins σ H' { s with heap:=h',toks:=t' }:=by
  obtain ⟨m,⟨o,es,ep,ho,r⟩,_⟩:=id I.loc
  obtain ⟨sl,hL⟩:=u.any ho I.free (by simp)
  exact I.step (g':=s.gens) (d':=s.drawn) (ch:=[]) (fun _ z=>nomatch z) (fun b o _ hb _ e n=>u.keep b o e n hb (by simp)) (fun b o _ hb _ e n=>u.slot b o e n hb (by simp)) (fun b o _ e n=>u.free b o e n (by simp)) (fun b o _ e=>u.there b o e (by simp)) u.tups u.frzs u.tbls (fun m' hm=>by
    obtain ⟨o',es',ep',ho',r'⟩:=hm
    rw [ho] at ho'; cases ho'
    exact ⟨_,es',ep',hL,r'⟩) hok I.bare
theorem Inv.call {g':Array GenState} {t':Nat} {d':Drawn} {ch:List Addr} (I:Inv X pins σ H s) (u:Un (frs X.stack) ch H H' s.heap h') (hok:HOk X.prog X.w H' h') (hg:AllBare g')
    (hch:∀ b∈ch,(b∈X.ex∨X.s₀.heap.objs.size≤b)∧b≠X.env.locals∧(∀ x c,X.env.cells.lookup x=some c→c≠b)∧∀ p∈X.pn++pins,p.1≠b) :
    Inv X pins σ H' { s with heap:=h',gens:=g',drawn:=d',toks:=t' }:=by
  obtain ⟨m,⟨o,es,ep,ho,r⟩,_⟩:=id I.loc
  obtain ⟨sl,hL⟩:=u.any ho I.free fun z=>(hch _ z).2.1 rfl
  exact I.step (ch:=ch) hch (fun b o hL hb hc e n=>u.keep b o e n (fun z=>(List.mem_cons.mp (I.stkSub b z)).elim hL hb) hc) (fun b o _ _ hc e n=>u.any e n hc) (fun b o hc e n=>u.free b o e n hc) (fun b o hc e=>u.there b o e hc) u.tups u.frzs u.tbls (fun m' hm=>by
    obtain ⟨o',es',ep',ho',r'⟩:=hm
    rw [ho] at ho'; cases ho'
    exact ⟨_,es',ep',hL,r'⟩) hok hg
theorem Inv.turned {t':Nat} {it:Addr} (I:Inv X pins σ H s) (k:∀ b o,b≠it→s.heap.get? b=some o→h'.get? b=some o) (hn:H it=none) (hL:it≠X.env.locals)
    (h1:it∈X.ex∨X.s₀.heap.objs.size≤it) (h2:∀ x c,X.env.cells.lookup x=some c→c≠it) (h3:∀ p∈X.pn++pins,p.1≠it):Inv X pins σ H { s with heap:=h',toks:=t' }:=by
  have nit:∀ b u,H b=some u→b≠it:=fun b u e z=>by rw [z,hn] at e; cases e
  refine I.step (g':=s.gens) (d':=s.drawn) (ch:=[it]) (fun b hb=>?_) (fun b o _ _ hc e _=>k b o (fun z=>hc (by simp [z])) e) (fun b o _ _ hc e _=>⟨o.slots,k b o (fun z=>hc (by simp [z])) e⟩) (fun _ _ _ _ n=>n)
    (fun b o hc e=>⟨o,k b o (fun z=>hc (by simp [z])) e⟩) (fun _ _ e=>e) (fun _ _ _ e=>e) (fun b ps e=>⟨#[],by rw [e]; simp⟩) (fun m hm=>?_) (fun b u e=>?_) I.bare
  · have e:b=it:=by simpa using hb
    subst e
    exact ⟨h1,hL,h2,h3⟩
  · obtain ⟨o,es,ep,ho,r⟩:=hm
    exact ⟨o,es,ep,k _ o (Ne.symm hL) ho,r⟩
  · refine (I.hok b u e).stay (fun c v hc q=>k c v ?_ q) (fun _ q=>q) fun _ _ q=>q
    rcases hc with z | z
    · rw [z]; exact nit b u e
    · exact nit c _ z
theorem Inv.tok (I:Inv X pins σ H s) (t:Nat):Inv X pins σ H { s with toks:=t }:=I.un (h':=s.heap) (t':=t) Un.refl I.hok
theorem Inv.kept {t':Nat} (I:Inv X pins σ H s) (k:∀ b u,s.heap.get? b=some u→h'.get? b=some u):Inv X pins σ H { s with heap:=h',toks:=t' }:=I.un (Un.kept k) (I.hok.kept k)
theorem Inv.laid {a:Addr} {o:HO} {t':Nat} (I:Inv X pins σ H s) (k:∀ b u,s.heap.get? b=some u→h'.get? b=some u) (hp:s.heap.objs.size≤a) (new:ybc X.prog X.w (upd H a o) h' a o) :
    Inv X pins σ (upd H a o) { s with heap:=h',toks:=t' }:=I.un (Un.laid k hp (I.hok.fresh hp)) (I.hok.laid k hp new)
theorem Inv.write {x e:Addr} {o:HO} {t':Nat} (I:Inv X pins σ H s) (mu:Mut (H x)) (he:e=x∨H e=some (.own x)) (k:∀ b u,b≠e→s.heap.get? b=some u→h'.get? b=some u) (heo:∃ u,h'.get? e=some u)
    (new:ybc X.prog X.w (upd H x o) h' x o):Inv X pins σ (upd H x o) { s with heap:=h',toks:=t' }:=I.un (Un.write mu he k heo) (I.hok.write mu he k heo new)
theorem Inv.weak {σ':List (Option V)} (I:Inv X pins σ H s) (hl:σ'.length=σ.length) (w:∀ (i:Nat) v,σ'[i]?=some (some v)→σ[i]?=some (some v)):Inv X pins σ' H s:=
  ⟨I.ok,I.os,I.bare,I.base,let ⟨m,hn,hl'⟩:=I.loc; ⟨m,hn,fun i x v e1 e2 e3=>hl' i x v e1 (w i v e2) e3⟩,I.cell,I.free,I.freeC,I.pin,I.hok,hl.trans I.len⟩
theorem Inv.pins_of {pins':List (Addr×Obj)} (I:Inv X pins σ H s) (h:∀ p∈pins',s.heap.get? p.1=some p.2∧H p.1=none∧p.1≠X.env.locals∧p.1∉X.fs∧∀ v,p.2.data≠.cell v):Inv X pins' σ H s:=
  ⟨I.ok,I.os,I.bare,I.base,I.loc,I.cell,I.free,I.freeC,fun p hp=>(List.mem_append.mp hp).elim (fun z=>I.pin p (List.mem_append_left _ z)) (h p),I.hok,I.len⟩
theorem ygh {N:List Str} (hN:N.Nodup) {i j:Nat} {x:Str} (a:N[i]?=some x) (b:N[j]?=some x):i=j:=by
  obtain ⟨h1,e1⟩:=List.getElem?_eq_some_iff.mp a
  obtain ⟨h2,e2⟩:=List.getElem?_eq_some_iff.mp b
  exact (List.getElem_inj hN).mp (e1.trans e2.symm)
theorem qji {M:Model} {A:Around} {E:Value→Shared→Prop} {i:Nat} {x:Str} {v:V} {u:Value} {Q:Unit→Shared→Prop} (I:Inv X pins σ H s) (hN:X.N.Nodup) (hi:X.N[i]?=some x) (hx:Loc X.env.scope x) (r:RelV v u)
    (h:∀ s',Inv X pins (σ.set i (some v)) H s'→(∃ a,Heap.SameBut a s.heap s'.heap∧(a=X.env.locals∨X.env.cells.lookup x=some a))→Q () s') (hf:X.fn x=true∨X.env.scope.names.lookup x=some .local:=by first | exact .inl rfl | exact .inr rfl | assumption):wpAny M A (storeName X.env x u) Q E s:=by
  obtain ⟨m,hn,hl⟩:=id I.loc
  have hcls:(X.env.scope.kind == .class || (X.env.scope.kind == .module && X.env.locals != X.env.globals))=false:=by rw [I.ok.kind]; rfl
  have hiσ:i < σ.length:=by rw [I.len]; exact (List.getElem?_eq_some_iff.mp hi).1
  have cne:=I.cne
  have tracked:∀ {a:Addr} {h':Heap},(∃ o,s.heap.get? a=some o∧H a=none)→Heap.SameBut a s.heap h'→HOk X.prog X.w H h':=fun {a h'} ha hs b ob e=>by
    obtain ⟨_,_,hfree⟩:=ha
    refine (I.hok b ob e).stay (fun c w' hc q=>(hs.2 c ?_).trans q) (fun _ q=>q) fun _ _ q=>q
    rintro rfl
    rcases hc with rfl | hc
    · rw [hfree] at e; cases e
    · rw [hfree] at hc; cases hc
  rcases hx with hk | hk
  · refine wpAny_storeName_local hk hn (fun h' hn' hs=>?_) hcls
    obtain ⟨oL,_,_,hoL,_⟩:=id hn
    refine h _ ⟨I.ok,I.os,I.bare,⟨fun b o e n hb hx=>?_,fun b o e n hb hx=>?_,I.base.free,fun b o e hx=>?_,I.base.tups,I.base.frzs,I.base.tbls⟩,⟨_,hn',fun j y v' e1 e2 e3=>?_⟩,fun y c e=>?_,I.free,I.freeC,fun p hp=>?_,tracked ⟨oL,hoL,I.free⟩ hs,by simpa using I.len⟩ ⟨_,hs,.inl rfl⟩
    · exact (hs.2 b (Nat.ne_of_lt (Nat.lt_of_lt_of_le (Heap.lt_size e) I.ok.above))).trans (I.base.keep b o e n hb hx)
    · obtain ⟨sl,e1⟩:=I.base.slot b o e n hb hx
      exact ⟨sl,(hs.2 b (Nat.ne_of_lt (Nat.lt_of_lt_of_le (Heap.lt_size e) I.ok.above))).trans e1⟩
    · obtain ⟨o',e1⟩:=I.base.there b o e hx
      exact ⟨o',(hs.2 b (Nat.ne_of_lt (Nat.lt_of_lt_of_le (Heap.lt_size e) I.ok.above))).trans e1⟩
    · by_cases hj:j=i
      · subst hj
        rw [hi] at e1; cases e1
        rw [List.getElem?_set_self hiσ] at e2
        cases e2
        exact ⟨u,r,.inl ⟨hk,by simp⟩⟩
      · rw [List.getElem?_set_ne (Ne.symm hj)] at e2
        obtain ⟨u',r',q⟩:=hl j y v' e1 e2 e3
        refine ⟨u',r',?_⟩
        rcases q with ⟨k,e⟩ | ⟨k,c,e,z⟩
        · refine .inl ⟨k,?_⟩
          have:y≠x:=fun e=>hj (ygh hN e1 (e ▸ hi))
          simp [this,e]
        · exact .inr ⟨k,c,e,z.sameBut hs (cne y c e)⟩
    · obtain ⟨w',z⟩:=I.cell y c e
      exact ⟨w',z.sameBut hs (cne y c e)⟩
    · obtain ⟨e,n,ne,nf,d⟩:=I.pin p hp
      exact ⟨(hs.2 p.1 ne).trans e,n,ne,nf,d⟩
  · have hfn:X.fn x=true:=by
      rcases hf with z | z
      · exact z
      · rw [z] at hk; cases hk
    obtain ⟨c,hc⟩:=I.ok.has x (.inl hk)
    obtain ⟨w',z⟩:=I.cell x c hc
    refine wpAny_storeName_cell I.ok.kind hk hc z (fun h' hc' hs=>?_)
    obtain ⟨oc,hoc,hocd⟩:=id z
    refine h { s with heap:=h' } ⟨I.ok,I.os,I.bare,⟨fun b o e n hb hx=>?_,fun b o e n hb hx=>?_,I.base.free,fun b o e hx=>?_,I.base.tups,I.base.frzs,I.base.tbls⟩,⟨m,hn.sameBut hs (Ne.symm (cne x c hc)),fun j y v' e1 e2 e3=>?_⟩,fun y c' e=>?_,I.free,I.freeC,fun p hp=>?_,tracked ⟨oc,hoc,I.freeC x c hc⟩ hs,by simpa using I.len⟩ ⟨c,hs,.inr hc⟩
    · exact (hs.2 b (Nat.ne_of_lt (Nat.lt_of_lt_of_le (Heap.lt_size e) (I.ok.cab x c hfn hc)))).trans (I.base.keep b o e n hb hx)
    · obtain ⟨sl,e1⟩:=I.base.slot b o e n hb hx
      exact ⟨sl,(hs.2 b (Nat.ne_of_lt (Nat.lt_of_lt_of_le (Heap.lt_size e) (I.ok.cab x c hfn hc)))).trans e1⟩
    · obtain ⟨o',e1⟩:=I.base.there b o e hx
      exact ⟨o',(hs.2 b (Nat.ne_of_lt (Nat.lt_of_lt_of_le (Heap.lt_size e) (I.ok.cab x c hfn hc)))).trans e1⟩
    · by_cases hj:j=i
      · subst hj
        rw [hi] at e1; cases e1
        rw [List.getElem?_set_self hiσ] at e2
        cases e2
        exact ⟨u,r,.inr ⟨.inl hk,c,hc,hc'⟩⟩
      · rw [List.getElem?_set_ne (Ne.symm hj)] at e2
        obtain ⟨u',r',q⟩:=hl j y v' e1 e2 e3
        refine ⟨u',r',?_⟩
        rcases q with q | ⟨k,c',e,z'⟩
        · exact .inl q
        · refine .inr ⟨k,c',e,z'.sameBut hs ?_⟩
          rintro rfl
          exact hj (ygh hN e1 (I.ok.inj _ _ _ e hc ▸ hi))
    · by_cases hcc:c'=c
      · subst hcc; exact ⟨_,hc'⟩
      · obtain ⟨w2,z2⟩:=I.cell y c' e
        exact ⟨w2,z2.sameBut hs hcc⟩
    · obtain ⟨e,n,ne,nf,d⟩:=I.pin p hp
      refine ⟨(hs.2 p.1 ?_).trans e,n,ne,nf,d⟩
      intro q
      rw [q,hoc] at e
      have q':oc=p.2:=Option.some.inj e
      exact d w' (by rw [← q']; exact hocd)
theorem ygc {M:Model} {A:Around} {E:Value→Shared→Prop} {i:Nat} {x:Str} {v:V} {u:Value} {Q:Unit→Shared→Prop} (I:Inv X pins σ H s) (hN:X.N.Nodup) (hi:X.N[i]?=some x) (hx:Loc X.env.scope x) (r:RelV v u)
    (h:∀ s',Inv X pins (σ.set i (some v)) H s'→Q () s') (hf:X.fn x=true∨X.env.scope.names.lookup x=some .local:=by first | exact .inl rfl | exact .inr rfl | assumption):wpAny M A (storeName X.env x u) Q E s:=
  qji I hN hi hx r (fun s' I' _=>h s' I') hf
theorem Inv.call' {s':Shared} {ch:List Addr} (I:Inv X pins σ H s) (ho:s'.os=s.os) (u:Un (frs X.stack) ch H H' s.heap s'.heap) (hok:HOk X.prog X.w H' s'.heap) (hg:AllBare s'.gens)
    (hch:∀ b∈ch,(b∈X.ex∨X.s₀.heap.objs.size≤b)∧b≠X.env.locals∧(∀ x c,X.env.cells.lookup x=some c→c≠b)∧∀ p∈X.pn++pins,p.1≠b):Inv X pins σ H' s':=by
  obtain ⟨h',g',d',t',o'⟩:=s'
  have e:o'=s.os:=ho
  subst e
  exact I.call (g':=g') (t':=t') (d':=d') u hok hg hch
end
abbrev XK:=Value→Option Addr→Hp→Prop
abbrev St:=List (Option V)
abbrev VK:=V→Hp→Prop
abbrev TE:=St→Hp→VK→Prop
abbrev TT:=St→Hp→(Bool→Hp→Prop)→Prop
abbrev TA:=St→Hp→(List V→Hp→Prop)→Prop
structure Ends where
  nx:St→Hp→Prop
  rt:VK
  bk:St→Hp→Prop:=fun _ _=>False
  ct:St→Hp→Prop:=fun _ _=>False
abbrev TS:=Ends→St→Hp→Prop
def EP (X:Cx) (pins:List (Addr×Obj)) (σ:St) (Q:VK) (u:Value) (s':Shared):Prop:=∃ v H',Inv X pins σ H' s'∧RelV v u∧Q v H'
def TP (X:Cx) (pins:List (Addr×Obj)) (σ:St) (Q:Bool→Hp→Prop) (b:Bool) (s':Shared):Prop:=∃ H',Inv X pins σ H' s'∧Q b H'
def AP (X:Cx) (pins:List (Addr×Obj)) (σ:St) (Q:List V→Hp→Prop) (us:List Value) (s':Shared):Prop:=∃ vs H',Inv X pins σ H' s'∧Vals vs us∧Q vs H'
def SP (X:Cx) (pins:List (Addr×Obj)) (D:Ends) (f:Flow) (s':Shared):Prop:=
  match f with
  | .next=>∃ σ' H',Inv X pins σ' H' s'∧D.nx σ' H'
  | .brk=>∃ σ' H',Inv X pins σ' H' s'∧D.bk σ' H'
  | .cont=>∃ σ' H',Inv X pins σ' H' s'∧D.ct σ' H'
  | .ret u=>∃ v σ' H',Inv X pins σ' H' s'∧RelV v u∧D.rt v H'
def PE (X:Cx) (e:Expr) (t:TE):Prop:=
  ∀ (pins:List (Addr×Obj)) (s:Shared) (σ:St) (H:Hp) (Q:VK),Inv X pins σ H s→t σ H Q→wpAny (model X.prog X.w) X.A (eval e X.env) (EP X pins σ Q) X.xe s
def PT (X:Cx) (e:Expr) (t:TT):Prop:=
  ∀ (pins:List (Addr×Obj)) (s:Shared) (σ:St) (H:Hp) (Q:Bool→Hp→Prop),Inv X pins σ H s→t σ H Q→wpAny (model X.prog X.w) X.A (isTrue e X.env (eval e X.env)) (TP X pins σ Q) X.xe s
def PW (X:Cx) (e:Expr) (t:TT):Prop:=
  ∀ (whole:Sem Value) (pins:List (Addr×Obj)) (s:Shared) (σ:St) (H:Hp) (Q:Bool→Hp→Prop),Inv X pins σ H s→t σ H Q→wpAny (model X.prog X.w) X.A (isTrue e X.env whole) (TP X pins σ Q) X.xe s
theorem PW.pt {X:Cx} {e:Expr} {t:TT} (h:PW X e t):PT X e t:=h _
def PA (X:Cx) (es:List Expr) (t:TA):Prop:=
  ∀ (pos:Pos) (pins:List (Addr×Obj)) (s:Shared) (σ:St) (H:Hp) (Q:List V→Hp→Prop),Inv X pins σ H s→t σ H Q→wpAny (model X.prog X.w) X.A (spliced (backTo pos (starEach es X.env))) (AP X pins σ Q) X.xe s
def PS (X:Cx) (st:Stmt) (t:TS):Prop:=
  ∀ (pins:List (Addr×Obj)) (s:Shared) (σ:St) (H:Hp) (D:Ends),Inv X pins σ H s→t D σ H→wpAny (model X.prog X.w) X.A (exec st X.env) (SP X pins D) X.xe s
def PSs (X:Cx) (st:List Stmt) (t:TS):Prop:=
  ∀ (pins:List (Addr×Obj)) (s:Shared) (σ:St) (H:Hp) (D:Ends),Inv X pins σ H s→t D σ H→wpAny (model X.prog X.w) X.A (execs st X.env) (SP X pins D) X.xe s
theorem thn {α:Type} {t:Sem α} {Q Q':α→Shared→Prop} {M:Model} {A:Around} {E:Value→Shared→Prop} {s:Shared} (h:wpAny M A t Q E s) (hQ:∀ a s,Q a s→Q' a s):wpAny M A t Q' E s:=wpAny_mono h hQ fun _ _ x=>x
end L2
namespace L2
open PySem PySem.Spec PyProof.Rows
section
variable {X:Cx}
def tVar (i:Nat):TE:=fun σ H Q=>∃ v,σ[i]?=some (some v)∧Q v H
def tC (v:V):TE:=fun _ H Q=>Q v H
theorem pe_var {i:Nat} {x:Str} {pos:Pos} (hN:X.N[i]?=some x) (hv:Vis X.env.scope x) (hd:(x == ("__debug__" : Str))=false:=by decide) (hcd:(x == ("__classdict__" : Str))=false:=by decide):PE X (.Name x pos) (tVar i):=by
  intro pins s σ H Q I h
  obtain ⟨v,e,h⟩:=h
  obtain ⟨m,hn,hl⟩:=I.loc
  obtain ⟨u,r,l⟩:=hl i x v hN e hv
  have fin:EP X pins σ Q u s:=⟨v,H,I,r,h⟩
  rcases l with ⟨hk,hm⟩ | ⟨hk,c,hc,hcell⟩
  · exact wpAny_Name (wpAny_loadName_local I.ok.kind hk hn hm fin) hd
  · rcases hk with hk | hk
    · exact wpAny_Name (wpAny_loadName_cell I.ok.kind hk hc hcell fin) hd
    · exact wpAny_Name (wpAny_loadName_free I.ok.kind hk hc hcell fin hcd) hd
theorem qac {i j pos}:PE X (.Constant (.int i) j pos) (tC (.int i)):=fun _ _ _ H _ I h=>wpAny_Constant_int ⟨.int i,H,I.tok _,⟨_,rfl⟩,h⟩
theorem yc2 {b j pos}:PE X (.Constant (.bool b) j pos) (tC (.bl b)):=fun _ _ _ H _ I h=>Constant_bool ⟨.bl b,H,I,rfl,h⟩
theorem qdc {j pos}:PE X (.Constant .none j pos) (tC .non):=fun _ _ _ H _ I h=>Constant_none ⟨.non,H,I,rfl,h⟩
theorem yan {x j pos}:PE X (.Constant (.str x) j pos) (tC (.str x)):=fun _ _ _ H _ I h=>Calls.Constant_str ⟨.str x,H,I.tok _,⟨_,rfl⟩,h⟩
def Gl (X:Cx) (x:Str):Prop:=X.env.kindOf x=some .globalImplicit
theorem qdz {E:Value→Shared→Prop} {pins:List (Addr×Obj)} {s:Shared} {σ:St} {H:Hp} {x:Str} {u:Value} {pos:Pos} {Q:Value→Shared→Prop} (I:Inv X pins σ H s) (hg:Gl X x) (hm:X.mg x=some u) (h:Q u s)
    (hd:(x == ("__debug__" : Str))=false:=by decide):wpAny (model X.prog X.w) X.A (eval (.Name x pos) X.env) Q E s:=
  Calls.Name_function_global I.ok.kind hg (Calls.loadGlobal_global (by rw [I.ok.glob]; exact I.mod.glob.keeps I.bk) hm h) hd
theorem yfx {E:Value→Shared→Prop} {pins:List (Addr×Obj)} {s:Shared} {σ:St} {H:Hp} {x:Str} {u:Value} {pos:Pos} {Q:Value→Shared→Prop} (I:Inv X pins σ H s) (hg:Gl X x) (hm:X.mg x=none) (hv:bootBuiltins x=some u) (h:Q u s)
    (hn:x≠"__name__":=by decide) (hd:(x == ("__debug__" : Str))=false:=by decide):wpAny (model X.prog X.w) X.A (eval (.Name x pos) X.env) Q E s:=by
  obtain ⟨mb,h1,h2⟩:=I.mod.blt
  exact Calls.Name_function_global I.ok.kind hg (Calls.loadGlobal_builtin (by rw [I.ok.glob]; exact I.mod.glob.keeps I.bk) hm (by rw [I.ok.blt]; exact h1.keeps I.bk) ((h2 x hn).trans hv) h) hd
theorem ybd {x:Str} {v:V} {u:Value} {pos:Pos} (hg:Gl X x) (hm:X.mg x=some u) (r:RelV v u) (hd:(x == ("__debug__" : Str))=false:=by decide):PE X (.Name x pos) (tC v):=
  fun _ _ _ H _ I h=>qdz I hg hm ⟨v,H,I,r,h⟩ hd
theorem ybf {x:Str} {v:V} {u:Value} {pos:Pos} (hg:Gl X x) (hm:X.mg x=none) (hv:bootBuiltins x=some u) (r:RelV v u) (hn:x≠"__name__":=by decide) (hd:(x == ("__debug__" : Str))=false:=by decide):PE X (.Name x pos) (tC v):=
  fun _ _ _ H _ I h=>yfx I hg hm hv ⟨v,H,I,r,h⟩ hn hd
variable {a b:Expr} {ta tb:TE} {pos:Pos}
def PC (X:Cx) (op:CmpOp) (a b:Expr) (t:TE):Prop:=
  ∀ (pins:List (Addr×Obj)) (s:Shared) (σ:St) (H:Hp) (Q:VK),Inv X pins σ H s→t σ H Q→
    wpAny (model X.prog X.w) X.A (eval a X.env) (fun v s₁=>wpAny (model X.prog X.w) X.A (eval b X.env) (fun u s₂=>wpAny (model X.prog X.w) X.A (compareOp op v u) (EP X pins σ Q) X.xe s₂) X.xe s₁) X.xe s
theorem nobehind (b:Expr) {op:CmpOp} (h:op≠.In) (h2:op≠.NotIn):behindInMarks op b=false:=by
  have e1:(op == CmpOp.In)=false:=by cases op <;> first | rfl | exact absurd rfl h
  have e2:(op == CmpOp.NotIn)=false:=by cases op <;> first | rfl | exact absurd rfl h2
  cases b <;> simp [behindInMarks,e1,e2]
def tIsN (ta:TE):TE:=fun σ H Q=>ta σ H fun x H1=>Q (.bl (decide (x=.non))) H1
def tNotN (ta:TE):TE:=fun σ H Q=>ta σ H fun x H1=>Q (.bl (!decide (x=.non))) H1
theorem RelV.none_iff {x:V} {v:Value} (r:RelV x v):(v == Value.none)=decide (x=.non):=by
  cases x with
  | non=>cases r; rfl
  | bl _=>cases r; rfl
  | int _=>obtain ⟨t,rfl⟩:=r; rfl
  | str _=>obtain ⟨t,rfl⟩:=r; rfl
  | byt _=>obtain ⟨t,rfl⟩:=r; rfl
  | flt _=>obtain ⟨t,rfl⟩:=r; rfl
  | ref _=>cases r; rfl
  | ty _=>cases r; rfl
theorem qke {j pos'} (ha:PE X a ta):PC X .Is a (.Constant .none j pos') (tIsN ta):=by
  intro pins s σ H Q I h
  refine thn (ha pins s σ H _ I h) fun v s1 ⟨x,H1,I1,r1,q1⟩=>?_
  exact Constant_none (is_none_gen ⟨.bl _,H1,I1,by rw [r1.none_iff]; rfl,q1⟩)
theorem pc_notN {j pos'} (ha:PE X a ta):PC X .IsNot a (.Constant .none j pos') (tNotN ta):=by
  intro pins s σ H Q I h
  refine thn (ha pins s σ H _ I h) fun v s1 ⟨x,H1,I1,r1,q1⟩=>?_
  exact Constant_none (isnot_none_gen ⟨.bl _,H1,I1,by rw [r1.none_iff]; rfl,q1⟩)
def tB (t:TE):TT:=fun σ H Q=>t σ H fun x H1=>∃ c,x=.bl c∧Q c H1
theorem yim {op:CmpOp} {t:TE} (h:PC X op a b t) (h1:behindInMarks op b=false:=by first | exact nobehind _ (by decide) (by decide) | rfl):PT X (.Compare a [op] [b] pos) (tB t):=by
  intro pins s σ H Q I hw
  refine wpAny_isTrue_Compare1 (thn (h pins s σ H _ I hw) fun v s1 h1=>thn h1 fun u s2 h2=>thn h2 fun c s3 ⟨x,H1,I1,r1,q1⟩=>?_) h1
  obtain ⟨d,rfl,q⟩:=q1
  cases r1
  exact wpAny_truthy_bool ⟨H1,I1,q⟩
theorem qdb {e:Expr} {t:TE} (h:PE X e t) (he:∀ whole,isTrue e X.env whole=(do let v ← whole; standAt e.pos; holding [v] (truthy v)):=by intro _; rfl):PT X e (tB t):=by
  intro pins s σ H Q I hw
  refine isTrue_plain (thn (h pins s σ H _ I hw) fun v s1 ⟨x,H1,I1,r1,q1⟩=>?_) (he _)
  obtain ⟨d,rfl,q⟩:=q1
  cases r1
  exact wpAny_truthy_bool ⟨H1,I1,q⟩
variable {tA tB':TT} {rest:List Expr}
def tAnd (t u:TT):TT:=fun σ H Q=>t σ H fun c H1=>if c=true then u σ H1 Q else Q false H1
def tOr (t u:TT):TT:=fun σ H Q=>t σ H fun c H1=>if c=true then Q true H1 else u σ H1 Q
def tNot (t:TT):TT:=fun σ H Q=>t σ H fun c H1=>Q (!c) H1
theorem ye8 (ha:PT X a tA):PW X (.BoolOp .And [a] pos) tA:=by
  intro wh pins s σ H Q I h
  refine isTrue_and (thn (ha pins s σ H Q I h) fun c s1 e=>?_)
  cases c with
  | true=>exact isTrue_and_nil e
  | false=>exact e
theorem qgu (ha:PT X a tA):PW X (.BoolOp .Or [a] pos) tA:=by
  intro wh pins s σ H Q I h
  refine isTrue_or (thn (ha pins s σ H Q I h) fun c s1 e=>?_)
  cases c with
  | false=>exact isTrue_or_nil e
  | true=>exact e
theorem qg3 (ha:PT X a tA) (hb:PW X (.BoolOp .And (b :: rest) pos) tB'):PW X (.BoolOp .And (a :: b :: rest) pos) (tAnd tA tB'):=by
  intro wh pins s σ H Q I h
  refine isTrue_and (thn (ha pins s σ H _ I h) fun c s1 ⟨H1,I1,q1⟩=>?_)
  cases c with
  | true=>exact hb wh pins s1 σ H1 Q I1 q1
  | false=>exact ⟨H1,I1,q1⟩
theorem qiu (ha:PT X a tA) (hb:PW X (.BoolOp .Or (b :: rest) pos) tB'):PW X (.BoolOp .Or (a :: b :: rest) pos) (tOr tA tB'):=by
  intro wh pins s σ H Q I h
  refine isTrue_or (thn (ha pins s σ H _ I h) fun c s1 ⟨H1,I1,q1⟩=>?_)
  cases c with
  | true=>exact ⟨H1,I1,q1⟩
  | false=>exact hb wh pins s1 σ H1 Q I1 q1
theorem ydt (ha:PT X a tA):PT X (.UnaryOp .Not a pos) (tNot tA):=by
  intro pins s σ H Q I h
  exact isTrue_not (ha pins s σ H (fun c H1=>Q (!c) H1) I h)
def tAndV (ta tb:TE):TE:=fun σ H Q=>ta σ H fun x H1=>∃ c,x=.bl c∧if c=true then tb σ H1 Q else Q (.bl false) H1
def tNotV (ta:TE):TE:=fun σ H Q=>ta σ H fun x H1=>∃ c,x=.bl c∧Q (.bl (!c)) H1
theorem qbg {op} {t:TE} (h:PE X a t):PE X (.BoolOp op [a] pos) t:=fun pins s σ H Q I hw=>BoolOp_one (h pins s σ H Q I hw)
theorem yax (ha:PE X a ta) (hb:PE X (.BoolOp .And (b :: rest) pos) tb):PE X (.BoolOp .And (a :: b :: rest) pos) (tAndV ta tb):=by
  intro pins s σ H Q I h
  refine BoolOp_and (thn (ha pins s σ H _ I h) fun v s1 ⟨x,H1,I1,r1,q1⟩=>?_)
  obtain ⟨c,rfl,q1⟩:=q1
  cases r1
  refine wpAny_truthy_bool ?_
  cases c with
  | true=>exact hb pins s1 σ H1 Q I1 q1
  | false=>exact ⟨.bl false,H1,I1,rfl,q1⟩
theorem pe_not (ha:PE X a ta):PE X (.UnaryOp .Not a pos) (tNotV ta):=by
  intro pins s σ H Q I h
  refine UnaryOp_ (thn (ha pins s σ H _ I h) fun v s1 ⟨x,H1,I1,r1,q1⟩=>?_)
  obtain ⟨c,rfl,q1⟩:=q1
  cases r1
  exact not_of (wpAny_truthy_bool ⟨.bl (!c),H1,I1,rfl,q1⟩)
end
end L2
namespace L2
open PySem PySem.Spec PyProof.Rows
def SqL (K:PySem.W.Frag) (H:Hp) (a:Addr) (xs:List V):Prop:=
  Rd H a (.lst xs)∨
    ∃ (o:Obj) (its:Array Value) (n:Nat),K.lookup a=some o∧o.cls=.type "list"∧o.dict=none∧o.data=.seq its n∧its.size≤sizeLine∧Vals xs its.toList
def SqT (K:PySem.W.Frag) (H:Hp) (a:Addr) (xs:List V):Prop:=
  Rd H a (.tup xs)∨
    ∃ (o:Obj) (its:Array Value) (n:Nat),K.lookup a=some o∧o.cls=.type "tuple"∧o.data=.seq its n∧its.size≤sizeLine∧Vals xs its.toList
def absV:Value→Option V
  | .none=>some .non
  | .bool b=>some (.bl b)
  | .int i _=>some (.int i)
  | .str x _=>some (.str x)
  | .bytes b _=>some (.byt b)
  | .float b _=>some (.flt b)
  | .ref a=>some (.ref a)
  | .type n=>some (.ty n)
  | _=>none
theorem RelV.abs {x:V} {u:Value} (r:RelV x u):absV u=some x:=by
  cases x with
  | non=>cases r; rfl
  | bl _=>cases r; rfl
  | int _=>obtain ⟨t,rfl⟩:=r; rfl
  | str _=>obtain ⟨t,rfl⟩:=r; rfl
  | byt _=>obtain ⟨t,rfl⟩:=r; rfl
  | flt _=>obtain ⟨t,rfl⟩:=r; rfl
  | ref _=>cases r; rfl
  | ty _=>cases r; rfl
theorem RelV.inj {x y:V} {u:Value} (r:RelV x u) (q:RelV y u):x=y:=Option.some.inj (r.abs.symm.trans q.abs)
theorem Vals.inj:∀ {xs ys:List V} {us:List Value},Vals xs us→Vals ys us→xs=ys
  | _,_,_,.nil,.nil=>rfl
  | _,_,_,.cons r t,.cons r' t'=>by rw [r.inj r',Vals.inj t t']
section
variable {X:Cx} {pins:List (Addr×Obj)} {σ:St} {H:Hp} {s:Shared} {a:Addr} {xs ys:List V}
theorem SqL.of {K:PySem.W.Frag} (h:H a=some (.lst xs)):SqL K H a xs:=.inl (.inl h)
theorem SqT.of {K:PySem.W.Frag} (h:H a=some (.tup xs)):SqT K H a xs:=.inl (.inl h)
theorem Inv.list (I:Inv X pins σ H s) (h:SqL X.K H a xs):∃ its:List Value,Vals xs its∧PlainL s.heap a its.toArray∧xs.length≤sizeLine:=by
  rcases h with h | ⟨o,its,n,hk,hc,hd,hs,hz,r⟩
  · obtain ⟨z,its,n,r,e⟩:=h.ok I.hok
    exact ⟨its,r,⟨_,n,e,rfl,rfl,rfl⟩,z⟩
  · refine ⟨its.toList,r,⟨o,n,I.kIn a o hk,hc,hd,by simpa using hs⟩,?_⟩
    have e:=r.length
    simp only [Array.length_toList] at e
    omega
theorem Inv.tuple (I:Inv X pins σ H s) (h:SqT X.K H a xs):∃ its:List Value,Vals xs its∧IsTup s.heap a its.toArray∧xs.length≤sizeLine:=by
  rcases h with h | ⟨o,its,n,hk,hc,hs,hz,r⟩
  · obtain ⟨z,its,r,p⟩:=h.ok I.hok
    exact ⟨its,r,p,z⟩
  · refine ⟨its.toList,r,⟨o,I.kIn a o hk,hc,n,by simpa using hs⟩,?_⟩
    have e:=r.length
    simp only [Array.length_toList] at e
    omega
theorem Inv.list_inj (I:Inv X pins σ H s) (h:SqL X.K H a xs) (h':SqL X.K H a ys):xs=ys:=by
  obtain ⟨its,r,⟨o,n,e,_,_,d⟩,_⟩:=I.list h
  obtain ⟨its',r',⟨o',n',e',_,_,d'⟩,_⟩:=I.list h'
  rw [e] at e'; cases e'
  rw [d] at d'
  injection d' with d1 _
  have:its=its':=by simpa using congrArg Array.toList d1
  subst this
  exact r.inj r'
theorem Inv.tuple_inj (I:Inv X pins σ H s) (h:SqT X.K H a xs) (h':SqT X.K H a ys):xs=ys:=by
  obtain ⟨its,r,⟨o,e,_,n,d⟩,_⟩:=I.tuple h
  obtain ⟨its',r',⟨o',e',_,n',d'⟩,_⟩:=I.tuple h'
  rw [e] at e'; cases e'
  rw [d] at d'
  injection d' with d1 _
  have:its=its':=by simpa using congrArg Array.toList d1
  subst this
  exact r.inj r'
end
abbrev Cx.wish (X:Cx) (E:Value→Shared→Prop):Cx:={ X with xe:=E }
abbrev Cx.nox (X:Cx):Cx:=X.wish fun _ _=>False
theorem Cx.Ok.wish {X:Cx} (ok:X.Ok) (E:Value→Shared→Prop):(X.wish E).Ok:=
  ⟨ok.mod,ok.kind,ok.glob,ok.blt,ok.above,ok.inj,ok.has,ok.cab,ok.hd,ok.frames,ok.stk,ok.exf,ok.bs,ok.bsz,ok.noex,ok.exfs,ok.funs,ok.frf⟩
theorem Cx.Ok.unwish {X:Cx} {E:Value→Shared→Prop} (ok:(X.wish E).Ok):X.Ok:=
  ⟨ok.mod,ok.kind,ok.glob,ok.blt,ok.above,ok.inj,ok.has,ok.cab,ok.hd,ok.frames,ok.stk,ok.exf,ok.bs,ok.bsz,ok.noex,ok.exfs,ok.funs,ok.frf⟩
section
variable {X:Cx} {pins:List (Addr×Obj)} {σ:St} {H:Hp} {s:Shared} {E:Value→Shared→Prop}
theorem Inv.wish (I:Inv X pins σ H s) (E:Value→Shared→Prop):Inv (X.wish E) pins σ H s:=⟨I.ok.wish E,I.os,I.bare,I.base,I.loc,I.cell,I.free,I.freeC,I.pin,I.hok,I.len⟩
theorem Inv.unwish (I:Inv (X.wish E) pins σ H s):Inv X pins σ H s:=⟨I.ok.unwish,I.os,I.bare,I.base,I.loc,I.cell,I.free,I.freeC,I.pin,I.hok,I.len⟩
theorem SP.unwish {D:Ends} {f:Flow} {s':Shared} (h:SP (X.wish E) pins D f s'):SP X pins D f s':=by
  cases f with
  | next=>obtain ⟨σ',H',I,q⟩:=h; exact ⟨σ',H',I.unwish,q⟩
  | brk=>obtain ⟨σ',H',I,q⟩:=h; exact ⟨σ',H',I.unwish,q⟩
  | cont=>obtain ⟨σ',H',I,q⟩:=h; exact ⟨σ',H',I.unwish,q⟩
  | ret u=>obtain ⟨v,σ',H',I,r,q⟩:=h; exact ⟨v,σ',H',I.unwish,r,q⟩
theorem PSs.nox {st:List Stmt} {t:TS} (h:PSs X.nox st t):PSs X st t:=fun pins s σ H D I hw=>
  wpAny_mono (h pins s σ H D (I.wish _) hw) (fun _ _ q=>q.unwish) fun _ _ z=>False.elim z
end
section
variable {X:Cx} {st:Stmt} {rest:List Stmt} {t u:TS} {e:Expr} {te:TE} {pos:Pos}
def tNext:TS:=fun D σ H=>D.nx σ H
def tSeq (t u:TS):TS:=fun D σ H=>t { D with nx:=u D } σ H
theorem qbr:PSs X [] tNext:=fun _ _ σ H _ I h=>wpAny_execs_nil ⟨σ,H,I,h⟩
theorem qar (h1:PS X st t) (h2:PSs X rest u):PSs X (st :: rest) (tSeq t u):=by
  intro pins s σ H D I h
  refine wpAny_execs_cons (thn (h1 pins s σ H { D with nx:=u D } I h) fun f s1 q=>?_)
  cases f with
  | next=>
    obtain ⟨σ',H',I',q⟩:=q
    exact h2 pins s1 σ' H' D I' q
  | ret v=>exact q
  | brk=>exact q
  | cont=>exact q
theorem yaj (h1:PS X st t):PSs X [st] t:=by
  intro pins s σ H D I h
  refine wpAny_execs_cons (thn (h1 pins s σ H D I h) fun f s1 q=>?_)
  cases f with
  | next=>exact wpAny_execs_nil q
  | ret v=>exact q
  | brk=>exact q
  | cont=>exact q
theorem Inv.quiet {pins:List (Addr×Obj)} {σ:St} {H:Hp} {s:Shared} (I:Inv X pins σ H s):interactive X.env=false:=by simp [interactive,I.ok.kind]
def tDrop (te:TE):TS:=fun D σ H=>te σ H fun _ H1=>D.nx σ H1
theorem ydx (he:PE X e te) (hs:swapsWith e none pos.line X.env=pure false:=by rfl):PS X (.Expr e pos) (tDrop te):=by
  intro pins s σ H D I h
  exact wpAny_Expr_any (thn (he pins s σ H _ I h) fun v s1 ⟨x,H1,I1,r1,q1⟩=>⟨σ,H1,I1,q1⟩) I.quiet hs
def tRet (te:TE):TS:=fun D σ H=>te σ H D.rt
theorem qbc (he:PE X e te):PS X (.Return (some e) pos) (tRet te):=by
  intro pins s σ H D I h
  exact wpAny_Return_some (thn (he pins s σ H _ I h) fun v s1 ⟨x,H1,I1,r1,q1⟩=>⟨x,σ,H1,I1,r1,q1⟩)
def tIfS (c:TT) (t u:TS):TS:=fun D σ H=>c σ H fun b H1=>if b=true then t D σ H1 else u D σ H1
theorem ydg {c:Expr} {a b:List Stmt} {tc:TT} (hc:PT X c tc) (ha:PSs X a t) (hb:PSs X b u):PS X (.If c a b pos) (tIfS tc t u):=by
  intro pins s σ H D I h
  refine wpAny_If (thn (hc pins s σ H _ I h) fun d s1 ⟨H1,I1,q1⟩=>?_)
  cases d with
  | true=>exact ha pins s1 σ H1 D I1 q1
  | false=>exact hb pins s1 σ H1 D I1 q1
def qkv:TS:=fun _ _ _=>False
theorem ycq:PS X st qkv:=fun _ _ _ _ _ _ h=>h.elim
theorem yjo {sts:List Stmt}:PSs X sts qkv:=fun _ _ _ _ _ _ h=>h.elim
end
abbrev TG:=V→St→Hp→(St→Hp→Prop)→Prop
abbrev TGs:=List V→St→Hp→(St→Hp→Prop)→Prop
def PG (X:Cx) (target:Expr) (t:TG):Prop:=
  ∀ (pins:List (Addr×Obj)) (s:Shared) (σ:St) (H:Hp) (v:V) (u:Value) (Q:St→Hp→Prop),Inv X pins σ H s→RelV v u→t v σ H Q→
    wpAny (model X.prog X.w) X.A (assign target X.env u) (fun _ s'=>∃ σ' H',Inv X pins σ' H' s'∧Q σ' H') X.xe s
def PGs (X:Cx) (ts:List Expr) (t:TGs):Prop:=
  ∀ (pins:List (Addr×Obj)) (s:Shared) (σ:St) (H:Hp) (vs:List V) (us:List Value) (Q:St→Hp→Prop),Inv X pins σ H s→Vals vs us→t vs σ H Q→
    wpAny (model X.prog X.w) X.A (assignInOrder ((assignEach ts X.env).map (·.2)) us) (fun _ s'=>∃ σ' H',Inv X pins σ' H' s'∧Q σ' H') X.xe s
abbrev TSet:=V→V→V→Hp→(Hp→Prop)→Prop
def PSet (X:Cx) (t:TSet):Prop:=
  ∀ (pins:List (Addr×Obj)) (s:Shared) (σ:St) (H:Hp) (o i v:V) (ov iv u:Value) (Q:Hp→Prop),Inv X pins σ H s→RelV o ov→RelV i iv→RelV v u→t o i v H Q→
    wpAny (model X.prog X.w) X.A (setItem ov iv u) (fun _ s'=>∃ H',Inv X pins σ H' s'∧Q H') X.xe s
section
variable {X:Cx} {pos:Pos}
def yfw (i:Nat):TG:=fun v σ H Q=>Q (σ.set i (some v)) H
theorem qaq {i:Nat} {x:Str} (hN:X.N.Nodup) (hi:X.N[i]?=some x) (hx:Loc X.env.scope x) (hf:X.fn x=true∨X.env.scope.names.lookup x=some .local:=by first | exact .inl rfl | exact .inr rfl | assumption):PG X (.Name x pos) (yfw i):=by
  intro pins s σ H v u Q I r h
  exact wpAny_assign_Name (ygc I hN hi hx r (fun s' I'=>⟨_,H,I',h⟩) hf)
def gNil:TGs:=fun vs σ H Q=>vs=[]∧Q σ H
def gCons (t:TG) (u:TGs):TGs:=fun vs σ H Q=>∃ v r,vs=v :: r∧t v σ H fun σ' H'=>u r σ' H' Q
theorem qct:PGs X [] gNil:=by
  intro pins s σ H vs us Q I r h
  obtain ⟨e,h⟩:=h
  subst e
  cases r
  exact assignInOrder_nil ⟨σ,H,I,h⟩
theorem qaz {e:Expr} {es:List Expr} {t:TG} {u:TGs} (h1:PG X e t) (h2:PGs X es u)
    (hs:(assignEach (e :: es) X.env).map (·.2)=assign e X.env :: (assignEach es X.env).map (·.2):=by rfl):PGs X (e :: es) (gCons t u):=by
  intro pins s σ H vs us Q I r h
  obtain ⟨v,vr,e1,h⟩:=h
  subst e1
  cases r with
  | cons r rr=>
    rw [hs]
    refine assignInOrder_cons (thn (h1 pins s σ H _ _ _ I r h) fun _ s1 ⟨σ1,H1,I1,q1⟩=>?_)
    exact h2 pins s1 σ1 H1 _ _ Q I1 rr q1
def gTup (K:PySem.W.Frag) (n:Nat) (t:TGs):TG:=fun v σ H Q=>∃ a xs,v=.ref a∧SqT K H a xs∧xs.length=n∧t xs σ H Q
theorem yfz {es:List Expr} {k:Nat} {t:TGs} {n:Nat} (hc:X.calm=true) (h:PGs X es t)
    (hn:(assignEach es X.env).length=n:=by rfl) (hst:(assignEach es X.env).findIdx? (·.1)=none:=by rfl):PG X (.Tuple es k pos) (gTup X.K n t):=by
  intro pins s σ H v u Q I r hw
  obtain ⟨a,xs,e1,hq,hl,hw⟩:=hw
  subst e1
  cases r
  obtain ⟨its,rv,ht,hz⟩:=I.tuple hq
  refine assign_Tuple_tuple (I.ok.hd hc) ht (by simp [hn,← hl,rv.length]) hst fun h' hx=>?_
  have I1:Inv X pins σ H { s with heap:=h' }:=I.kept (t':=s.toks) fun b o e=>hx b o (Nat.ne_of_lt (Heap.lt_size e)) e
  exact h pins _ σ H xs _ Q I1 (by simpa using rv) hw
def gSub (to ti:TE) (t:TSet):TG:=fun v σ H Q=>to σ H fun o H1=>ti σ H1 fun i H2=>t o i v H2 fun H3=>Q σ H3
theorem qjg {o i:Expr} {to ti:TE} {t:TSet} (ho:PE X o to) (hi:PE X i ti) (hs:PSet X t)
    (ha:∀ v,assign (.Subscript o i pos) X.env v=(do
      let ov ← holding [v] (eval o X.env)
      let iv ← holding [v,ov] (eval i X.env)
      standAt pos
      holding [v,ov,iv] (setItem ov iv v)
      release [v,ov,iv] []):=by intro _; rfl):PG X (.Subscript o i pos) (gSub to ti t):=by
  intro pins s σ H v u Q I r h
  rw [ha]
  refine wpAny_bind (wpAny_holding (thn (ho pins s σ H _ I h) fun ov s1 ⟨x,H1,I1,r1,q1⟩=>?_))
  refine wpAny_bind (wpAny_holding (thn (hi pins s1 σ H1 _ I1 q1) fun iv s2 ⟨y,H2,I2,r2,q2⟩=>?_))
  refine wpAny_bind (wpAny_standAt (wpAny_bind (wpAny_holding (thn (hs pins s2 σ H2 x y v ov iv u _ I2 r1 r2 r q2) fun _ s3 ⟨H3,I3,q3⟩=>?_))))
  exact wpAny_release ⟨σ,H3,I3,q3⟩
def tAsg (te:TE) (g:TG):TS:=fun D σ H=>te σ H fun x H1=>g x σ H1 D.nx
theorem qjh {tg e:Expr} {te:TE} {g:TG} (he:PE X e te) (hg:PG X tg g) (hs:swapsWithSole [tg] e pos.line X.env=pure false:=by rfl) (hw:swappedStores [tg] e X.env=pure none:=by rfl)
    (h1:(assignEach [tg] X.env).map (·.2)=[assign tg X.env]:=by rfl):PS X (.Assign [tg] e pos) (tAsg te g):=by
  intro pins s σ H D I h
  refine wpAny_Assign_stores (thn (he pins s σ H _ I h) fun v s1 ⟨x,H1,I1,r1,q1⟩=>?_) hs hw
  rw [h1]
  exact thn (hg pins s1 σ H1 x v _ I1 r1 q1) fun _ s2 q=>q
theorem yca {i:Nat} {x:Str} {e:Expr} {te:TE} {pos':Pos} (hN:X.N.Nodup) (hi:X.N[i]?=some x) (hx:Loc X.env.scope x) (he:PE X e te) (hs:swapsWith e (some (.Name x pos')) pos.line X.env=pure false:=by rfl) (hf:X.fn x=true∨X.env.scope.names.lookup x=some .local:=by first | exact .inl rfl | exact .inr rfl | assumption) :
    PS X (.Assign [.Name x pos'] e pos) (tAsg te (yfw i)):=by
  intro pins s σ H D I h
  refine wpAny_Assign_Name (thn (he pins s σ H _ I h) fun v s1 ⟨y,H1,I1,r1,q1⟩=>?_) hs
  exact ygc I1 hN hi hx r1 (fun s2 I2=>⟨_,H1,I2,q1⟩) hf
end
structure It where
  go:Nat→Hp→Prop
  yld:Nat→Hp→V→Hp→Prop
  stop:Nat→Hp→Prop
def FpOk (X:Cx) (pins:List (Addr×Obj)) (H:Hp) (b:Addr):Prop:=
  H b=none∧b≠X.env.locals∧b∉X.fs∧(b∈X.ex∨X.s₀.heap.objs.size≤b)∧(∀ x c,X.env.cells.lookup x=some c→c≠b)∧∀ p∈X.pn++pins,p.1≠b
theorem Inv.fpOk {X:Cx} {pins:List (Addr×Obj)} {σ:St} {H H':Hp} {s:Shared} {b:Addr} (I:Inv X pins σ H s) (hb:s.heap.objs.size≤b) (hn:H' b=none):FpOk X pins H' b:=by
  refine ⟨hn,Nat.ne_of_gt (Nat.lt_of_lt_of_le I.lt hb),I.nofs hb,.inr (Nat.le_trans I.sz hb),fun x c e z=>?_,fun p hp z=>?_⟩
  · obtain ⟨v,q⟩:=I.cell x c e
    exact absurd (Nat.lt_of_lt_of_le q.lt (by rw [z]; exact hb)) (Nat.lt_irrefl _)
  · exact absurd (Nat.lt_of_lt_of_le (Heap.lt_size (I.pin p hp).1) (by rw [z]; exact hb)) (Nat.lt_irrefl _)
structure Turn (P:Program) (w:World) (K:PySem.W.Frag) (tg:Expr) (J:It) (fp:List Addr) (it:Addr) (tn:Nat→Heap→Prop):Prop where
  mem:it∈fp
  obj:∀ i h,tn i h→∀ b∈fp,∃ o,h.get? b=some o∧∀ v,o.data≠.cell v
  keep:∀ i h h',tn i h→(∀ b∈fp,∀ o,h.get? b=some o→h'.get? b=some o)→tn i h'
  item:∀ (X:Cx),X.prog=P→X.w=w→X.K=K→X.calm=true→∀ (i:Nat) (pins:List (Addr×Obj)) (s:Shared) (σ:St) (H:Hp) (E:Value→Shared→Prop),Inv X pins σ H s→(∀ b∈fp,FpOk X pins H b)→tn i s.heap→J.go i H→
    wpAny (model P w) X.A (pyNext (.ref it)) (fun r s1=>∃ u,r=some u∧
      wpAny (model P w) X.A (letOwnedTupleGo tg (.ref it) u) (fun _ s2=>∃ x H',Inv X pins σ H' s2∧RelV x u∧J.yld i H x H'∧tn (i + 1) s2.heap∧∀ b∈fp,H' b=none) E s1) E s
  done:∀ (X:Cx),X.prog=P→X.w=w→X.K=K→X.calm=true→∀ (i:Nat) (pins:List (Addr×Obj)) (s:Shared) (σ:St) (H:Hp) (E:Value→Shared→Prop),Inv X pins σ H s→(∀ b∈fp,FpOk X pins H b)→tn i s.heap→J.stop i H→
    wpAny (model P w) X.A (pyNext (.ref it)) (fun r s1=>r=none∧Inv X pins σ H s1) E s
  self:∀ (A:Around) (i:Nat) (s:Shared) (Q:Value→Shared→Prop) (E:Value→Shared→Prop),tn i s.heap→Q (.ref it) s→wpAny (model P w) A (pyIter (.ref it)) Q E s
abbrev TI:=St→Hp→(It→Hp→Prop)→Prop
def PIE (X:Cx) (pins:List (Addr×Obj)) (σ:St) (tg:Expr) (R:It→Hp→Prop) (itv:Value) (s2:Shared):Prop:=
  ∃ (it:Addr) (fp:List Addr) (tn:Nat→Heap→Prop) (J:It) (H':Hp),itv=.ref it∧Inv X pins σ H' s2∧Turn X.prog X.w X.K tg J fp it tn∧tn 0 s2.heap∧(∀ b∈fp,FpOk X pins H' b)∧R J H'
def PI (X:Cx) (tg iter:Expr) (wi:TI):Prop:=
  ∀ (pins:List (Addr×Obj)) (s:Shared) (σ:St) (H:Hp) (R:It→Hp→Prop),Inv X pins σ H s→wi σ H R→
    wpAny (model X.prog X.w) X.A (eval iter X.env) (fun v s1=>wpAny (model X.prog X.w) X.A (pyIter v) (PIE X pins σ tg R) X.xe s1) X.xe s
theorem go_of {M:Model} {A:Around} {E:Value→Shared→Prop} {s:Shared} {tg:Expr} {it:Addr} {u:Value} {o:Obj} {n:String} {vs:Array Value} {Q:Unit→Shared→Prop} (ho:s.heap.get? it=some o) (hc:o.cls=.type n) (hd:o.data=.fields vs)
    (hn:["enumerate","zip","dict_itemiterator","dict_reverseitemiterator","odict_iterator","itertools.zip_longest","itertools.pairwise"].contains n=false) (hQ:Q () s):wpAny M A (letOwnedTupleGo tg (.ref it) u) Q E s:=by
  unfold letOwnedTupleGo
  cases tg <;> first
    | exact wpAny_pure hQ
    | (cases u <;> first
        | exact wpAny_pure hQ
        | (refine wpAny_bind (wpAny_load ho ?_)
           rw [hc,hd]
           show wpAny M A (if (["enumerate","zip","dict_itemiterator","dict_reverseitemiterator","odict_iterator","itertools.zip_longest","itertools.pairwise"].contains n && vs[0]? == some (rawInt _))=true then _ else _) Q E s
           rw [if_neg (by intro h; rw [hn,Bool.false_and] at h; cases h)]
           exact wpAny_pure hQ))
def Itl (K:PySem.W.Frag) (a:Addr):It:=
  ⟨fun i H=>∃ xs x,SqL K H a xs∧xs[i]?=some x,fun i H x H'=>H'=H∧∀ xs,SqL K H a xs→xs[i]?=some x,fun i H=>∃ xs,SqL K H a xs∧xs.length≤i⟩
def Itr (lo:Int) (n:Nat):It:=⟨fun i _=>i < n,fun i H x H'=>H'=H∧x=.int (lo + i),fun i _=>n≤i⟩
theorem yjj {P:Program} {w:World} {K:PySem.W.Frag} {tg:Expr} (a it:Addr):Turn P w K tg (Itl K a) [it] it (fun i h=>h.IsListIter it a i) where
  mem:=by simp
  obj:=fun i h st b hb=>by
    have e:b=it:=by simpa using hb
    subst e
    obtain ⟨o,e,c,d⟩:=st
    exact ⟨o,e,fun v z=>by rw [d] at z; cases z⟩
  keep:=fun i h h' st k=>st.at fun o e=>k it (by simp) o e
  item:=by
    intro X hP hw hK hc i pins s σ H E I hf st hg
    subst hP hw hK
    obtain ⟨xs,x,hq,hx⟩:=hg
    obtain ⟨its,rv,p,hz⟩:=I.list hq
    obtain ⟨u,hu,ru⟩:=rv.get hx
    obtain ⟨f0,f1,f2,f3,f4,f5⟩:=hf it (by simp)
    refine wpAny_pyNext_list_item st p.isList (x:=u) (by simpa using hu) fun h' st' sb=>?_
    have I1:Inv X pins σ H { s with heap:=h' }:=I.turned (t':=s.toks) (fun b o hb e=>(sb.2 b hb).trans e) f0 f1 f3 f4 f5
    obtain ⟨o,e,c,d⟩:=id st'
    exact ⟨u,rfl,go_of (s:={ s with heap:=h' }) e c d (by decide) ⟨x,H,I1,ru,⟨rfl,fun ys hy=>by rw [I.list_inj hy hq]; exact hx⟩,st',fun b hb=>(hf b hb).1⟩⟩
  done:=by
    intro X hP hw hK hc i pins s σ H E I hf st hg
    subst hP hw hK
    obtain ⟨xs,hq,hx⟩:=hg
    obtain ⟨its,rv,p,hz⟩:=I.list hq
    obtain ⟨f0,f1,f2,f3,f4,f5⟩:=hf it (by simp)
    have hl:=rv.length
    exact wpAny_pyNext_list_end (I.ok.hd hc) st p.isList (by simp; omega) fun h' eb=>⟨rfl,I.turned (t':=s.toks) (fun b o hb e=>eb b o hb e) f0 f1 f3 f4 f5⟩
  self:=fun _ _ _ _ _ st h=>wpAny_pyIter_listiter st h
theorem yiw {P:Program} {w:World} {K:PySem.W.Frag} {tg:Expr} (it:Addr) (lo:Int) (n:Nat):Turn P w K tg (Itr lo n) [it] it (fun i h=>IsRangeIter h it (lo + (i:Nat) * 1) ((n:Int) - (i:Nat)) 1) where
  mem:=by simp
  obj:=fun i h st b hb=>by
    have e:b=it:=by simpa using hb
    subst e
    exact ⟨_,st,fun v z=>by
      have z':Data.fields _=Data.cell v:=z
      cases z'⟩
  keep:=fun i h h' st k=>k it (by simp) _ st
  item:=by
    intro X hP hw hK hc i pins s σ H E I hf st hg
    subst hP hw hK
    obtain ⟨f0,f1,f2,f3,f4,f5⟩:=hf it (by simp)
    have W:=Walks.range (prog:=X.prog) (w:=X.w) (I.ok.hd hc) it lo 1 n
    refine W.item i s _ _ hg st fun v h' tk hv st' kk=>?_
    obtain ⟨t,rfl⟩:=hv
    have I1:Inv X pins σ H { s with heap:=h',toks:=tk }:=I.turned (fun b o hb e=>kk b o (by simpa using hb) e) f0 f1 f3 f4 f5
    refine ⟨_,rfl,go_of (s:={ s with heap:=h',toks:=tk }) (n:="range_iterator") st' rfl rfl (by decide) ⟨.int (lo + i),H,I1,⟨t,?_⟩,⟨rfl,rfl⟩,st',fun b hb=>(hf b hb).1⟩⟩
    rw [Int.mul_one]
  done:=by
    intro X hP hw hK hc i pins s σ H E I hf st hg
    subst hP hw hK
    obtain ⟨f0,f1,f2,f3,f4,f5⟩:=hf it (by simp)
    exact wpAny_pyNext_range_end (I.ok.hd hc) st (by have:n≤i:=hg; omega) fun h' eb=>⟨rfl,I.turned (t':=s.toks) (fun b o hb e=>eb b o hb e) f0 f1 f3 f4 f5⟩
  self:=fun _ _ _ _ _ st h=>wpAny_pyIter_rangeiter st h
end L2
namespace L2
open PySem PySem.Spec PyProof.Rows
section
variable {X:Cx} {tg:Expr}
def iList (K:PySem.W.Frag) (tl:TE):TI:=fun σ H R=>tl σ H fun x H1=>∃ a,x=.ref a∧(∃ xs,SqL K H1 a xs)∧R (Itl K a) H1
theorem ycs {l:Expr} {tl:TE} (hl:PE X l tl):PI X tg l (iList X.K tl):=by
  intro pins s σ H R I h
  refine thn (hl pins s σ H _ I h) fun v s1 ⟨x,H1,I1,r1,q1⟩=>?_
  obtain ⟨a,e,⟨xs,hq⟩,q⟩:=q1
  subst e
  cases r1
  obtain ⟨its,rv,p,hz⟩:=I1.list hq
  refine wpAny_pyIter_list p.isList ?_
  refine ⟨s1.heap.objs.size,[s1.heap.objs.size],_,_,H1,rfl,I1.kept (t':=s1.toks) fun b o e=>Heap.get?_push_of_some _ e,yjj a _,⟨_,Heap.get?_push_size _ rfl,rfl,rfl⟩,fun b hb=>?_,q⟩
  have e:b=s1.heap.objs.size:=by simpa using hb
  subst e
  exact I1.fpOk (Nat.le_refl _) (I1.hok.fresh (Nat.le_refl _))
theorem range_it {pins:List (Addr×Obj)} {σ:St} {H:Hp} {s:Shared} {R:It→Hp→Prop} {E:Value→Shared→Prop} {lo hi:Int} {t u v:Tok} {tk:Nat} (I:Inv X pins σ H s) (h1:-(2 ^ 62)≤lo) (h2:lo < 2 ^ 62) (h3:-(2 ^ 62)≤hi) (h4:hi < 2 ^ 62)
    (q:R (Itr lo (hi - lo).toNat) H):wpAny (model X.prog X.w) X.A (pyIter (.ref s.heap.objs.size)) (PIE X pins σ tg R) E { s with heap:=s.heap.push { cls:=.type "range",data:=.fields #[.int lo t,.int hi u,.int 1 v] },toks:=tk }:=by
  refine wpAny_pyIter_range (IsRange.new ..) (small_one h1 h2 h3 h4) ?_
  have I1:Inv X pins σ H { s with heap:=s.heap.push { cls:=.type "range",data:=.fields #[.int lo t,.int hi u,.int 1 v] },toks:=tk }:=I.kept fun b o e=>Heap.get?_push_of_some _ e
  refine ⟨(s.heap.push { cls:=.type "range",data:=.fields #[.int lo t,.int hi u,.int 1 v] }).objs.size,[(s.heap.push { cls:=.type "range",data:=.fields #[.int lo t,.int hi u,.int 1 v] }).objs.size],_,_,H,rfl,
    I1.kept (t':=tk) fun b o e=>Heap.get?_push_of_some _ e,yiw _ lo (hi - lo).toNat,?_,fun b hb=>?_,q⟩
  · have e1:lo + ((0:Nat):Int) * 1=lo:=by simp
    have e2:(((hi - lo).toNat:Nat):Int) - ((0:Nat):Int)=Builtin.Range.rangeSize lo hi 1:=by rw [rangeSize_one]; split <;> omega
    show IsRangeIter _ _ (lo + ((0:Nat):Int) * 1) ((((hi - lo).toNat:Nat):Int) - ((0:Nat):Int)) 1
    rw [e1,e2]
    exact Heap.get?_push_size _ rfl
  · have e:b=(s.heap.push { cls:=.type "range",data:=.fields #[.int lo t,.int hi u,.int 1 v] }).objs.size:=by simpa using hb
    subst e
    exact I1.fpOk (Nat.le_refl _) (I1.hok.fresh (Nat.le_refl _))
def iRng1 (ta:TA):TI:=fun σ H R=>ta σ H fun vs H1=>∃ j:Int,vs=[.int j]∧-(2 ^ 62)≤j∧j < 2 ^ 62∧R (Itr 0 j.toNat) H1
theorem yfj {a:Expr} {ta:TA} {p pos:Pos} (hg:Gl X "range") (hm:X.mg "range" = none) (ha:PA X [a] ta) (hs:starEach [a] X.env=[(false,eval a X.env)]:=by rfl):PI X tg (.Call (.Name "range" p) [a] [] pos) (iRng1 ta):=by
  intro pins s σ H R I h
  refine Call_ (yfx I hg hm boot_range (PyProof.Rows.callWith_type1 (thn (ha pos pins s σ H _ I h) fun us s1 ⟨vs,H1,I1,r1,q1⟩=>?_) hs rfl))
  obtain ⟨j,e,q1,q2,q⟩:=q1
  subst e
  cases r1 with
  | cons r rr=>
    cases rr
    obtain ⟨t,rfl⟩:=r
    exact call_range_1 (range_it I1 (by omega) (by omega) q1 q2 (by simpa using q))
def tFor (wi:TI) (g:TG) (tb:TS):TS:=fun D σ H=>wi σ H fun J H1=>∃ W:Nat→Nat→St→Hp→Prop,(∃ m,W 0 m σ H1)∧∀ i m σ H,W i m σ H→
  (J.stop i H∧D.nx σ H)∨(J.go i H∧∃ N:St→Hp→Prop,(∀ σ' H',N σ' H'→∃ m',m' < m∧W (i + 1) m' σ' H')∧∀ x H',J.yld i H x H'→g x σ H' fun σ2 H2=>tb { D with nx:=N,ct:=N,bk:=D.nx } σ2 H2)
def qg6 (fp:List Addr) (h:Heap):List (Addr×Obj):=fp.filterMap fun b=>(h.get? b).map fun o=>(b,o)
theorem qdq {fp:List Addr} {h:Heap} {b:Addr} {o:Obj} (hb:b∈fp) (e:h.get? b=some o):(b,o)∈qg6 fp h:=List.mem_filterMap.mpr ⟨b,hb,by rw [e]; rfl⟩
theorem yjb {fp:List Addr} {h:Heap} {p:Addr×Obj} (hp:p∈qg6 fp h):p.1∈fp∧h.get? p.1=some p.2:=by
  obtain ⟨b,hb,e⟩:=List.mem_filterMap.mp hp
  cases q:h.get? b with
  | none=>rw [q] at e; cases e
  | some o=>
    rw [q] at e
    have e':(b,o)=p:=Option.some.inj e
    subst e'
    exact ⟨hb,q⟩
theorem Inv.pinned {pins:List (Addr×Obj)} {σ:St} {H:Hp} {s:Shared} {fp:List Addr} (I:Inv X pins σ H s) (hf:∀ b∈fp,FpOk X pins H b) (ho:∀ b∈fp,∃ o,s.heap.get? b=some o∧∀ v,o.data≠.cell v):Inv X (pins++qg6 fp s.heap) σ H s:=
  I.pins_of fun p hp=>(List.mem_append.mp hp).elim (fun z=>I.pin p (List.mem_append_right _ z)) fun z=>by
    obtain ⟨hb,e⟩:=yjb z
    obtain ⟨f0,f1,f2,_⟩:=hf p.1 hb
    obtain ⟨o,e',d⟩:=ho p.1 hb
    rw [e] at e'; cases e'
    exact ⟨e,f0,f1,f2,d⟩
theorem Inv.unpinned {pins pl:List (Addr×Obj)} {σ:St} {H:Hp} {s:Shared} (I:Inv X (pins++pl) σ H s):Inv X pins σ H s:=I.pins_of fun p hp=>I.pin p (List.mem_append_right _ (List.mem_append_left _ hp))
theorem yfh {iter:Expr} {body:List Stmt} {wi:TI} {g:TG} {tb:TS} {pos:Pos} (hp:PassesOwn (model X.prog X.w) X.A X.env X.xe) (hc:X.calm=true) (hi:PI X tg iter wi) (hg:PG X tg g) (hb:PSs X body tb)
    (hs:∀ x,foldedSetIterable iter X.env x=pure x:=by intro _; rfl):PS X (.For tg iter body [] pos) (tFor wi g tb):=by
  intro pins s σ H D I h
  refine wpAny_For (thn (hi pins s σ H _ I h) fun v s1 h1=>thn h1 fun itv s2 h2=>?_) hs
  obtain ⟨it,fp,tn,J,H2,e,I2,T,st2,f2,W,⟨m0,w0⟩,turn⟩:=h2
  subst e
  -- what stays true of the iterator's objects through the loop
  have stat:∀ {H':Hp},(∀ b∈fp,H' b=none)→∀ b∈fp,FpOk X pins H' b:=fun hn b hb=>⟨hn b hb,(f2 b hb).2⟩
  refine codeAny_forLoop_any (fun n s'=>∃ i σ' H',Inv X pins σ' H' s'∧tn i s'.heap∧(∀ b∈fp,H' b=none)∧W i n σ' H') ?_ m0 ⟨0,σ,H2,I2,st2,fun b hb=>(f2 b hb).1,w0⟩
  rintro n s3 ⟨i,σ3,H3,I3,st3,fr3,w3⟩
  rcases turn i n σ3 H3 w3 with ⟨stop,qn⟩ | ⟨go,N,hN,step⟩
  · refine wpAny_passesOwn hp (thn (T.done X rfl rfl rfl hc i pins s3 σ3 H3 X.xe I3 (stat fr3) st3 stop) fun r s4 ⟨hr,I4⟩=>?_)
    subst hr
    exact wpAny_execs_nil ⟨σ3,H3,I4,qn⟩
  · refine wpAny_passesOwn hp (thn (T.item X rfl rfl rfl hc i pins s3 σ3 H3 X.xe I3 (stat fr3) st3 go) fun r s4 ⟨u,hr,h4⟩=>?_)
    subst hr
    refine wpAny_passesOwn hp (thn h4 fun _ s5 ⟨x,H5,I5,r5,y5,st5,fr5⟩=>?_)
    have I5':=I5.pinned (stat fr5) (T.obj _ _ st5)
    refine wpAny_passesOwn hp (thn (hg _ s5 σ3 H5 x u _ I5' r5 (step x H5 y5)) fun _ s6 ⟨σ6,H6,I6,q6⟩=>?_)
    refine wpAny_passesOwn hp (thn (hb _ s6 σ6 H6 _ I6 q6) fun f s7 q7=>?_)
    have again:∀ {σ7:St} {H7:Hp},Inv X (pins++qg6 fp s5.heap) σ7 H7 s7→N σ7 H7→∃ m,m < n∧∃ i σ' H',Inv X pins σ' H' s7∧tn i s7.heap∧(∀ b∈fp,H' b=none)∧W i m σ' H':=fun {σ7 H7} I7 n7=>by
      obtain ⟨m',hm,w7⟩:=hN σ7 H7 n7
      refine ⟨m',hm,i + 1,σ7,H7,I7.unpinned,T.keep _ _ _ st5 fun b hb o e=>(I7.pin (b,o) (List.mem_append_right _ (List.mem_append_right _ (qdq hb e)))).1,fun b hb=>?_,w7⟩
      obtain ⟨o,e,d⟩:=T.obj _ _ st5 b hb
      exact (I7.pin (b,o) (List.mem_append_right _ (List.mem_append_right _ (qdq hb e)))).2.1
    cases f with
    | next=>obtain ⟨σ7,H7,I7,n7⟩:=q7; exact again I7 n7
    | cont=>obtain ⟨σ7,H7,I7,n7⟩:=q7; exact again I7 n7
    | brk=>obtain ⟨σ7,H7,I7,q7⟩:=q7; exact ⟨σ7,H7,I7.unpinned,q7⟩
    | ret v=>obtain ⟨x7,σ7,H7,I7,r7,q7⟩:=q7; exact ⟨x7,σ7,H7,I7.unpinned,r7,q7⟩
end
theorem ycr {K:PySem.W.Frag} {a:Addr} {xs:List V} {g:TG} {tb:TS} {D:Ends} {σ:St} {H:Hp} (Pv:Nat→St→Hp→Prop) (h0:Pv 0 σ H) (hl:∀ i σ H,i≤xs.length→Pv i σ H→SqL K H a xs)
    (hs:∀ i x σ H,xs[i]?=some x→Pv i σ H→g x σ H fun σ2 H2=>tb { D with nx:=Pv (i + 1),ct:=Pv (i + 1),bk:=D.nx } σ2 H2) (hd:∀ σ H,Pv xs.length σ H→D.nx σ H) :
    ∃ W:Nat→Nat→St→Hp→Prop,(∃ m,W 0 m σ H)∧∀ i m σ H,W i m σ H→
      ((Itl K a).stop i H∧D.nx σ H)∨((Itl K a).go i H∧∃ N:St→Hp→Prop,(∀ σ' H',N σ' H'→∃ m',m' < m∧W (i + 1) m' σ' H')∧∀ x H',(Itl K a).yld i H x H'→g x σ H' fun σ2 H2=>tb { D with nx:=N,ct:=N,bk:=D.nx } σ2 H2):=by
  refine ⟨fun i m σ H=>m=xs.length - i∧i≤xs.length∧Pv i σ H,⟨xs.length,by simp,Nat.zero_le _,h0⟩,?_⟩
  rintro i m σ H ⟨rfl,hi,p⟩
  have q:=hl i σ H hi p
  by_cases hlt:i < xs.length
  · refine .inr ⟨⟨xs,xs[i],q,by simp [hlt]⟩,Pv (i + 1),fun σ' H' p'=>⟨xs.length - (i + 1),by omega,rfl,hlt,p'⟩,fun x H' y=>?_⟩
    obtain ⟨e,y⟩:=y
    subst e
    exact hs i x σ _ (y xs q) p
  · have e:i=xs.length:=by omega
    subst e
    exact .inl ⟨⟨xs,q,Nat.le_refl _⟩,hd σ H p⟩
theorem ye6 {lo:Int} {n:Nat} {g:TG} {tb:TS} {D:Ends} {σ:St} {H:Hp} (Pv:Nat→St→Hp→Prop) (h0:Pv 0 σ H)
    (hs:∀ i σ H,i < n→Pv i σ H→g (.int (lo + i)) σ H fun σ2 H2=>tb { D with nx:=Pv (i + 1),ct:=Pv (i + 1),bk:=D.nx } σ2 H2) (hd:∀ σ H,Pv n σ H→D.nx σ H) :
    ∃ W:Nat→Nat→St→Hp→Prop,(∃ m,W 0 m σ H)∧∀ i m σ H,W i m σ H→
      ((Itr lo n).stop i H∧D.nx σ H)∨((Itr lo n).go i H∧∃ N:St→Hp→Prop,(∀ σ' H',N σ' H'→∃ m',m' < m∧W (i + 1) m' σ' H')∧∀ x H',(Itr lo n).yld i H x H'→g x σ H' fun σ2 H2=>tb { D with nx:=N,ct:=N,bk:=D.nx } σ2 H2):=by
  refine ⟨fun i m σ H=>m=n - i∧i≤n∧Pv i σ H,⟨n,by simp,Nat.zero_le _,h0⟩,?_⟩
  rintro i m σ H ⟨rfl,hi,p⟩
  by_cases hlt:i < n
  · refine .inr ⟨hlt,Pv (i + 1),fun σ' H' p'=>⟨n - (i + 1),by omega,rfl,hlt,p'⟩,fun x H' y=>?_⟩
    obtain ⟨e,y⟩:=y
    subst e y
    exact hs i σ _ hlt p
  · have e:i=n:=by omega
    subst e
    exact .inl ⟨Nat.le_refl _,hd σ H p⟩
end L2
namespace L2
open PySem PySem.Spec PyProof.Rows
abbrev R2:=V→V→Hp→VK→Prop
def OpR (X:Cx) (f:Value→Value→Sem Value) (r:R2):Prop:=
  ∀ (pins:List (Addr×Obj)) (s:Shared) (σ:St) (H:Hp) (x y:V) (v u:Value) (Q:VK),Inv X pins σ H s→RelV x v→RelV y u→r x y H Q→
    wpAny (model X.prog X.w) X.A (f v u) (EP X pins σ Q) X.xe s
def UnR (X:Cx) (f:Value→Sem Value) (r:V→Hp→VK→Prop):Prop:=
  ∀ (pins:List (Addr×Obj)) (s:Shared) (σ:St) (H:Hp) (x:V) (v:Value) (Q:VK),Inv X pins σ H s→RelV x v→r x H Q→
    wpAny (model X.prog X.w) X.A (f v) (EP X pins σ Q) X.xe s
def yds (X:Cx) (f:Value) (r:List V→Hp→VK→Prop):Prop:=
  ∀ (pins:List (Addr×Obj)) (s:Shared) (σ:St) (H:Hp) (xs:List V) (us:List Value) (Q:VK),Inv X pins σ H s→Vals xs us→r xs H Q→
    wpAny (model X.prog X.w) X.A (call f us) (EP X pins σ Q) X.xe s
def tOp (r:R2) (ta tb:TE):TE:=fun σ H Q=>ta σ H fun x H1=>tb σ H1 fun y H2=>r x y H2 Q
def tUn (r:V→Hp→VK→Prop) (ta:TE):TE:=fun σ H Q=>ta σ H fun x H1=>r x H1 Q
def rI (C:Int→Int→Prop) (g:Int→Int→V):R2:=fun x y H Q=>∃ i j,x=.int i∧y=.int j∧C i j∧Q (g i j) H
def rI0 (g:Int→Int→V):R2:=fun x y H Q=>∃ i j,x=.int i∧y=.int j∧Q (g i j) H
def rU (g:Int→V):V→Hp→VK→Prop:=fun x H Q=>∃ i,x=.int i∧Q (g i) H
section
variable {X:Cx} {a b c:Expr} {ta tb tc:TE} {pos:Pos}
theorem binT (ha:PE X a ta) (hb:PE X b tb) {pins:List (Addr×Obj)} {s:Shared} {σ:St} {H:Hp} {R:V→V→Hp→Prop} (I:Inv X pins σ H s)
    (h:ta σ H fun x H1=>tb σ H1 fun y H2=>R x y H2) {Q:Value→Shared→Prop} {f:Value→Value→Sem Value}
    (hf:∀ v u s2 x y H2,Inv X pins σ H2 s2→RelV x v→RelV y u→R x y H2→wpAny (model X.prog X.w) X.A (f v u) Q X.xe s2) :
    wpAny (model X.prog X.w) X.A (eval a X.env) (fun v s₁=>wpAny (model X.prog X.w) X.A (eval b X.env) (fun u s₂=>wpAny (model X.prog X.w) X.A (f v u) Q X.xe s₂) X.xe s₁) X.xe s:=by
  refine thn (ha pins s σ H _ I h) fun v s1 ⟨x,H1,I1,r1,q1⟩=>?_
  refine thn (hb pins s1 σ H1 _ I1 q1) fun u s2 ⟨y,H2,I2,r2,q2⟩=>?_
  exact hf v u s2 x y H2 I2 r1 r2 q2
theorem ycn {op:Operator} {r:R2} (ho:OpR X (binaryOp op) r) (ha:PE X a ta) (hb:PE X b tb):PE X (.BinOp a op b pos) (tOp r ta tb):=by
  intro pins s σ H Q I h
  exact wpAny_BinOp (binT ha hb I h fun v u s2 x y H2 I2 rx ry q=>ho pins s2 σ H2 x y v u Q I2 rx ry q)
theorem qht {op:UnaryOp} {r:V→Hp→VK→Prop} (ho:UnR X (unaryOp op) r) (ha:PE X a ta):PE X (.UnaryOp op a pos) (tUn r ta):=by
  intro pins s σ H Q I h
  exact UnaryOp_ (thn (ha pins s σ H _ I h) fun v s1 ⟨x,H1,I1,r1,q1⟩=>ho pins s1 σ H1 x v Q I1 r1 q1)
theorem opI {f:Value→Value→Sem Value} {C:Int→Int→Prop} {g:Int→Int→Int}
    (rule:∀ (i j:Int) (t u:Tok) (s:Shared) (Q:Value→Shared→Prop) (E:Value→Shared→Prop),C i j→Q (.int (g i j) s.toks) { s with toks:=s.toks + 1 }→wpAny (model X.prog X.w) X.A (f (.int i t) (.int j u)) Q E s) :
    OpR X f (rI C fun i j=>.int (g i j)):=by
  intro pins s σ H x y v u Q I rx ry h
  obtain ⟨i,j,rfl,rfl,hc,q⟩:=h
  obtain ⟨t,rfl⟩:=rx
  obtain ⟨t',rfl⟩:=ry
  exact rule i j t t' s _ _ hc ⟨.int (g i j),H,I.tok _,⟨_,rfl⟩,q⟩
theorem opI0 {f:Value→Value→Sem Value} {g:Int→Int→Int}
    (rule:∀ (i j:Int) (t u:Tok) (s:Shared) (Q:Value→Shared→Prop) (E:Value→Shared→Prop),Q (.int (g i j) s.toks) { s with toks:=s.toks + 1 }→wpAny (model X.prog X.w) X.A (f (.int i t) (.int j u)) Q E s) :
    OpR X f (rI0 fun i j=>.int (g i j)):=by
  intro pins s σ H x y v u Q I rx ry h
  obtain ⟨i,j,rfl,rfl,q⟩:=h
  obtain ⟨t,rfl⟩:=rx
  obtain ⟨t',rfl⟩:=ry
  exact rule i j t t' s _ _ ⟨.int (g i j),H,I.tok _,⟨_,rfl⟩,q⟩
theorem opB0 {f:Value→Value→Sem Value} {g:Int→Int→Bool}
    (rule:∀ (i j:Int) (t u:Tok) (s:Shared) (Q:Value→Shared→Prop) (E:Value→Shared→Prop),Q (.bool (g i j)) s→wpAny (model X.prog X.w) X.A (f (.int i t) (.int j u)) Q E s) :
    OpR X f (rI0 fun i j=>.bl (g i j)):=by
  intro pins s σ H x y v u Q I rx ry h
  obtain ⟨i,j,rfl,rfl,q⟩:=h
  obtain ⟨t,rfl⟩:=rx
  obtain ⟨t',rfl⟩:=ry
  exact rule i j t t' s _ _ ⟨.bl (g i j),H,I,rfl,q⟩
def CDiv (i j:Int):Prop:=0 < j∧j < 1073741824
def CPow (i j:Int):Prop:=0≤j∧j≤1000000∧i.natAbs < 2 ^ 64
def CMul (i j:Int):Prop:=(-(2 ^ 64) < i∧i < 2 ^ 64)∨(-(2 ^ 64) < j∧j < 2 ^ 64)
theorem CMul.ok {i j:Int} (h:CMul i j):IntMulOk i j:=by
  rcases h with ⟨h1,h2⟩ | ⟨h1,h2⟩
  · exact .of_left (intBits_le_64 h1 h2)
  · exact .of_right (intBits_le_64 h1 h2)
theorem qdg:OpR X (binaryOp .Add) (rI0 fun i j=>.int (i + j)):=opI0 fun _ _ _ _ _ _ _ q=>add_int q
theorem qff:OpR X (binaryOp .Sub) (rI0 fun i j=>.int (i - j)):=opI0 fun _ _ _ _ _ _ _ q=>sub_int q
theorem ydb:OpR X (binaryOp .Mult) (rI CMul fun i j=>.int (i * j)):=opI fun _ _ _ _ _ _ _ hc q=>mul_int q hc.ok
theorem yki:OpR X (binaryOp .FloorDiv) (rI CDiv fun i j=>.int (i / j)):=opI fun i j _ _ _ _ _ hc q=>by
  have h1:(0:Int) < j:=hc.1
  have h2:j < 1073741824:=hc.2
  exact floordiv_int (by omega) (by rw [Int.fdiv_eq_ediv_of_nonneg i (by omega)]; exact q) (.inl (PyProof.noPylong_small (by omega)))
theorem ycy:OpR X (binaryOp .Mod) (rI (fun _ j=>0 < j) fun i j=>.int (i % j)):=opI fun i j _ _ _ _ _ hc q=>by
  have h1:(0:Int) < j:=hc
  exact mod_int' (by omega) (by rw [Int.fmod_eq_emod_of_nonneg i (by omega)]; exact q)
theorem qip:OpR X (binaryOp .Pow) (rI CPow fun i j=>.int (i ^ j.toNat)):=opI fun _ _ _ _ _ _ _ hc q=>pow_int_small hc.1 hc.2.1 hc.2.2 q
theorem unI {f:Value→Sem Value} {g:Int→Int}
    (rule:∀ (i:Int) (t:Tok) (s:Shared) (Q:Value→Shared→Prop) (E:Value→Shared→Prop),Q (.int (g i) s.toks) { s with toks:=s.toks + 1 }→wpAny (model X.prog X.w) X.A (f (.int i t)) Q E s) :
    UnR X f (rU fun i=>.int (g i)):=by
  intro pins s σ H x v Q I rx h
  obtain ⟨i,rfl,q⟩:=h
  obtain ⟨t,rfl⟩:=rx
  exact rule i t s _ _ ⟨.int (g i),H,I.tok _,⟨_,rfl⟩,q⟩
theorem yfl:UnR X (unaryOp .USub) (rU fun i=>.int (-i)):=unI fun _ _ _ _ _ q=>neg_int q
end
def scal:V→V→Bool
  | .non,.non=>true | .non,.int _=>true | .int _,.non=>true | .non,.bl _=>true | .bl _,.non=>true | .non,.str _=>true | .str _,.non=>true
  | .int _,.int _=>true | .bl _,.bl _=>true | .str _,.str _=>true | .byt _,.byt _=>true
  | .int _,.str _=>true | .str _,.int _=>true | .bl _,.str _=>true | .str _,.bl _=>true
  | _,_=>false
def rEq:R2:=fun x y H Q=>scal x y=true∧Q (.bl (decide (x=y))) H
def rNe:R2:=fun x y H Q=>scal x y=true∧Q (.bl (!decide (x=y))) H
theorem yjt {i j:Int}:decide (V.int i=V.int j)=(i == j):=by
  rw [Bool.eq_iff_iff]
  simp
theorem dec_bl {i j:Bool}:decide (V.bl i=V.bl j)=(i == j):=by
  rw [Bool.eq_iff_iff]
  simp
theorem qj4 {i j:Str}:decide (V.str i=V.str j)=(i == j):=by
  rw [Bool.eq_iff_iff]
  simp
theorem yji {i j:Array UInt8}:decide (V.byt i=V.byt j)=(i.toList == j.toList):=by
  rw [Bool.eq_iff_iff]
  cases i
  cases j
  simp
section
variable {X:Cx} {a b c:Expr} {ta tb tc:TE} {pos:Pos}
theorem qa5 {pins:List (Addr×Obj)} {σ:St} {H:Hp} {s:Shared} {Q:VK} {k k':Bool} (I:Inv X pins σ H s) (q:Q (.bl k) H) (e:k=k'):EP X pins σ Q (.bool k') s:=by
  subst e
  exact ⟨.bl k,H,I,rfl,q⟩
theorem ycz:OpR X (compareOp .Eq) rEq:=by
  intro pins s σ H x y v u Q I rx ry h
  obtain ⟨hs,q⟩:=h
  cases x with
  | non=>
    cases rx
    cases y with
    | non=>cases ry; exact PySem.EqNone.eq_none_none (qa5 I q (by simp))
    | bl j=>cases ry; exact PySem.EqNone.eq_none_bool (qa5 I q (by simp))
    | int j=>obtain ⟨t',rfl⟩:=ry; exact PySem.EqNone.eq_none_int (qa5 I q (by simp))
    | str j=>obtain ⟨t',rfl⟩:=ry; exact PySem.EqNone.eq_none_str (qa5 I q (by simp))
    | _=>exact absurd (show false=true from hs) Bool.false_ne_true
  | bl i=>
    cases rx
    cases y with
    | non=>cases ry; exact PySem.EqNone.eq_bool_none (qa5 I q (by simp))
    | bl j=>cases ry; exact eq_bool (qa5 I q dec_bl)
    | str j=>obtain ⟨t',rfl⟩:=ry; exact PySem.EqMixed.eq_bool_str (qa5 I q (by simp))
    | _=>exact absurd (show false=true from hs) Bool.false_ne_true
  | int i=>
    obtain ⟨t,rfl⟩:=rx
    cases y with
    | non=>cases ry; exact PySem.EqNone.eq_int_none (qa5 I q (by simp))
    | int j=>obtain ⟨t',rfl⟩:=ry; exact eq_int (qa5 I q yjt)
    | str j=>obtain ⟨t',rfl⟩:=ry; exact PySem.EqMixed.eq_int_str (qa5 I q (by simp))
    | _=>exact absurd (show false=true from hs) Bool.false_ne_true
  | str i=>
    obtain ⟨t,rfl⟩:=rx
    cases y with
    | non=>cases ry; exact PySem.EqNone.eq_str_none (qa5 I q (by simp))
    | bl j=>cases ry; exact PySem.EqMixed.eq_str_bool (qa5 I q (by simp))
    | int j=>obtain ⟨t',rfl⟩:=ry; exact PySem.EqMixed.eq_str_int (qa5 I q (by simp))
    | str j=>obtain ⟨t',rfl⟩:=ry; exact eq_str (qa5 I q qj4)
    | _=>exact absurd (show false=true from hs) Bool.false_ne_true
  | byt i=>
    obtain ⟨t,rfl⟩:=rx
    cases y with
    | byt j=>obtain ⟨t',rfl⟩:=ry; exact PySem.W.eq_bytes (qa5 I q yji)
    | _=>exact absurd (show false=true from hs) Bool.false_ne_true
  | _=>cases y <;> exact absurd (show false=true from hs) Bool.false_ne_true
theorem yf9:OpR X (compareOp .NotEq) rNe:=by
  intro pins s σ H x y v u Q I rx ry h
  obtain ⟨hs,q⟩:=h
  cases x with
  | non=>
    cases rx
    cases y with
    | non=>cases ry; exact PySem.EqNone.ne_none_none (qa5 I q (by simp))
    | bl j=>cases ry; exact PySem.EqNone.ne_none_bool (qa5 I q (by simp))
    | int j=>obtain ⟨t',rfl⟩:=ry; exact PySem.EqNone.ne_none_int (qa5 I q (by simp))
    | str j=>obtain ⟨t',rfl⟩:=ry; exact PySem.EqNone.ne_none_str (qa5 I q (by simp))
    | _=>exact absurd (show false=true from hs) Bool.false_ne_true
  | bl i=>
    cases rx
    cases y with
    | non=>cases ry; exact PySem.EqNone.ne_bool_none (qa5 I q (by simp))
    | bl j=>cases ry; exact ne_bool (qa5 I q (congrArg not dec_bl))
    | str j=>obtain ⟨t',rfl⟩:=ry; exact PySem.EqMixed.ne_bool_str (qa5 I q (by simp))
    | _=>exact absurd (show false=true from hs) Bool.false_ne_true
  | int i=>
    obtain ⟨t,rfl⟩:=rx
    cases y with
    | non=>cases ry; exact PySem.EqNone.ne_int_none (qa5 I q (by simp))
    | int j=>obtain ⟨t',rfl⟩:=ry; exact ne_int (qa5 I q (congrArg not yjt))
    | str j=>obtain ⟨t',rfl⟩:=ry; exact PySem.EqMixed.ne_int_str (qa5 I q (by simp))
    | _=>exact absurd (show false=true from hs) Bool.false_ne_true
  | str i=>
    obtain ⟨t,rfl⟩:=rx
    cases y with
    | non=>cases ry; exact PySem.EqNone.ne_str_none (qa5 I q (by simp))
    | bl j=>cases ry; exact PySem.EqMixed.ne_str_bool (qa5 I q (by simp))
    | int j=>obtain ⟨t',rfl⟩:=ry; exact PySem.EqMixed.ne_str_int (qa5 I q (by simp))
    | str j=>obtain ⟨t',rfl⟩:=ry; exact ne_str (qa5 I q (congrArg not qj4))
    | _=>exact absurd (show false=true from hs) Bool.false_ne_true
  | byt i=>
    obtain ⟨t,rfl⟩:=rx
    cases y with
    | byt j=>obtain ⟨t',rfl⟩:=ry; exact PySem.W.ne_bytes (qa5 I q (congrArg not yji))
    | _=>exact absurd (show false=true from hs) Bool.false_ne_true
  | _=>cases y <;> exact absurd (show false=true from hs) Bool.false_ne_true
theorem qg9:OpR X (compareOp .Lt) (rI0 fun i j=>.bl (decide (i < j))):=opB0 fun _ _ _ _ _ _ _ q=>lt_int q
theorem op_le:OpR X (compareOp .LtE) (rI0 fun i j=>.bl (decide (i≤j))):=opB0 fun _ _ _ _ _ _ _ q=>le_int q
theorem yfv:OpR X (compareOp .Gt) (rI0 fun i j=>.bl (decide (j < i))):=opB0 fun _ _ _ _ _ _ _ q=>gt_int q
theorem yew:OpR X (compareOp .GtE) (rI0 fun i j=>.bl (decide (j≤i))):=opB0 fun _ _ _ _ _ _ _ q=>ge_int q
theorem yah (b:Expr) {op:CmpOp} (h:op≠.In:=by decide) (h2:op≠.NotIn:=by decide):behindInMarks op b=false:=by
  have e1:(op == CmpOp.In)=false:=by cases op <;> first | rfl | exact absurd rfl h
  have e2:(op == CmpOp.NotIn)=false:=by cases op <;> first | rfl | exact absurd rfl h2
  cases b <;> simp [behindInMarks,e1,e2]
theorem yar {op:CmpOp} {r:R2} (ho:OpR X (compareOp op) r) (ha:PE X a ta) (hb:PE X b tb) (hm:behindInMarks op b=false):PE X (.Compare a [op] [b] pos) (tOp r ta tb):=by
  intro pins s σ H Q I h
  exact wpAny_Compare1 (binT ha hb I h fun v u s2 x y H2 I2 rx ry q=>ho pins s2 σ H2 x y v u Q I2 rx ry q) hm
def tTest (t:TE):TT:=fun σ H Q=>t σ H fun x H'=>∃ k,x=.bl k∧Q k H'
theorem qbn {op:CmpOp} {r:R2} (ho:OpR X (compareOp op) r) (ha:PE X a ta) (hb:PE X b tb) (hm:behindInMarks op b=false):PT X (.Compare a [op] [b] pos) (tTest (tOp r ta tb)):=by
  intro pins s σ H Q I h
  refine wpAny_isTrue_Compare1 (thn (ha pins s σ H _ I h) fun v s1 ⟨x,H1,I1,r1,q1⟩=>thn (hb pins s1 σ H1 _ I1 q1) fun u s2 ⟨y,H2,I2,r2,q2⟩=>
    thn (ho pins s2 σ H2 x y v u _ I2 r1 r2 q2) fun c s3 ⟨z,H3,I3,r3,k,e,q3⟩=>?_) hm
  subst e
  cases r3
  exact wpAny_truthy_bool ⟨H3,I3,q3⟩
theorem qif:(sizeLine:Nat) < 2 ^ 63:=by rw [sizeLine_eq]; decide
theorem vals1 {x:V} {us:List Value} (r:Vals [x] us):∃ u,us=[u]∧RelV x u:=by
  cases r with
  | cons r1 r2=>cases r2; exact ⟨_,rfl,r1⟩
theorem vals2 {x y:V} {us:List Value} (r:Vals [x,y] us):∃ u w',us=[u,w']∧RelV x u∧RelV y w':=by
  cases r with
  | cons r1 r2=>
    cases r2 with
    | cons r3 r4=>cases r4; exact ⟨_,_,rfl,r1,r3⟩
theorem call_abs:yds X (.builtin "abs") (fun xs H Q=>∃ i,xs=[.int i]∧Q (.int (if i < 0 then -i else i)) H):=by
  intro pins s σ H xs us Q I r h
  obtain ⟨i,rfl,q⟩:=h
  obtain ⟨u,rfl,t,rfl⟩:=vals1 r
  exact call_abs_int fun u tk=>⟨.int (if i < 0 then -i else i),H,I.tok _,⟨_,rfl⟩,q⟩
theorem qj6 (hc:X.calm=true):yds X (.builtin "max") (fun xs H Q=>∃ i j,xs=[.int i,.int j]∧Q (.int (if j > i then j else i)) H):=by
  intro pins s σ H xs us Q I r h
  obtain ⟨i,j,rfl,q⟩:=h
  obtain ⟨u,w',rfl,⟨t,rfl⟩,⟨t',rfl⟩⟩:=vals2 r
  refine max_two_ints (I.ok.hd hc) fun h' tk k=>⟨_,H,I.kept k,?_,q⟩
  by_cases hj:j > i
  · rw [if_pos hj,if_pos hj]; exact ⟨_,rfl⟩
  · rw [if_neg hj,if_neg hj]; exact ⟨_,rfl⟩
end
end L2
namespace L2
open PySem PySem.Spec PyProof.Rows
structure ObjM (h:Heap) (x dx C:Addr) (mA:Str→Option Value):Prop where
  obj:h.get? x=some (PySem.W.instObj C dx)
  ns:h.Ns1 dx mA
  ne:dx≠x
theorem ykk {h:Heap} {dx:Addr} {mA:Str→Option Value} (n:h.Ns1 dx mA):∃ od,h.get? dx=some od∧∀ name,PySem.W.lookIn name od=some (mA name):=by
  obtain ⟨o,es,ep,ho,hd,hk,_,hm⟩:=n
  refine ⟨o,ho,fun name=>?_⟩
  have e:=hm name
  unfold nsFind findBy at e
  rw [← Array.find?_toList] at e
  unfold PySem.W.lookIn
  rw [hd]
  dsimp only
  split
  · rename_i y q
    rw [q] at e
    exact congrArg some e
  · rename_i q
    rw [q] at e
    have a:es.toList.any (·.refKey)=false:=by
      rw [List.any_eq_false]
      intro y hy
      obtain ⟨z,t,hkey⟩:=hk y (Array.mem_toList_iff.mp hy)
      simp [DictEntry.refKey,hkey]
    have a':¬ es.toList.any (·.refKey)=true:=by rw [a]; exact Bool.false_ne_true
    rw [if_neg a']
    exact congrArg some e
theorem ObjM.look {h:Heap} {x dx C:Addr} {mA:Str→Option Value} (I:ObjM h x dx C mA):∃ od,PySem.W.InstAt h x (PySem.W.instObj C dx) C (some od)∧∀ name,PySem.W.lookIn name od=some (mA name):=
  let ⟨od,ho,hl⟩:=ykk I.ns
  ⟨od,⟨I.obj,rfl,rfl,ho⟩,hl⟩
section
variable {prog:Program} {w:World} {A:Around} {E:Value→Shared→Prop} {s:Shared} {K:PySem.W.Frag} {x dx C f:Addr} {mA:Str→Option Value} {name:Str} {v:Value}
theorem get_map {expr:Bool} {Q:Value→Shared→Prop} (X:K.In s.heap) (I:ObjM s.heap x dx C mA) (hg:PySem.W.plainGet K C name=true) (hh:PySem.W.hasDictIn K C=true)
    (ha:PySem.W.findIn K (.ref C) name=some none) (hv:mA name=some v) (hv':PySem.W.handedIn v=true) (h:Q v { s with toks:=s.toks + 1 }) :
    wpAny (model prog w) A (getAttr (.ref x) name expr) Q E s:=by
  obtain ⟨od,J,hl⟩:=I.look
  exact PySem.W.get_value X J (PySem.W.plainGet_of hg).1 (PySem.W.findObj_own hh ha rfl (by rw [hl,hv])) hv' h
theorem get_meth {pl:Sem Bool} {Q:Value×List Value→Shared→Prop} (X:K.In s.heap) (I:ObjM s.heap x dx C mA) (hg:PySem.W.plainGet K C name=true)
    (hf:PySem.W.findIn K (.ref C) name=some (some (.ref f))) (ht:PySem.W.isFn K (.ref f)=true) (hv:mA name=none) (h:Q (.ref f,[.ref x]) s) :
    wpAny (model prog w) A (getMethod (.ref x) name pl) Q E s:=by
  obtain ⟨od,J,hl⟩:=I.look
  exact PySem.W.method_fn X J (PySem.W.plainGet_of hg).1 (PySem.W.plainGet_of hg).2 hf (beq_iff_eq.mp ht) (by show (PySem.W.lookIn name od).map (·.isSome)=some false; rw [hl,hv]; rfl) h
theorem set_map {ns:List Str} {Q:Unit→Shared→Prop} (X:K.In s.heap) (I:ObjM s.heap x dx C mA)
    (hs:PySem.W.findIn K (.ref C) "__setattr__" = some (some (.builtin "object.__setattr__"))) (hp:PySem.W.plainOver K C=true) (ht:PySem.W.takerIn K C name=some none) (hh:PySem.W.hasDictIn K C=true)
    (hw:PySem.Within mA ns) (hsz:ns.length≤sizeLine)
    (h:∀ h',ObjM h' x dx C (fun y=>if y=name then some v else mA y)→Heap.SameBut dx s.heap h'→Q () { s with heap:=h',toks:=s.toks + 2 }) :
    wpAny (model prog w) A (setAttr (.ref x) name v) Q E s:=by
  obtain ⟨od,J,hl⟩:=I.look
  refine PySem.W.set_plain X J hs (PySem.W.osa_open (s:={ s with toks:=s.toks + 1 }) (r:=none) X J hp ht fun b=>?_)
  obtain ⟨cd,hc,hd'⟩:=PySem.W.any_some hh
  have hx:s.heap.get? x=some ⟨.ref C,some dx,.plain,#[]⟩:=I.obj
  refine wpAny_bind (wpAny_pure (wpAny_bind (wpAny_bind (wpAny_loadPart hx (wpAny_bind (PySem.W.Looks.here (s:={ s with toks:=s.toks + 1 }) (PySem.W.looks_clsIn X hc) ?_))))))
  rw [hd']
  refine wpAny_pure (a:=some dx) (wpAny_bind (wpAny_pure (wpAny_bind ?_)))
  refine wpAny_nsSet1 (s:={ s with toks:=s.toks + 1 }) I.ns fun h' hn2 hs2=>?_
  obtain ⟨oD,esD,epD,hoD,hdD,hcD⟩:=hn2.count (PySem.Within.cons name v hw)
  refine wpAny_bind (wpAny_lookBehind hoD (by rw [hdD]; exact pastItsLine_dict (Nat.le_trans hcD (by rw [List.length_cons]; omega))) ?_)
  exact wpAny_pure (h _ ⟨(hs2.2 _ (Ne.symm I.ne)).trans I.obj,hn2,I.ne⟩ hs2)
theorem qh5 {R:Result→Shared→Prop} {vs:List Value} {kw:List (Str×Value)} (X:K.In s.heap) (hm:PySem.W.makesIn K C=true)
    (hi:PySem.W.findIn K (.ref C) "__init__" = some (some (.ref f))) (hf:PySem.W.typeIn K (.ref f)=some (.type "function"))
    (h:codeAny (model prog w) (A.under (.builtin "type.__call__" ⟨.ref C :: vs,kw⟩)) (.call (.ref f) ⟨.ref (s.heap.objs.size + 1) :: vs,kw⟩) (PySem.W.InitBack (s.heap.objs.size + 1) R)
      { s with heap:=(s.heap.push PySem.W.emptyDict).push (PySem.W.instObj C s.heap.objs.size) }) :
    codeAny (model prog w) A (.call (.ref C) ⟨vs,kw⟩) R s:=by
  obtain ⟨hh,g,d,t,os⟩:=s
  exact PySem.W.make_core (PySem.W.makes_of X hm) (PySem.W.looks_findIn X hi) (fun self=>PySem.W.bind_fn X self hf) (.inl rfl) h
end
def putF (f:Str) (v:V):List (Str×V)→List (Str×V)
  | []=>[(f,v)]
  | (g,x) :: r=>if g=f then (g,v) :: r else (g,x) :: putF f v r
theorem qd5 (f g:Str) (v:V):∀ fs:List (Str×V),(putF f v fs).lookup g=if g=f then some v else fs.lookup g
  | []=>by
    show List.lookup g [(f,v)]=_
    by_cases h:g=f
    · have hb:(g == f)=true:=beq_iff_eq.mpr h
      simp only [List.lookup,hb,if_pos h]
    · have hb:(g == f)=false:=beq_eq_false_iff_ne.mpr h
      simp only [List.lookup,hb,if_neg h]
  | (k,x) :: r=>by
    have ih:=qd5 f g v r
    rw [show putF f v ((k,x) :: r)=(if k=f then (k,v) :: r else (k,x) :: putF f v r) from rfl]
    by_cases hk:k=f
    · rw [if_pos hk]
      by_cases h:g=k
      · have hb:(g == k)=true:=beq_iff_eq.mpr h
        simp only [List.lookup,hb,if_pos (h.trans hk)]
      · have hb:(g == k)=false:=beq_eq_false_iff_ne.mpr h
        simp only [List.lookup,hb,if_neg (fun e:g=f=>h (e.trans hk.symm))]
    · rw [if_neg hk]
      by_cases h:g=k
      · have hb:(g == k)=true:=beq_iff_eq.mpr h
        simp only [List.lookup,hb,if_neg (fun e:g=f=>hk (h.symm.trans e))]
      · have hb:(g == k)=false:=beq_eq_false_iff_ne.mpr h
        simp only [List.lookup,hb]
        exact ih
theorem qdj (f:Str) (v:V):∀ fs:List (Str×V),f∈(putF f v fs).map (·.1)∧∀ g,g∈fs.map (·.1)→g∈(putF f v fs).map (·.1)
  | []=>⟨by simp [putF],fun g h=>by simp at h⟩
  | (k,x) :: r=>by
    obtain ⟨i1,i2⟩:=qdj f v r
    rw [show putF f v ((k,x) :: r)=(if k=f then (k,v) :: r else (k,x) :: putF f v r) from rfl]
    by_cases hk:k=f
    · rw [if_pos hk]
      subst hk
      exact ⟨by simp,fun g h=>by simpa using h⟩
    · rw [if_neg hk]
      refine ⟨?_,fun g h=>?_⟩
      · rw [List.map_cons]
        exact List.mem_cons_of_mem _ i1
      · rw [List.map_cons] at h ⊢
        rcases List.mem_cons.mp h with e | e
        · exact List.mem_cons.mpr (.inl e)
        · exact List.mem_cons_of_mem _ (i2 g e)
theorem yd4 (f:Str) (v:V):∀ fs:List (Str×V),(putF f v fs).length≤fs.length + 1
  | []=>by simp [putF]
  | (k,x) :: r=>by
    have ih:=yd4 f v r
    rw [show putF f v ((k,x) :: r)=(if k=f then (k,v) :: r else (k,x) :: putF f v r) from rfl]
    by_cases hk:k=f
    · rw [if_pos hk,List.length_cons,List.length_cons]; omega
    · rw [if_neg hk,List.length_cons,List.length_cons]; omega
theorem RelO.some_of {v:V} {o:Option Value} (r:RelO (some v) o):∃ u,o=some u∧RelV v u:=by
  cases o with
  | none=>exact (show False from r).elim
  | some u=>exact ⟨u,rfl,r⟩
theorem RelO.none_of {o:Option Value} (r:RelO none o):o=none:=by
  cases o with
  | none=>rfl
  | some u=>exact (show False from r).elim
theorem qkj {v:V} {u:Value} (r:RelV v u):PySem.W.handedIn u=true:=by
  cases v with
  | non=>cases (show u=Value.none from r); rfl
  | bl b=>cases (show u=Value.bool b from r); rfl
  | int i=>obtain ⟨t,e⟩:=(show ∃ t,u=Value.int i t from r); cases e; rfl
  | str x=>obtain ⟨t,e⟩:=(show ∃ t,u=Value.str x t from r); cases e; rfl
  | byt b=>obtain ⟨t,e⟩:=(show ∃ t,u=Value.bytes b t from r); cases e; rfl
  | flt b=>obtain ⟨t,e⟩:=(show ∃ t,u=Value.float b t from r); cases e; rfl
  | ref a=>cases (show u=Value.ref a from r); rfl
  | ty n=>cases (show u=Value.type n from r); rfl
section
variable {P:Program} {w:World} {H H':Hp} {h h':Heap} {a C dx:Addr} {fs fs':List (Str×V)}
theorem qgl (hok:HOk P w H h) (e:H a=some (.ins C dx fs)):∃ mA,ObjM h a dx C mA∧(∀ f,RelO (fs.lookup f) (mA f))∧PySem.Within mA (fs.map (·.1))∧fs.length≤1000∧H dx=some (.own a):=by
  obtain ⟨d,z,ne,ob,mA,n,r,q⟩:=(show ybc P w H h a (.ins C dx fs) from hok a _ e)
  exact ⟨mA,⟨ob,n,ne⟩,r,q,z,d⟩
end
structure Cls (K:PySem.W.Frag) (C:Addr):Prop where
  pg:PySem.W.plainGet K C Str.empty=true
  hd:PySem.W.hasDictIn K C=true
  po:PySem.W.plainOver K C=true
  sa:PySem.W.findIn K (.ref C) "__setattr__" = some (some (.builtin "object.__setattr__"))
theorem Cls.get {K:PySem.W.Frag} {C:Addr} (c:Cls K C) (f:Str):PySem.W.plainGet K C f=true:=c.pg
def qdu (K:PySem.W.Frag) (C:Addr) (f:Str):Prop:=PySem.W.findIn K (.ref C) f=some none
theorem qdu.taker {K:PySem.W.Frag} {C:Addr} {f:Str} (n:qdu K C f):PySem.W.takerIn K C f=some none:=by
  unfold PySem.W.takerIn
  rw [show PySem.W.findIn K (.ref C) f=some none from n]
  rfl
structure Meth (K:PySem.W.Frag) (C:Addr) (m:Str) (f:Addr):Prop where
  at_:PySem.W.findIn K (.ref C) m=some (some (.ref f))
  fn:PySem.W.isFn K (.ref f)=true
  kp:PySem.W.keepIn K (.ref f)=true
section
variable {X:Cx} {pins:List (Addr×Obj)} {σ:St} {H:Hp} {s:Shared} {a C dx:Addr} {fs:List (Str×V)} {f:Str} {v:V} {A:Around} {E:Value→Shared→Prop}
theorem yir {b:Bool} {Q:Value→Shared→Prop} (I:Inv X pins σ H s) (e:H a=some (.ins C dx fs)) (c:Cls X.K C) (n:qdu X.K C f) (l:fs.lookup f=some v)
    (h:∀ u s',Inv X pins σ H s'→RelV v u→Q u s'):wpAny (model X.prog X.w) A (getAttr (.ref a) f b) Q E s:=by
  obtain ⟨mA,O,r,_,_,_⟩:=qgl I.hok e
  obtain ⟨u,hu,ru⟩:=RelO.some_of (v:=v) (o:=mA f) (by rw [← l]; exact r f)
  exact get_map I.kIn O (c.get f) c.hd n hu (qkj ru) (h u _ (I.tok _) ru)
theorem qei {m:Str} {g:Addr} {pl:Sem Bool} {Q:Value×List Value→Shared→Prop} (I:Inv X pins σ H s) (e:H a=some (.ins C dx fs)) (c:Cls X.K C) (k:Meth X.K C m g) (l:fs.lookup m=none)
    (h:Q (.ref g,[.ref a]) s):wpAny (model X.prog X.w) A (getMethod (.ref a) m pl) Q E s:=by
  obtain ⟨mA,O,r,_,_,_⟩:=qgl I.hok e
  have hn:mA m=none:=RelO.none_of (by rw [← l]; exact r m)
  exact get_meth I.kIn O (c.get m) k.at_ k.fn hn h
theorem yiv {y:V} {u:Value} {Q:Unit→Shared→Prop} (I:Inv X pins σ H s) (e:H a=some (.ins C dx fs)) (c:Cls X.K C) (n:qdu X.K C f) (hl:fs.length < 1000) (ry:RelV y u)
    (h:∀ s',Inv X pins σ (upd H a (.ins C dx (putF f y fs))) s'→Q () s'):wpAny (model X.prog X.w) A (setAttr (.ref a) f u) Q E s:=by
  obtain ⟨mA,O,r,wi,_,ho⟩:=qgl I.hok e
  have hz:(fs.map (·.1)).length≤sizeLine:=by rw [List.length_map,sizeLine_eq]; omega
  refine set_map I.kIn O c.sa c.po n.taker c.hd wi hz fun h' O' sb=>h _ ?_
  have hd:∃ o,h'.get? dx=some o:=let ⟨o,_,_,e',_⟩:=O'.ns; ⟨o,e'⟩
  refine I.write (x:=a) (e:=dx) (by rw [e]; exact True.intro) (.inr ho) (fun b q hb z=>(sb.2 b hb).trans z) hd ?_
  refine ⟨by rw [qaf O.ne]; exact ho,?_,O.ne,O'.obj,_,O'.ns,fun g=>?_,fun g hg=>?_⟩
  · have:=yd4 f y fs; omega
  · show RelO ((putF f y fs).lookup g) (if g=f then some u else mA g)
    rw [qd5]
    by_cases q:g=f
    · rw [if_pos q,if_pos q]; exact ry
    · rw [if_neg q,if_neg q]; exact r g
  · by_cases q:g=f
    · rw [q]; exact (qdj f y fs).1
    · refine (qdj f y fs).2 g (wi g fun z=>hg ?_)
      show (if g=f then some u else mA g)=none
      rw [if_neg q]; exact z
theorem Inv.made (I:Inv X pins σ H s):Inv X pins σ (upd (upd H s.heap.objs.size (.own (s.heap.objs.size + 1))) (s.heap.objs.size + 1) (.ins C s.heap.objs.size []))
    { s with heap:=(s.heap.push PySem.W.emptyDict).push (PySem.W.instObj C s.heap.objs.size) }:=by
  have e1:(s.heap.push PySem.W.emptyDict).get? s.heap.objs.size=some PySem.W.emptyDict:=Heap.get?_push_size s.heap rfl
  have e2:((s.heap.push PySem.W.emptyDict).push (PySem.W.instObj C s.heap.objs.size)).get? (s.heap.objs.size + 1)=some (PySem.W.instObj C s.heap.objs.size):=by
    have:=Heap.get?_push_size (s.heap.push PySem.W.emptyDict) (o:=PySem.W.instObj C s.heap.objs.size) rfl
    rwa [Heap.size_push] at this
  have e3:(s.heap.push PySem.W.emptyDict).Ns s.heap.objs.size (fun _=>none):=⟨PySem.W.emptyDict,#[],_,e1,rfl,(fun e he=>absurd he (by simp)),fun _=>rfl⟩
  have I1:=I.laid (a:=s.heap.objs.size) (o:=.own (s.heap.objs.size + 1)) (h':=s.heap.push PySem.W.emptyDict) (t':=s.toks) (fun b u q=>Heap.get?_push_of_some _ q) (Nat.le_refl _) ⟨_,e1⟩
  refine I1.laid (a:=s.heap.objs.size + 1) (o:=.ins C s.heap.objs.size []) (t':=s.toks) (fun b u q=>Heap.get?_push_of_some _ q) (Nat.le_of_eq (Heap.size_push _ _)) ?_
  have ne:s.heap.objs.size≠s.heap.objs.size + 1:=Nat.ne_of_lt (Nat.lt_succ_self _)
  refine ⟨by rw [qaf ne,qab],Nat.zero_le _,ne,e2,fun _=>none,(Heap.Ns1.of_empty e3).at fun o q=>Heap.get?_push_of_some _ q,fun _=>True.intro,fun y hy=>absurd rfl hy⟩
theorem attr_of {prog:Program} {w:World} {env:Env} {e:Expr} {f:Str} {pos:Pos} {s:Shared} {Q:Value→Shared→Prop} (hb:attributeBase e f env (eval e env)=eval e env)
    (h:wpAny (model prog w) A (eval e env) (fun o s₁=>wpAny (model prog w) A (getAttr o f true) Q E s₁) E s):wpAny (model prog w) A (eval (.Attribute e f pos) env) Q E s:=
  Attribute_any_ h (by rw [arm_eval_Attribute,hb])
end
def tFld (K:PySem.W.Frag) (ta:TE) (f:Str):TE:=fun σ H Q=>ta σ H fun x H1=>∃ a C dx fs v,x=.ref a∧H1 a=some (.ins C dx fs)∧Cls K C∧qdu K C f∧fs.lookup f=some v∧Q v H1
def sFld (K:PySem.W.Frag) (ta tv:TE) (f:Str):TS:=fun D σ H=>tv σ H fun y H1=>ta σ H1 fun x H2=>∃ a C dx fs,x=.ref a∧H2 a=some (.ins C dx fs)∧Cls K C∧qdu K C f∧fs.length < 1000∧
  D.nx σ (upd H2 a (.ins C dx (putF f y fs)))
section
variable {X:Cx} {o e value:Expr} {f:Str} {pos pos' tpos:Pos} {ta tv:TE}
theorem pe_fld (he:PE X e ta) (hb:attributeBase e f X.env (eval e X.env)=eval e X.env):PE X (.Attribute e f pos) (tFld X.K ta f):=by
  intro pins s σ H Q I h
  refine attr_of hb (thn (he pins s σ H _ I h) fun u s1 ⟨x,H1,I1,rx,a,C,dx,fs,v,ex,ea,c,n,l,q⟩=>?_)
  subst ex
  obtain rfl:u=Value.ref a:=rx
  exact yir I1 ea c n l fun u' s2 I2 ru=>⟨v,H1,I2,ru,q⟩
theorem ps_fld (ha:PE X o ta) (hv:PE X value tv) (hs:swapsWith value (some (.Attribute o f pos')) pos.line X.env=pure false):PS X (.Assign [.Attribute o f pos'] value pos) (sFld X.K ta tv f):=by
  intro pins s σ H D I h
  refine plainObj_wpAny_Assign_Attribute (thn (hv pins s σ H _ I h) fun u s1 ⟨y,H1,I1,ry,q⟩=>thn (ha pins s1 σ H1 _ I1 q) fun ov s2 ⟨x,H2,I2,rx,a,C,dx,fs,ex,ea,c,n,l,q2⟩=>?_) hs
  subst ex
  obtain rfl:ov=Value.ref a:=rx
  exact yiv I2 ea c n l ry fun s3 I3=>⟨σ,_,I3,q2⟩
end
section
variable {X:Cx} {pins:List (Addr×Obj)} {σ:St} {H:Hp} {s:Shared} {A:Around} {E:Value→Shared→Prop} {Q:Value→Shared→Prop} {c:Value} {b:Bool}
inductive TyOf (K:PySem.W.Frag) (H:Hp):V→Value→Prop where
  | non:TyOf K H .non (.type "NoneType")
  | bl (x:Bool):TyOf K H (.bl x) (.type "bool")
  | int (i:Int):TyOf K H (.int i) (.type "int")
  | str (x:Str):TyOf K H (.str x) (.type "str")
  | flt (x:UInt64):TyOf K H (.flt x) (.type "float")
  | lst {a:Addr} {xs:List V} (e:H a=some (.lst xs)):TyOf K H (.ref a) (.type "list")
  | frz {a:Addr} {o:Obj} {xs:List V} (e:H a=some (.frz o (.lst xs))):TyOf K H (.ref a) (.type "list")
  | tup {a:Addr} {xs:List V} (e:H a=some (.tup xs)):TyOf K H (.ref a) (.type "tuple")
  | dK {a:Addr} {kvs:List (Key×V)} (e:H a=some (.dK kvs)):TyOf K H (.ref a) (.type "dict")
  | dT {a:Addr} {kvs:List (List Key×V)} (e:H a=some (.dT kvs)):TyOf K H (.ref a) (.type "dict")
  | ins {a C dx:Addr} {fs:List (Str×V)} (e:H a=some (.ins C dx fs)) (cl:Cls K C) (ha:PySem.W.findIn K (.ref C) "__class__" = some (some (.builtin "object.__class__")))
      (hn:PySem.W.specialIn K (.builtin "object.__class__") "__get__" = some (some (.builtin "getset_descriptor.__get__"))) (htk:PySem.W.takesIn K (.builtin "object.__class__")=some true)
      (hm:PySem.W.mroIn K C (.type "object")=some true):TyOf K H (.ref a) (.ref C)
theorem ykd {x:V} {u t:Value} (I:Inv X pins σ H s) (rx:RelV x u) (ty:TyOf X.K H x t) (e:PySem.W.kitOne X.K t c=some b) (h:∀ tk,Q (.bool b) { s with toks:=tk }) :
    wpAny (model X.prog X.w) A (call (.builtin "isinstance") [u,c]) Q E s:=by
  cases ty with
  | non=>cases (show u=Value.none from rx); exact PySem.W.kia_one PySem.W.kitx_none I.kIn True.intro e (fun z=>nomatch z) h
  | bl y=>cases (show u=Value.bool y from rx); exact PySem.W.kia_one PySem.W.kitx_bool I.kIn True.intro e (fun z=>nomatch z) h
  | int i=>obtain ⟨t,q⟩:=(show ∃ t,u=Value.int i t from rx); cases q; exact PySem.W.kia_one PySem.W.kitx_int I.kIn True.intro e (fun z=>nomatch z) h
  | str y=>obtain ⟨t,q⟩:=(show ∃ t,u=Value.str y t from rx); cases q; exact PySem.W.kia_one PySem.W.kitx_str I.kIn True.intro e (fun z=>nomatch z) h
  | flt y=>obtain ⟨t,q⟩:=(show ∃ t,u=Value.float y t from rx); cases q; exact PySem.W.kia_one PySem.W.kitx_float I.kIn True.intro e (fun z=>nomatch z) h
  | @lst a xs ea=>
    cases (show u=Value.ref a from rx)
    obtain ⟨_,_,n,_,h1⟩:=(show ybc X.prog X.w H s.heap a (.lst xs) from I.hok a _ ea)
    exact PySem.W.kia_one PySem.W.kitx_list I.kIn ⟨_,h1,rfl⟩ e (fun z=>nomatch z) h
  | @frz a ob xs ea=>
    cases (show u=Value.ref a from rx)
    obtain ⟨_,_,_,n,_,h1⟩:=(show ybc X.prog X.w H s.heap a (.frz ob (.lst xs)) from I.hok a _ ea)
    exact PySem.W.kia_one PySem.W.kitx_list I.kIn ⟨_,h1,rfl⟩ e (fun z=>nomatch z) h
  | @tup a xs ea=>
    cases (show u=Value.ref a from rx)
    obtain ⟨_,_,_,p⟩:=(show ybc X.prog X.w H s.heap a (.tup xs) from I.hok a _ ea)
    obtain ⟨o,h1,h2,_⟩:=p
    exact PySem.W.kia_one PySem.W.kitx_tuple I.kIn ⟨o,h1,h2⟩ e (fun z=>nomatch z) h
  | @dK a kvs ea=>
    cases (show u=Value.ref a from rx)
    obtain ⟨_,_,vs,_,p⟩:=(show ybc X.prog X.w H s.heap a (.dK kvs) from I.hok a _ ea)
    obtain ⟨o,es,ep,h1,h2,_⟩:=p
    exact PySem.W.kia_one PySem.W.kitx_dict I.kIn ⟨o,h1,h2.1⟩ e (fun z=>nomatch z) h
  | @dT a kvs ea=>
    cases (show u=Value.ref a from rx)
    obtain ⟨_,_,xs,_,o,es,ep,h1,h2,_⟩:=(show ybc X.prog X.w H s.heap a (.dT kvs) from I.hok a _ ea)
    exact PySem.W.kia_one PySem.W.kitx_dict I.kIn ⟨o,h1,h2.1⟩ e (fun z=>nomatch z) h
  | @ins a C dx fs ea cl ha hn htk hm=>
    cases (show u=Value.ref a from rx)
    obtain ⟨mA,O,_⟩:=qgl I.hok ea
    obtain ⟨od,J,_⟩:=O.look
    exact PySem.W.kia_one (PySem.W.kitx_own (cl.get _) cl.hd ha hn htk hm) I.kIn J e (fun z=>nomatch z) h
end
end L2
namespace L2
open PySem PySem.Spec PyProof.Rows
structure Room (k:Nat) (A:Around):Prop where
  hd:A.handled=none
  dp:A.depth + 3 * k + 5 < recursionLimit
  un:A.units + 16 * k + 200 < cLine
  gd:A.guards=some []
theorem Room.mono {j k:Nat} {A:Around} (r:Room k A) (h:j≤k):Room j A:=⟨r.hd,by have:=r.dp; omega,by have:=r.un; omega,r.gd⟩
theorem Room.deeper {k:Nat} {A:Around} (r:Room (k + 1) A) (env:Env):Room k (A.deeper env):=
  ⟨r.hd,by have:=r.dp; show A.depth + 1 + 3 * k + 5 < _; omega,by have:=r.un; show A.units + 3 + 16 * k + 200 < _; omega,r.gd⟩
theorem yi5 {A:Around} {C:Addr} {us:List Value} {kw:List (Str×Value)}:(A.under (.builtin "type.__call__" ⟨.ref C :: us,kw⟩)).depth=A.depth + 1:=by
  first | rfl | simp [Around.under,Code.weight,Code.isCreation,Code.isGuard,Code.isCaller,Code.frames,Code.isFrame,guardIds]
theorem yi6 {A:Around} {C:Addr} {us:List Value} {kw:List (Str×Value)}:(A.under (.builtin "type.__call__" ⟨.ref C :: us,kw⟩)).units=A.units + 1:=by
  first | rfl | simp [Around.under,Code.cUnits,Code.frames,Code.isFrame]
theorem qhg {A:Around} {C:Addr} {us:List Value} {kw:List (Str×Value)}:(A.under (.builtin "type.__call__" ⟨.ref C :: us,kw⟩)).guards=A.guards:=by
  first | rfl | (unfold Around.under Code.guards; cases A.guards <;> simp [pushGuards,Code.isGuard,guardIds])
theorem Room.make {k:Nat} {A:Around} (r:Room (k + 1) A) (C:Addr) (us:List Value) (kw:List (Str×Value)):Room k (A.under (.builtin "type.__call__" ⟨.ref C :: us,kw⟩)):=
  ⟨r.hd,by have:=r.dp; rw [yi5]; omega,by have:=r.un; rw [yi6]; omega,by rw [qhg]; exact r.gd⟩
theorem Room.depth {k:Nat} {A:Around} (r:Room k A):A.depth < recursionLimit:=by have:=r.dp; omega
theorem Room.units {k:Nat} {A:Around} (r:Room k A):A.units + 64 < cLine:=by have:=r.un; omega
def tNil:TA:=fun _ H Q=>Q [] H
def yc8 (ta:TE) (tr:TA):TA:=fun σ H Q=>ta σ H fun x H1=>tr σ H1 fun xs H2=>Q (x :: xs) H2
section
variable {X:Cx} {e:Expr} {es:List Expr} {te:TE} {t:TA} {pos:Pos}
theorem yac:PA X [] tNil:=fun _ _ _ _ H Q I h=>Calls.spliced_nil ⟨[],H,I,.nil,h⟩
theorem yaa (ha:PE X e te) (hr:PA X es t) (hs:starEach (e :: es) X.env=(false,eval e X.env) :: starEach es X.env:=by rfl):PA X (e :: es) (yc8 te t):=by
  intro pos pins s σ H Q I h
  rw [hs]
  show wpAny _ _ (spliced ((false,eval e X.env) :: backTo pos (starEach es X.env))) _ _ s
  refine Calls.spliced_cons (thn (ha pins s σ H _ I h) fun u s1 ⟨x,H1,I1,r1,q1⟩=>?_)
  exact thn (hr pos pins s1 σ H1 _ I1 q1) fun us s2 ⟨xs,H2,I2,r2,q2⟩=>⟨x :: xs,H2,I2,.cons r1 r2,q2⟩
def tTup (t:TA):TE:=fun σ H Q=>t σ H fun xs H1=>xs.length≤sizeLine∧∀ p,H1 p=none→Q (.ref p) (upd H1 p (.tup xs))
def tLst (t:TA):TE:=fun σ H Q=>t σ H fun xs H1=>xs.length≤sizeLine∧∀ p,H1 p=none→Q (.ref p) (upd H1 p (.lst xs))
theorem yh7 {x1} (h:PA X es t):PE X (.Tuple es x1 pos) (tTup t):=by
  intro pins s σ H Q I hq
  refine wpAny_Tuple_spliced (thn (h pos pins s σ H _ I hq) fun us s1 ⟨xs,H1,I1,r,z,q⟩=>⟨by rw [← r.length]; exact z,?_⟩)
  have hf:H1 s1.heap.objs.size=none:=I1.hok.fresh (Nat.le_refl _)
  refine ⟨.ref s1.heap.objs.size,upd H1 s1.heap.objs.size (.tup xs),I1.laid (t':=s1.toks) (fun b u e=>Heap.get?_push_of_some _ e) (Nat.le_refl _) ?_,rfl,q _ hf⟩
  exact ⟨z,us,r,⟨_,Heap.get?_push_size _ rfl,rfl,_,rfl⟩⟩
theorem qd7 (h:PA X es t):PE X (.List es pos) (tLst t):=by
  intro pins s σ H Q I hq
  refine wpAny_List_spliced (thn (h pos pins s σ H _ I hq) fun us s1 ⟨xs,H1,I1,r,z,q⟩=>⟨by rw [← r.length]; exact z,?_⟩)
  have hf:H1 s1.heap.objs.size=none:=I1.hok.fresh (Nat.le_refl _)
  refine ⟨.ref s1.heap.objs.size,upd H1 s1.heap.objs.size (.lst xs),I1.laid (t':=s1.toks) (fun b u e=>Heap.get?_push_of_some _ e) (Nat.le_refl _) ?_,rfl,q _ hf⟩
  exact ⟨z,us,0,r,Heap.get?_push_size _ rfl⟩
end
abbrev Sp:=List V→Hp→VK→XK→Prop
abbrev CXT:=List Env→Hp→Shared→XK→Value→Shared→Prop
structure Env0 (P:Program) (w:World) (K:PySem.W.Frag) (mg:Str→Option Value) (base:Heap) (A:Around) (outer:List Env) (s:Shared) (H:Hp):Prop where
  frames:A.frames=some outer
  mod:Mod K mg base
  bs:∀ b o,base.get? b=some o→s.heap.get? b=some o∧H b=none
  bsz:base.objs.size≤s.heap.objs.size
  funs:s.heap.FunFrames base outer
  frf:∀ b∈frs outer,H b=none
  hok:HOk P w H s.heap
  bare:AllBare s.gens
def CE (outer:List Env) (P:Program) (w:World) (H:Hp) (s:Shared) (Q:VK) (u:Value) (s':Shared):Prop:=
  ∃ v H',s'.os=s.os∧AllBare s'.gens∧Un (frs outer) [] H H' s.heap s'.heap∧HOk P w H' s'.heap∧RelV v u∧Q v H'
def CR (CX:CXT) (outer:List Env) (P:Program) (w:World) (H:Hp) (s:Shared) (Q:VK) (E:XK) (r:Result) (s':Shared):Prop:=
  match r with
  | .ok (.ret u)=>CE outer P w H s Q u s'
  | .ok _=>False
  | .error e=>CX outer H s E e s'
structure FnOk (P:Program) (w:World) (K:PySem.W.Frag) (mg:Str→Option Value) (base:Heap) (CX:CXT) (k:Nat) (f:Addr) (fd:FuncData) (ps:List Str) (sp:Sp):Prop where
  len:∀ vs H Q E,sp vs H Q E→vs.length=ps.length
  run:∀ (A:Around) (outer:List Env) (s:Shared) (H:Hp) (args:Args) (us:List Value) (vs:List V) (Q:VK) (E:XK),Room k A→Env0 P w K mg base A outer s H→BindsTo s fd args (ps.zip us)→Vals vs us→sp vs H Q E→
    codeAny (model P w) A (.call (.ref f) args) (CR CX outer P w H s Q E) s
theorem Env0.make {P:Program} {w:World} {K:PySem.W.Frag} {mg:Str→Option Value} {base:Heap} {A:Around} {outer:List Env} {s:Shared} {H:Hp} (e:Env0 P w K mg base A outer s H) (C:Addr) (us:List Value) (kw:List (Str×Value)) :
    Env0 P w K mg base (A.under (.builtin "type.__call__" ⟨.ref C :: us,kw⟩)) outer s H:=⟨by first | exact e.frames | (simpa [Around.under,Code.envs,Code.isFrame,pushEnvs] using e.frames),e.mod,e.bs,e.bsz,e.funs,e.frf,e.hok,e.bare⟩
section
variable {X:Cx} {pins:List (Addr×Obj)} {σ:St} {H:Hp} {s s':Shared}
theorem Inv.env0 (I:Inv X pins σ H s):Env0 X.prog X.w X.K X.mg X.base X.A X.stack s H:=
  ⟨I.ok.frames,I.ok.mod,I.bs,Nat.le_trans I.ok.bsz I.sz,I.stack,I.stkFree,I.hok,I.bare⟩
theorem Inv.after {Q:VK} {u:Value} (I:Inv X pins σ H s) (h:CE X.stack X.prog X.w H s Q u s'):EP X pins σ Q u s':=by
  obtain ⟨v,H',os,bare,un,hok,r,q⟩:=h
  obtain ⟨hh,g,d,t,os'⟩:=s'
  obtain rfl:os'=s.os:=os
  exact ⟨v,H',I.call (h':=hh) (g':=g) (d':=d) (t':=t) (ch:=[]) un hok bare (fun b z=>absurd z (by simp)),r,q⟩
end
def yi8 (sp:Sp) (dvs:List V) (E:XK) (t:TA):TE:=fun σ H Q=>t σ H fun vs H1=>sp (vs++dvs) H1 Q E
def tMeth (C:Addr) (m:Str) (sp:Sp) (dvs:List V) (E:XK) (ta:TE) (t:TA):TE:=fun σ H Q=>ta σ H fun x H1=>∃ a dx fs,x=.ref a∧H1 a=some (.ins C dx fs)∧fs.lookup m=none∧
  t σ H1 fun vs H2=>sp (x :: (vs++dvs)) H2 Q E
def tMake (C:Addr) (sp:Sp) (dvs:List V) (E:XK) (t:TA):TE:=fun σ H Q=>t σ H fun vs H1=>∀ x dx,H1 x=none→H1 dx=none→dx≠x→
  sp (.ref x :: (vs++dvs)) (upd (upd H1 dx (.own x)) x (.ins C dx [])) (fun v H2=>v=.non∧Q (.ref x) H2) E
def qcv (K:PySem.W.Frag) (fd:FuncData) (ps:List Str) (ds:List Value):Prop:=
  ∀ (s:Shared) (us:List Value),K.In s.heap→(us++ds).length=ps.length→BindsTo s fd ⟨us,[]⟩ (ps.zip (us++ds))
theorem qcv.all {K:PySem.W.Frag} {fd:FuncData} {ps:List Str} (h:∀ us:List Value,us.length=ps.length→bindArgs fd ⟨us,[]⟩=pure (ps.zip us)):qcv K fd ps []:=fun s us _ hl=>by
  rw [List.append_nil] at hl ⊢
  exact .of_eq (h us hl)
def ydl (CX:CXT) (X:Cx) (E:XK):Prop:=∀ (pins:List (Addr×Obj)) (σ:St) (H:Hp) (s:Shared) (e:Value) (s':Shared),Inv X pins σ H s→CX X.stack H s E e s'→X.xe e s'
section
variable {X:Cx} {CX:CXT} {k:Nat} {f C:Addr} {fd:FuncData} {ps:List Str} {sp:Sp} {dvs:List V} {ds:List Value} {E:XK} {x m:Str} {p pos apos:Pos} {e o:Expr} {es:List Expr} {ta:TE} {t:TA}
theorem ykg {pins:List (Addr×Obj)} {σ:St} {H:Hp} {s:Shared} {Q:VK} {us:List Value} {vs:List V} (F:FnOk X.prog X.w X.K X.mg X.base CX k f fd ps sp) (hr:Room k X.A) (hb:qcv X.K fd ps ds) (hd:Vals dvs ds) (hx:ydl CX X E)
    (I:Inv X pins σ H s) (r:Vals vs us) (h:sp (vs++dvs) H Q E):wpAny (model X.prog X.w) X.A (call (.ref f) us) (EP X pins σ Q) X.xe s:=by
  have r2:Vals (vs++dvs) (us++ds):=r.append hd
  have hl:(us++ds).length=ps.length:=by rw [← r2.length]; exact F.len _ _ _ _ h
  refine wpAny_call (codeAny_mono (F.run X.A X.stack s H ⟨us,[]⟩ (us++ds) (vs++dvs) Q E hr I.env0 (hb s us I.kIn hl) r2 h) fun r s' hq=>?_)
  cases r with
  | error e=>exact hx pins σ H s e s' I hq
  | ok fl=>
    cases fl with
    | ret u=>exact I.after hq
    | next=>exact False.elim hq
    | brk=>exact False.elim hq
    | cont=>exact False.elim hq
theorem qky (F:FnOk X.prog X.w X.K X.mg X.base CX k f fd ps sp) (hr:Room k X.A) (hg:Gl X x) (hm:X.mg x=some (.ref f)) (hk:PySem.W.keepIn X.K (.ref f)=true) (hb:qcv X.K fd ps ds) (hd:Vals dvs ds) (hx:ydl CX X E)
    (ha:PA X (e :: es) t) (hdb:(x == ("__debug__" : Str))=false:=by decide) (he:starEach (e :: es) X.env=(false,eval e X.env) :: starEach es X.env:=by rfl) (hpl:(backTo pos (starEach es X.env)).any (·.1)=false:=by rfl) :
    PE X (.Call (.Name x p) (e :: es) [] pos) (yi8 sp dvs E t):=by
  intro pins s σ H Q I h
  refine wpAny_Call_Name_kw (qdz I hg hm ?_ hdb)
  refine PySem.W.callWith_K (h₀:=X.base) I.ok.mod.kin hk (thn (ha pos pins s σ H _ I h) fun us s1 ⟨vs,H1,I1,r,q⟩=>⟨I1.kIn,?_⟩) he hpl
  exact ykg F hr hb hd hx I1 r q
theorem pe_meth {pl:Sem Bool} (he:PE X o ta) (c:Cls X.K C) (hm:Meth X.K C m f) (F:FnOk X.prog X.w X.K X.mg X.base CX k f fd ps sp) (hr:Room k X.A) (hb:qcv X.K fd ps ds) (hd:Vals dvs ds) (hx:ydl CX X E) (ha:PA X (e :: es) t)
    (hst:starEach (e :: es) X.env=(false,eval e X.env) :: starEach es X.env:=by rfl) (hpl:(backTo pos (starEach es X.env)).any (·.1)=false:=by rfl)
    (ht:eval (.Call (.Attribute o m apos) (e :: es) [] pos) X.env=(do
      let ov ← eval o X.env
      standAt apos.atName
      let (f,first) ← holding [ov] (getMethod ov m pl)
      callWith pos f first (backTo pos (starEach (e :: es) X.env)) (backToKw pos (keywordEach [] X.env))):=by rfl) :
    PE X (.Call (.Attribute o m apos) (e :: es) [] pos) (tMeth C m sp dvs E ta t):=by
  intro pins s σ H Q I h
  refine PySem.W.methodCall_KW (pl:=pl) (thn (he pins s σ H _ I h) fun u s1 ⟨x,H1,I1,rx,a,dx,fs,ex,ea,l,q⟩=>?_) ht
  subst ex
  obtain rfl:u=Value.ref a:=rx
  refine qei I1 ea c hm l ?_
  refine PySem.W.callWith_K (first:=[.ref a]) (h₀:=X.base) I.ok.mod.kin hm.kp (thn (ha pos pins s1 σ H1 _ I1 q) fun us s2 ⟨vs,H2,I2,r,q2⟩=>⟨I2.kIn,?_⟩) hst hpl
  exact ykg (us:=.ref a :: us) (vs:=.ref a :: vs) F hr hb hd hx I2 (.cons rfl r) q2
theorem pe_meth0 {pl:Sem Bool} (he:PE X o ta) (c:Cls X.K C) (hm:Meth X.K C m f) (F:FnOk X.prog X.w X.K X.mg X.base CX k f fd ps sp) (hr:Room k X.A) (hb:qcv X.K fd ps ds) (hd:Vals dvs ds) (hx:ydl CX X E)
    (ht:eval (.Call (.Attribute o m apos) [] [] pos) X.env=(do
      let ov ← eval o X.env
      standAt apos.atName
      let (f,first) ← holding [ov] (getMethod ov m pl)
      callWith pos f first (backTo pos (starEach [] X.env)) (backToKw pos (keywordEach [] X.env))):=by rfl) :
    PE X (.Call (.Attribute o m apos) [] [] pos) (tMeth C m sp dvs E ta tNil):=by
  intro pins s σ H Q I h
  refine PySem.W.methodCall_KW (pl:=pl) (thn (he pins s σ H _ I h) fun u s1 ⟨x,H1,I1,rx,a,dx,fs,ex,ea,l,q⟩=>?_) ht
  subst ex
  obtain rfl:u=Value.ref a:=rx
  refine qei I1 ea c hm l ?_
  exact PySem.W.callWith_K0 (first:=[.ref a]) I1.kIn hm.kp (ykg (us:=[.ref a]) (vs:=[.ref a]) F hr hb hd hx I1 (.cons rfl .nil) q)
structure Mk (K:PySem.W.Frag) (C f:Addr):Prop where
  makes:PySem.W.makesIn K C=true
  init:PySem.W.findIn K (.ref C) "__init__" = some (some (.ref f))
  fn:PySem.W.isFn K (.ref f)=true
  kp:PySem.W.keepIn K (.ref C)=true
theorem run_make {pins:List (Addr×Obj)} {σ:St} {H:Hp} {s:Shared} {Q:VK} {us:List Value} {vs:List V} (M:Mk X.K C f) (F:FnOk X.prog X.w X.K X.mg X.base CX k f fd ps sp) (hr:Room (k + 1) X.A) (hb:qcv X.K fd ps ds) (hd:Vals dvs ds)
    (hx:ydl CX X E) (I:Inv X pins σ H s) (r:Vals vs us)
    (h:∀ x dx,H x=none→H dx=none→dx≠x→sp (.ref x :: (vs++dvs)) (upd (upd H dx (.own x)) x (.ins C dx [])) (fun v H2=>v=.non∧Q (.ref x) H2) E) :
    wpAny (model X.prog X.w) X.A (call (.ref C) us) (EP X pins σ Q) X.xe s:=by
  have hq:=h (s.heap.objs.size + 1) s.heap.objs.size (I.hok.fresh (Nat.le_succ _)) (I.hok.fresh (Nat.le_refl _)) (Nat.ne_of_lt (Nat.lt_succ_self _))
  have I2:=Inv.made (C:=C) I
  have r2:Vals (V.ref (s.heap.objs.size + 1) :: (vs++dvs)) (Value.ref (s.heap.objs.size + 1) :: (us++ds)):=.cons rfl (r.append hd)
  have hl:(Value.ref (s.heap.objs.size + 1) :: us++ds).length=ps.length:=by
    have e:=r2.length
    rw [F.len _ _ _ _ hq] at e
    exact e.symm
  refine wpAny_call (qh5 (f:=f) I.kIn M.makes M.init (beq_iff_eq.mp M.fn) (codeAny_mono (F.run _ X.stack _ _ ⟨Value.ref (s.heap.objs.size + 1) :: us,[]⟩ (Value.ref (s.heap.objs.size + 1) :: (us++ds)) _ _ E (hr.make C us [])
    (I2.env0.make C us []) (hb _ (Value.ref (s.heap.objs.size + 1) :: us) I2.kIn hl) r2 hq) fun r s' hq'=>?_))
  cases r with
  | error e=>exact hx pins σ _ _ e s' I2 hq'
  | ok fl=>
    cases fl with
    | ret u=>
      obtain ⟨v,H',I3,rv,ev,q3⟩:=I2.after hq'
      subst ev
      exact ⟨rv,⟨V.ref (s.heap.objs.size + 1),H',I3,rfl,q3⟩⟩
    | next=>exact False.elim hq'
    | brk=>exact False.elim hq'
    | cont=>exact False.elim hq'
theorem qkk (M:Mk X.K C f) (F:FnOk X.prog X.w X.K X.mg X.base CX k f fd ps sp) (hr:Room (k + 1) X.A) (hg:Gl X x) (hm:X.mg x=some (.ref C)) (hb:qcv X.K fd ps ds) (hd:Vals dvs ds) (hx:ydl CX X E)
    (ha:PA X (e :: es) t) (hdb:(x == ("__debug__" : Str))=false:=by decide) (he:starEach (e :: es) X.env=(false,eval e X.env) :: starEach es X.env:=by rfl) (hpl:(backTo pos (starEach es X.env)).any (·.1)=false:=by rfl) :
    PE X (.Call (.Name x p) (e :: es) [] pos) (tMake C sp dvs E t):=by
  intro pins s σ H Q I h
  refine wpAny_Call_Name_kw (qdz I hg hm ?_ hdb)
  refine PySem.W.callWith_K (h₀:=X.base) I.ok.mod.kin M.kp (thn (ha pos pins s σ H _ I h) fun us s1 ⟨vs,H1,I1,r,q⟩=>⟨I1.kIn,?_⟩) he hpl
  exact run_make M F hr hb hd hx I1 r q
end
structure FnScope (N P:List Str) (sc:Scope):Prop where
  kind:sc.kind=.function
  co:sc.isCoroutine=false
  gen:sc.isGenerator=false
  nd:N.Nodup
  pre:N.take P.length=P
  par:∀ x∈P,sc.names.lookup x=some .local∨sc.names.lookup x=some .cell
  nofree:∀ y∈sc.names,y.2≠.free
theorem ygo {kindOf:Str→Option NameKind} {x:Str}:∀ {binds:List (Str×Value)} {m:Str→Option Value},(∀ v,(x,v)∉binds)→bindL kindOf binds m x=m x
  | [],_,_=>rfl
  | (n,v) :: r,m,h=>by
    unfold bindL
    rw [ygo fun w hw=>h w (List.mem_cons_of_mem _ hw)]
    split
    · have:x≠n:=by rintro rfl; exact h v List.mem_cons_self
      simp [this]
    · rfl
theorem yg4 {kindOf:Str→Option NameKind} {x:Str}:∀ {binds:List (Str×Value)} {m:Str→Option Value},(∀ v,(x,v)∉binds)→bindC kindOf binds m x=m x
  | [],_,_=>rfl
  | (n,v) :: r,m,h=>by
    unfold bindC
    rw [yg4 fun w hw=>h w (List.mem_cons_of_mem _ hw)]
    split
    · rfl
    · have:x≠n:=by rintro rfl; exact h v List.mem_cons_self
      simp [this]
theorem ygz {kindOf:Str→Option NameKind} {x:Str} {v:Value}:∀ {P:List Str} {vs:List Value} {i:Nat} {m:Str→Option Value},P.Nodup→P[i]?=some x→vs[i]?=some v→kindOf x=some .local→
    bindL kindOf (P.zip vs) m x=some v
  | [],_,_,_,_,h,_,_=>by simp at h
  | _ :: _,[],_,_,_,_,h,_=>by simp at h
  | p :: P,w :: vs,0,m,nd,h1,h2,hk=>by
    simp at h1 h2; subst h1; subst h2
    show bindL kindOf ((p,w) :: P.zip vs) m p=_
    unfold bindL
    rw [ygo fun v hv=>(List.nodup_cons.mp nd).1 (List.of_mem_zip hv).1,if_pos hk]
    simp
  | p :: P,w :: vs,i + 1,m,nd,h1,h2,hk=>by
    show bindL kindOf ((p,w) :: P.zip vs) m x=_
    unfold bindL
    exact ygz (i:=i) (List.nodup_cons.mp nd).2 (by simpa using h1) (by simpa using h2) hk
theorem qg7 {kindOf:Str→Option NameKind} {x:Str} {v:Value}:∀ {P:List Str} {vs:List Value} {i:Nat} {m:Str→Option Value},P.Nodup→P[i]?=some x→vs[i]?=some v→kindOf x≠some .local→
    bindC kindOf (P.zip vs) m x=some v
  | [],_,_,_,_,h,_,_=>by simp at h
  | _ :: _,[],_,_,_,_,h,_=>by simp at h
  | p :: P,w :: vs,0,m,nd,h1,h2,hk=>by
    simp at h1 h2; subst h1; subst h2
    show bindC kindOf ((p,w) :: P.zip vs) m p=_
    unfold bindC
    rw [yg4 fun v hv=>(List.nodup_cons.mp nd).1 (List.of_mem_zip hv).1,if_neg hk]
    simp
  | p :: P,w :: vs,i + 1,m,nd,h1,h2,hk=>by
    show bindC kindOf ((p,w) :: P.zip vs) m x=_
    unfold bindC
    exact qg7 (i:=i) (List.nodup_cons.mp nd).2 (by simpa using h1) (by simpa using h2) hk
def yd5 (N:List Str) (vs:List V):St:=vs.map some++List.replicate (N.length - vs.length) none
def cxOf (CX:CXT) (P:Program) (w:World) (K:PySem.W.Frag) (mg:Str→Option Value) (base:Heap) (N:List Str) (qual:Str) (scope:Scope) (f:Addr) (cd:Value) (A:Around) (outer:List Env) (s:Shared) (H:Hp) (E:XK):Cx where
  prog:=P
  w:=w
  K:=K
  mg:=mg
  base:=base
  A:=A.deeper (envOfC qual scope s.heap.objs.size f cd)
  N:=N
  s₀:=s
  H₀:=H
  env:=envOfC qual scope s.heap.objs.size f cd
  outer:=outer
  stack:=envOfC qual scope s.heap.objs.size f cd :: outer
  ex:=[]
  calm:=true
  fn:=fun _=>true
  pn:=[]
  xe:=fun e s'=>wpAny (model P w) (A.deeper (envOfC qual scope s.heap.objs.size f cd)) (leaving (envOfC qual scope s.heap.objs.size f cd) e) (fun _ s''=>CX outer H s E e s'') (fun e' s''=>CX outer H s E e' s'') s'
theorem qic {sc:Scope} {n:Nat} {x:Str} (h:sc.names.lookup x=some .cell):∃ c,(cellsFrom n sc.names []).lookup x=some c:=by
  have q:=PySem.W.cellsFrom_some sc.names n [] (.inl h)
  exact Option.isSome_iff_exists.mp q
theorem yjm {CX:CXT} {P:Program} {w:World} {K:PySem.W.Frag} {mg:Str→Option Value} {base:Heap} {N ps:List Str} {qual:Str} {scope:Scope} {f:Addr} {cd:Value} {A:Around} {outer:List Env} {s s1:Shared} {H:Hp} {E:XK} {us:List Value} {vs:List V}
    (S:FnScope N ps scope) (hd:A.handled=none) (e0:Env0 P w K mg base A outer s H) (hl:vs.length=ps.length) (r:Vals vs us)
    (x:InCallC s s.heap.objs.size (bindL (envOfC qual scope s.heap.objs.size f cd).kindOf (ps.zip us) fun _=>none) (cellsFrom (s.heap.objs.size + 1) scope.names []) (bindC (envOfC qual scope s.heap.objs.size f cd).kindOf (ps.zip us) fun _=>none) s1) :
    Inv (cxOf CX P w K mg base N qual scope f cd A outer s H E) [] (yd5 N vs) H s1:=by
  have hpl:ps.length≤N.length:=by have:=congrArg List.length S.pre; rw [List.length_take] at this; omega
  obtain ⟨h1,tk,rfl,hk⟩:=x.done
  have noA:∀ b:Addr,b∉(cxOf CX P w K mg base N qual scope f cd A outer s H E).ex:=fun b z=>absurd (show b∈([]:List Addr) from z) (by simp)
  refine ⟨⟨e0.mod,S.kind,rfl,rfl,Nat.le_refl _,fun y z c h1 h2=>?_,fun y hy=>?_,fun y c _ h=>?_,fun _=>hd,Around.frames_deeper e0.frames,.inr ⟨rfl,rfl⟩,fun b z=>absurd z (noA b),e0.bs,e0.bsz,fun b _ _=>noA b,fun b z=>absurd z (noA b),e0.funs,e0.frf⟩,
    rfl,e0.bare,Un.kept hk,⟨_,x.toInCall.ns,fun i y v h1 h2 h3=>?_⟩,fun y c h=>⟨_,x.cell y c h⟩,e0.hok.fresh (Nat.le_refl _),fun y c h=>?_,fun p hp=>absurd (show p∈([]:List (Addr×Obj)) from hp) (by simp),e0.hok.kept hk,?_⟩
  · exact name_of_addr x.apart (PySem.mem_of_lookup h1) (PySem.mem_of_lookup h2)
  · have hy:scope.names.lookup y=some .cell∨scope.names.lookup y=some .free:=hy
    rcases hy with hy | hy
    · exact qic hy
    · exact absurd rfl (S.nofree _ (PySem.mem_of_lookup hy))
  · exact Nat.le_of_lt (x.above y c (PySem.mem_of_lookup h))
  · have hi:i < vs.length:=by
      unfold yd5 at h2
      by_cases hi:i < vs.length
      · exact hi
      · rw [List.getElem?_append_right (by simpa using hi)] at h2
        rw [List.getElem?_replicate] at h2
        split at h2 <;> cases h2
    have ha:vs[i]?=some v:=by
      unfold yd5 at h2
      rw [List.getElem?_append_left (by simpa using hi),List.getElem?_map] at h2
      cases e:vs[i]? with
      | none=>rw [e] at h2; cases h2
      | some a=>rw [e] at h2; cases h2; rfl
    obtain ⟨u,hu,rv⟩:=r.get ha
    have hp:ps[i]?=some y:=by
      rw [← S.pre,List.getElem?_take_of_lt (by omega)]; exact h1
    have ndP:ps.Nodup:=by rw [← S.pre]; exact S.nd.sublist (List.take_sublist _ _)
    refine ⟨u,rv,?_⟩
    rcases S.par y (List.mem_of_getElem? hp) with k | k
    · exact .inl ⟨k,ygz ndP hp hu k⟩
    · obtain ⟨c,e⟩:=qic (n:=s.heap.objs.size + 1) k
      refine .inr ⟨.inl k,c,e,?_⟩
      have q:=x.cell y c e
      rw [qg7 ndP hp hu (by show scope.names.lookup y≠_; rw [k]; decide)] at q
      exact q
  · exact e0.hok.fresh (Nat.le_of_lt (x.above y c (PySem.mem_of_lookup h)))
  · unfold yd5
    show _=N.length
    rw [List.length_append,List.length_map,List.length_replicate]
    omega
theorem fn_of {CX:CXT} {P:Program} {w:World} {K:PySem.W.Frag} {mg:Str→Option Value} {base:Heap} {k:Nat} {f:Addr} {name qual:Str} {params:Arguments} {body:List Stmt} {scope:Scope} {dV kV doc pm cdv ct oc:Value} {an od:Option Addr}
    {osl:Array (Option Value)} {N ps:List Str} {sp:Sp} (lk:K.lookup f=some ⟨oc,od,.func (PySem.W.fnOf name qual params body scope dV kV doc pm an cdv ct),osl⟩) (hcd:PySem.W.codeIn K cdv qual=true) (S:FnScope N ps scope)
    (len:∀ vs H Q E,sp vs H Q E→vs.length=ps.length)
    (hbody:∀ (A:Around) (outer:List Env) (s:Shared) (H:Hp) (vs:List V) (Q:VK) (E:XK),Room k (A.deeper (envOfC qual scope s.heap.objs.size f cdv))→sp vs H Q E→
      ∃ t,PSs (cxOf CX P w K mg base N qual scope f cdv A outer s H E) body t∧t { nx:=fun _ H'=>Q .non H',rt:=Q } (yd5 N vs) H) :
    FnOk P w K mg base CX (k + 1) f (PySem.W.fnOf name qual params body scope dV kV doc pm an cdv ct) ps sp:=by
  refine ⟨len,fun A outer s H args us vs Q E hr e0 hb r hsp=>?_⟩
  have hl:=len _ _ _ _ hsp
  have KX:K.In s.heap:=e0.mod.kin.keeps fun b o e=>(e0.bs b o e).1
  have lim:s.heap.NoLimit:=e0.mod.nolimit.keeps fun b o e=>(e0.bs b o e).1
  have hkind:∀ y∈ps.zip us,scope.names.lookup y.1=some .local∨(scope.names.lookup y.1=some .cell∧((cellsFrom (s.heap.objs.size + 1) scope.names []).lookup y.1).isSome=true):=fun ⟨n,v⟩ hy=>by
    rcases S.par n (List.of_mem_zip hy).1 with q | q
    · exact .inl q
    · exact .inr ⟨q,PySem.W.cellsFrom_some _ _ _ (.inl q)⟩
  refine codeAny_call_function hr.depth (KX _ _ lk) rfl S.co S.gen rfl (PySem.W.codeRec_of KX hcd) (hb _ _ _ _ ?_)
  refine wpAny_newFunctionEnv_cells S.kind hkind fun env he s1 x=>?_
  subst he
  refine ⟨lim.keeps x.toInCall.keep,codeAny_func ?_⟩
  obtain ⟨t,ht,hq⟩:=hbody A outer s H vs Q E (hr.deeper _) hsp
  have I:Inv (cxOf CX P w K mg base N qual scope f cdv A outer s H E) [] (yd5 N vs) H s1:=yjm S hr.hd e0 hl r x
  refine wpAny_mono (ht [] s1 (yd5 N vs) H _ I hq) (fun fl s' hs=>?_) fun e s' hs=>hs
  have fin:∀ {σ':St} {H':Hp} {v:V} {u:Value},Inv (cxOf CX P w K mg base N qual scope f cdv A outer s H E) [] σ' H' s'→RelV v u→Q v H'→CE outer P w H s Q u s':=
    fun {σ' H' v u} J rv q=>⟨v,H',J.os,J.bare,J.base,J.hok,rv,q⟩
  cases fl with
  | ret u=>
    obtain ⟨v,σ',H',J,rv,q⟩:=hs
    exact fin J rv q
  | next=>
    obtain ⟨σ',H',J,q⟩:=hs
    exact fin (v:=V.non) (u:=Value.none) J rfl q
  | brk=>
    obtain ⟨_,_,_,q⟩:=hs
    exact False.elim q
  | cont=>
    obtain ⟨_,_,_,q⟩:=hs
    exact False.elim q
end L2
namespace L2
open PySem PySem.Spec PyProof.Rows
section
variable {X:Cx} {x:Str} {p pos:Pos} {e:Expr} {es:List Expr} {t:TA} {id T:String} {r:List V→Hp→VK→Prop}
def tCB (r:List V→Hp→VK→Prop) (t:TA):TE:=fun σ H Q=>t σ H fun vs H1=>r vs H1 Q
theorem yae (hc:yds X (.builtin id) r) (hg:Gl X x) (hm:X.mg x=none) (hv:bootBuiltins x=some (.builtin id)) (ha:PA X (e :: es) t) (hn:x≠"__name__":=by decide) (hdb:(x == ("__debug__" : Str))=false:=by decide)
    (he:starEach (e :: es) X.env=(false,eval e X.env) :: starEach es X.env:=by rfl) (hpl:(backTo pos (starEach es X.env)).any (·.1)=false:=by rfl):PE X (.Call (.Name x p) (e :: es) [] pos) (tCB r t):=by
  intro pins s σ H Q I h
  refine wpAny_Call_Name_kw (yfx I hg hm hv ?_ hn hdb)
  exact PyProof.Rows.callWith_builtin1 (thn (ha pos pins s σ H _ I h) fun us s1 ⟨vs,H1,I1,r1,q1⟩=>hc pins s1 σ H1 vs us Q I1 r1 q1) he hpl
theorem qco (hc:yds X (.type T) r) (hg:Gl X x) (hm:X.mg x=none) (hv:bootBuiltins x=some (.type T)) (ha:PA X (e :: es) t) (hn:x≠"__name__":=by decide) (hdb:(x == ("__debug__" : Str))=false:=by decide)
    (he:starEach (e :: es) X.env=(false,eval e X.env) :: starEach es X.env:=by rfl) (hpl:(backTo pos (starEach es X.env)).any (·.1)=false:=by rfl):PE X (.Call (.Name x p) (e :: es) [] pos) (tCB r t):=by
  intro pins s σ H Q I h
  refine wpAny_Call_Name_kw (yfx I hg hm hv ?_ hn hdb)
  exact PyProof.Rows.callWith_type1 (thn (ha pos pins s σ H _ I h) fun us s1 ⟨vs,H1,I1,r1,q1⟩=>hc pins s1 σ H1 vs us Q I1 r1 q1) he hpl
end
end L2
namespace HT
open PySem PyProof.Rows
section
variable {prog:Program} {w:World} {A:Around} {E:Value→Shared→Prop} {s:Shared}
def sIx (n d:Nat):Option Int→Nat
  | none=>d
  | some v=>if v < 0 then (v + (n:Int)).toNat else min v.toNat n
theorem sIx_none (n d:Nat):sIx n d none=d:=rfl
theorem sIx_nat (n d k:Nat):sIx n d (some (k:Int))=min k n:=by
  show (if (k:Int) < 0 then ((k:Int) + (n:Int)).toNat else min (k:Int).toNat n)=min k n
  rw [if_neg (by omega),Int.toNat_natCast]
theorem sIx_le (n d:Nat) (hd:d≤n) (o:Option Int):sIx n d o≤n:=by
  cases o with
  | none=>exact hd
  | some v=>
    show (if v < 0 then (v + (n:Int)).toNat else min v.toNat n)≤n
    by_cases hv:v < 0
    · rw [if_pos hv]; omega
    · rw [if_neg hv]; exact Nat.min_le_right _ _
theorem qkw (v:Int) (n d:Nat):(if v < 0 then max (v + (n:Int)) 0 else min v (n:Int))=((sIx n d (some v):Nat):Int):=by
  show (if v < 0 then max (v + (n:Int)) 0 else min v (n:Int))=(((if v < 0 then (v + (n:Int)).toNat else min v.toNat n):Nat):Int)
  by_cases hv:v < 0
  · simp only [if_pos hv]; omega
  · simp only [if_neg hv]; omega
theorem qi6 (lo hi:Option Int) (n:Nat):Builtin.Slice.sliceAdjust lo hi 1 (n:Int)=(((sIx n 0 lo:Nat):Int),((sIx n n hi:Nat):Int)):=by
  have h1:¬ ((1:Int) < 0):=by omega
  unfold Builtin.Slice.sliceAdjust
  simp only [h1,if_false]
  refine Prod.ext ?_ ?_
  · cases lo with
    | none=>rfl
    | some v=>exact qkw v n 0
  · cases hi with
    | none=>rfl
    | some v=>exact qkw v n n
theorem yiy (i j:Nat):Builtin.Slice.slicePlaces (i:Int) (j:Int) 1=j - i:=by
  unfold Builtin.Slice.slicePlaces
  have h1:(1:Int) > 0:=by omega
  simp only [h1,if_true,Int.ediv_one]
  split <;> omega
theorem qf2 {v:Value} {o:Option Int} {Q:Option Int→Shared→Prop} (p:IsPart v o) (h:Q o s):wpAny (model prog w) A (Builtin.Slice.slicePartIndex v) Q E s:=by
  cases p with
  | none=>exact slicePart_none h
  | int i t=>exact slicePart_int h
theorem yey {sl:Addr} {vl vu:Value} {lo hi:Option Int} {n:Nat} {Q:Int×Int×Nat→Shared→Prop} (hs:s.heap.IsSliceOf sl vl vu .none) (pl:IsPart vl lo) (pu:IsPart vu hi)
    (h:Q (((sIx n 0 lo:Nat):Int),1,sIx n n hi - sIx n 0 lo) s):wpAny (model prog w) A (Builtin.Slice.sliceApplied (.ref sl) (pure (n:Int))) Q E s:=by
  obtain ⟨os,hos,hcs,hds⟩:=id hs
  unfold Builtin.Slice.sliceApplied Builtin.Slice.sliceFields
  refine wpAny_bind (wpAny_bind (wpAny_field hos hds (x:=vl) rfl (wpAny_bind (wpAny_field hos hds (x:=vu) rfl (wpAny_bind (wpAny_field hos hds (x:=.none) rfl (wpAny_pure ?_)))))))
  refine wpAny_bind (slicePart_none ?_)
  show wpAny _ _ (if ((1:Int) == 0)=true then _ else _) _ _ s
  rw [if_neg (by decide)]
  refine wpAny_bind (qf2 pl (wpAny_bind (qf2 pu (wpAny_bind (wpAny_pure ?_)))))
  show wpAny _ _ (match Builtin.Slice.sliceAdjust lo hi 1 (n:Int) with | (lo,hi)=>pure (lo,(1:Int),Builtin.Slice.slicePlaces lo hi 1)) _ _ s
  rw [qi6 lo hi n]
  show wpAny _ _ (pure (((sIx n 0 lo:Nat):Int),(1:Int),Builtin.Slice.slicePlaces ((sIx n 0 lo:Nat):Int) ((sIx n n hi:Nat):Int) 1)) _ _ s
  rw [yiy]
  exact wpAny_pure h
theorem pick_gen (xs:Array Value) (i k:Nat):((List.range k).filterMap fun (m:Nat)=>xs[((i:Int) + (m:Int) * 1).toNat]?).toArray=((xs.toList.drop i).take k).toArray:=by
  have e:(fun (m:Nat)=>xs[((i:Int) + (m:Int) * 1).toNat]?)=fun m=>xs[i + m]?:=by
    funext m
    have:((i:Int) + (m:Int) * 1).toNat=i + m:=by omega
    rw [this]
  rw [e]
  have:=pick_run xs i k
  rw [List.filterMap_map] at this
  have e2:((fun x=>xs[x]?) ∘ fun x=>i + x)=fun m=>xs[i + m]?:=rfl
  rw [e2] at this
  rw [this]
theorem getItem_tuple_cut {t sl:Addr} {items:Array Value} {vl vu:Value} {lo hi:Option Int} {Q:Value→Shared→Prop} (ht:IsTup s.heap t items) (hs:s.heap.IsSliceOf sl vl vu .none) (pl:IsPart vl lo) (pu:IsPart vu hi)
    (hw:¬ (sIx items.size 0 lo=0∧sIx items.size items.size hi=items.size))
    (h:Q (.ref s.heap.objs.size) { s with heap:=s.heap.push { cls:=.type "tuple",data:=.seq ((items.toList.drop (sIx items.size 0 lo)).take (sIx items.size items.size hi - sIx items.size 0 lo)).toArray } })
    (hsz:items.size≤sizeLine):wpAny (model prog w) A (getItem (.ref t) (.ref sl)) Q E s:=by
  have htake:sizeOk (.seq ((items.toList.drop (sIx items.size 0 lo)).take (sIx items.size items.size hi - sIx items.size 0 lo)).toArray):=by
    show ((items.toList.drop (sIx items.size 0 lo)).take (sIx items.size items.size hi - sIx items.size 0 lo)).toArray.size≤sizeLine
    rw [List.size_toArray,List.length_take,List.length_drop,Array.length_toList]
    omega
  have hj:sIx items.size items.size hi≤items.size:=sIx_le _ _ (Nat.le_refl _) hi
  obtain ⟨os,hos,hcs,hds⟩:=id hs
  have hTs:s.TypeIs (.ref sl) "slice":=⟨os,hos,hcs⟩
  unfold getItem
  try with_reducible refine wpAny_holding ?_
  first | refine wpAny_bind (wpAny_pure ?_) | skip
  refine wpAny_bind (wpAny_sequenceKey ht.typeIs (by decide) ?_)
  refine wpAny_bind (wpAny_callSpecial?_slot (name:=Str.ofString "__getitem__") ht.typeIs PyProof.Rows.slot_tuple_getitem
    (wpAny_call_entry PyProof.Rows.slot_tuple_getitem ht.typeIs entry_tuple_getitem ?_ (args_tuple_getitem _ _)))
  show wpAny _ _ (Builtin.Tuple.tupleItemsOf (.ref t) >>= _) _ _ s
  refine wpAny_bind (tupleItemsOf_ ht ?_)
  refine wpAny_bind (wpAny_typeOf hTs ?_)
  rw [if_pos (by decide)]
  refine wpAny_bind (yey hs pl pu ?_)
  have hno:¬ ((((sIx items.size 0 lo:Nat):Int) == 0 && (1:Int) == 1 && (sIx items.size items.size hi - sIx items.size 0 lo) == items.size)=true):=by
    intro q
    rw [Bool.and_eq_true,Bool.and_eq_true] at q
    have q1:((sIx items.size 0 lo:Nat):Int)=0:=eq_of_beq q.1.1
    have q2:sIx items.size items.size hi - sIx items.size 0 lo=items.size:=eq_of_beq q.2
    exact hw ⟨by omega,by omega⟩
  show wpAny _ _ (if (((sIx items.size 0 lo:Nat):Int) == 0 && (1:Int) == 1 && (sIx items.size items.size hi - sIx items.size 0 lo) == items.size)=true then _ else _) _ _ s
  rw [if_neg hno,pick_gen]
  first
    | exact wpAny_bind (m:=Builtin.Tuple.tupleExact _) (wpAny_newObj_type (wpAny_pure ⟨_,rfl,wpAny_pure h⟩) htake)
    | exact wpAny_bind (m:=Builtin.Tuple.tupleExact _) (wpAny_newObj_type (wpAny_bind (wpAny_pure (wpAny_pure ⟨_,rfl,wpAny_pure h⟩))) htake)
    | exact wpAny_bind (wpAny_bind (m:=Builtin.Tuple.tupleExact _) (wpAny_newObj_type (wpAny_pure (wpAny_pure ⟨_,rfl,wpAny_pure h⟩)) htake))
    | exact wpAny_bind (wpAny_bind (m:=Builtin.Tuple.tupleExact _) (wpAny_newObj_type (wpAny_pure ⟨_,rfl,wpAny_pure h⟩) htake))
end
end HT
namespace L2
open PySem PySem.Spec PyProof.Rows
abbrev TO:=St→Hp→(Option Int→Hp→Prop)→Prop
def PO (X:Cx) (e:Option Expr) (t:TO):Prop:=
  ∀ (pins:List (Addr×Obj)) (s:Shared) (σ:St) (H:Hp) (Q:Option Int→Hp→Prop),Inv X pins σ H s→t σ H Q→
    wpAny (model X.prog X.w) X.A (evalPart e X.env) (fun u s'=>∃ o H',Inv X pins σ H' s'∧IsPart u o∧Q o H') X.xe s
def qhn:TO:=fun _ H Q=>Q none H
def tPart (t:TE):TO:=fun σ H Q=>t σ H fun x H1=>∃ i,x=.int i∧Q (some i) H1
theorem qiq {ns:List Int}:∀ {us:List Value},Vals (ns.map V.int) us→IntsAre us ns:=by
  induction ns with
  | nil=>intro us r; rw [List.map_nil] at r; cases r; exact .nil
  | cons n ns ih=>
    intro us r
    rw [List.map_cons] at r
    cases r with
    | cons r1 r2=>
      obtain ⟨t,e⟩:=r1
      subst e
      exact .cons n t (ih r2)
section
variable {X:Cx} {e:Expr} {te:TE} {lo hi:Option Expr} {tl th:TO} {pos p2:Pos}
theorem ycf:PO X none qhn:=by
  intro pins s σ H Q I h
  rw [evalPart_none]
  exact wpAny_pure ⟨none,H,I,.none,h⟩
theorem qbw (h:PE X e te):PO X (some e) (tPart te):=by
  intro pins s σ H Q I hw
  rw [evalPart_some]
  refine thn (h pins s σ H _ I hw) fun u s1 ⟨x,H1,I1,r1,q1⟩=>?_
  obtain ⟨i,rfl,q⟩:=q1
  obtain ⟨t,rfl⟩:=r1
  exact ⟨some i,H1,I1,.int i t,q⟩
def SlR (X:Cx) (r:V→Option Int→Option Int→Hp→VK→Prop):Prop:=
  ∀ (pins:List (Addr×Obj)) (s:Shared) (σ:St) (H:Hp) (x:V) (v vl vu:Value) (lo hi:Option Int) (sl:Addr) (Q:VK),Inv X pins σ H s→RelV x v→s.heap.IsSliceOf sl vl vu .none→IsPart vl lo→IsPart vu hi→r x lo hi H Q→
    ∃ T id,typeLookup (.type T) "__getitem__" = pure (some (.builtin id))∧s.TypeIs v T∧wpAny (model X.prog X.w) X.A (getItem v (.ref sl)) (EP X pins σ Q) X.xe s
def tSl (r:V→Option Int→Option Int→Hp→VK→Prop) (te:TE) (tl th:TO):TE:=fun σ H Q=>te σ H fun x H1=>tl σ H1 fun l H2=>th σ H2 fun u H3=>r x l u H3 Q
theorem ydr {r:V→Option Int→Option Int→Hp→VK→Prop} (hr:SlR X r) (he:PE X e te) (hl:PO X lo tl) (hu:PO X hi th):PE X (.Subscript e (.Slice lo hi none p2) pos) (tSl r te tl th):=by
  intro pins s σ H Q I h
  refine Subscript_ (thn (he pins s σ H _ I h) fun v s1 ⟨x,H1,I1,r1,q1⟩=>?_)
  refine wpAny_Slice (thn (hl pins s1 σ H1 _ I1 q1) fun vl s2 ⟨l,H2,I2,pl,q2⟩=>thn (hu pins s2 σ H2 _ I2 q2) fun vu s3 ⟨u,H3,I3,pu,q3⟩=>?_)
  rw [evalPart_none]
  refine wpAny_pure ?_
  have I4:Inv X pins σ H3 { s3 with heap:=s3.heap.push { cls:=.type "slice",data:=.fields #[vl,vu,.none] } }:=I3.kept (t':=s3.toks) fun b ob q=>Heap.get?_push_of_some _ q
  obtain ⟨T,id,hT,ht,hg⟩:=hr pins { s3 with heap:=s3.heap.push { cls:=.type "slice",data:=.fields #[vl,vu,.none] } } σ H3 x v vl vu l u s3.heap.objs.size Q I4 r1 (Heap.IsSliceOf.new ..) pl pu q3
  show wpAny (model X.prog X.w) X.A (subscriptTail e (.Slice lo hi none p2) v (.ref s3.heap.objs.size)) (EP X pins σ Q) X.xe { s3 with heap:=s3.heap.push { cls:=.type "slice",data:=.fields #[vl,vu,.none] } }
  exact tail_any (ops:=[.ref s3.heap.objs.size,v]) ht hT hg (by with_unfolding_all rfl)
def cutV (xs:List V) (lo hi:Option Int):List V:=(xs.drop (HT.sIx xs.length 0 lo)).take (HT.sIx xs.length xs.length hi - HT.sIx xs.length 0 lo)
theorem yfa (xs:List V) (lo hi:Option Int):(cutV xs lo hi).length≤xs.length:=by
  unfold cutV
  rw [List.length_take,List.length_drop]
  omega
def rSlT (K:PySem.W.Frag):V→Option Int→Option Int→Hp→VK→Prop:=fun x lo hi H Q=>∃ a xs,x=.ref a∧SqT K H a xs∧
  ¬ (HT.sIx xs.length 0 lo=0∧HT.sIx xs.length xs.length hi=xs.length)∧∀ p,H p=none→Q (.ref p) (upd H p (.tup (cutV xs lo hi)))
theorem yin:SlR X (rSlT X.K):=by
  intro pins s σ H x v vl vu lo hi sl Q I rx hs pl pu h
  obtain ⟨a,xs,rfl,hx,hw,q⟩:=h
  cases rx
  obtain ⟨its,r,ht,hz⟩:=I.tuple hx
  have hlen:its.toArray.size=xs.length:=by rw [List.size_toArray]; exact r.length.symm
  refine ⟨"tuple",_,PyProof.Rows.slot_tuple_getitem.lookup,ht.typeIs,?_⟩
  refine HT.getItem_tuple_cut ht hs pl pu (by rw [hlen]; exact hw) ?_ (by rw [hlen]; exact hz)
  rw [hlen]
  refine ⟨.ref s.heap.objs.size,_,I.laid (t':=s.toks) (o:=.tup (cutV xs lo hi)) (fun b ob q=>Heap.get?_push_of_some _ q) (Nat.le_refl _) ?_,rfl,q _ (I.hok.fresh (Nat.le_refl _))⟩
  exact ⟨Nat.le_trans (yfa xs lo hi) hz,_,(r.drop (HT.sIx xs.length 0 lo)).take (HT.sIx xs.length xs.length hi - HT.sIx xs.length 0 lo),IsTup.new _ _⟩
end
end L2
namespace L2
open PySem PySem.Spec PyProof.Rows
def ixN (n:Nat) (i:Int):Option Nat:=if 0≤i then (if i < n then some i.toNat else none) else if -(n:Int)≤i then some (i + n).toNat else none
def atI {α:Type} (xs:List α) (i:Int):Option α:=(ixN xs.length i).bind fun j=>xs[j]?
theorem yj2 {n:Nat} {i:Int} {j:Nat} (h:ixN n i=some j):seqIndex? i n=some j∧j < n∧-(n:Int)≤i∧i < n:=by
  unfold ixN at h
  by_cases h0:0≤i
  · rw [if_pos h0] at h
    by_cases h1:i < n
    · rw [if_pos h1] at h
      have e:i.toNat=j:=Option.some.inj h
      exact ⟨by rw [seqIndex_of h0 h1,e],by omega,by omega,h1⟩
    · rw [if_neg h1] at h; cases h
  · rw [if_neg h0] at h
    by_cases h1:-(n:Int)≤i
    · rw [if_pos h1] at h
      have e:(i + n).toNat=j:=Option.some.inj h
      exact ⟨by rw [seqIndex_neg (by omega) h1,e],by omega,h1,by omega⟩
    · rw [if_neg h1] at h; cases h
theorem qko {α:Type} {xs:List α} {i:Int} {v:α} (h:atI xs i=some v):∃ j,seqIndex? i xs.length=some j∧xs[j]?=some v∧j < xs.length∧-(xs.length:Int)≤i∧i < xs.length:=by
  unfold atI at h
  cases e:ixN xs.length i with
  | none=>rw [e] at h; cases h
  | some j=>
    rw [e] at h
    obtain ⟨h1,h2,h3,h4⟩:=yj2 e
    exact ⟨j,h1,h,h2,h3,h4⟩
theorem yht {α:Type} {xs:List α} {j:Nat} {v:α} (h:xs[j]?=some v):atI xs (j:Int)=some v:=by
  have hj:j < xs.length:=(List.getElem?_eq_some_iff.mp h).1
  have e:ixN xs.length (j:Int)=some j:=by
    unfold ixN
    rw [if_pos (by omega),if_pos (by omega)]; simp
  unfold atI; rw [e]; exact h
theorem qh6 {α:Type} (xs:List α) (v:α):atI (xs++[v]) (-1)=some v:=by
  have hl:(xs++[v]).length=xs.length + 1:=by simp
  have e:ixN (xs++[v]).length (-1)=some xs.length:=by
    unfold ixN
    rw [hl,if_neg (by decide),if_pos (by omega)]
    congr 1
    omega
  unfold atI
  rw [e]
  show (xs++[v])[xs.length]?=some v
  simp
def ykz (b:Expr):Prop:=∀ o i,subscripted b false o i=operate [o,i] (getItem o i)
def IxR (X:Cx) (r:R2):Prop:=
  ∀ (value slice:Expr) (pins:List (Addr×Obj)) (s:Shared) (σ:St) (H:Hp) (x y:V) (v u:Value) (Q:VK),Inv X pins σ H s→RelV x v→RelV y u→r x y H Q→
    subscripted slice false v u=operate [v,u] (getItem v u)→wpAny (model X.prog X.w) X.A (subscriptTail value slice v u) (EP X pins σ Q) X.xe s
def MtR (X:Cx) (id:String) (r:V→List V→Hp→VK→Prop):Prop:=
  ∀ (pins:List (Addr×Obj)) (s:Shared) (σ:St) (H:Hp) (x:V) (xs:List V) (v:Value) (us:List Value) (Q:VK),Inv X pins σ H s→RelV x v→Vals xs us→r x xs H Q→
    wpAny (model X.prog X.w) X.A (call (.builtin id) (v :: us)) (EP X pins σ Q) X.xe s
section
variable {X:Cx} {a b:Expr} {ta tb:TE} {pos:Pos}
theorem ybq {r:R2} (hr:IxR X r) (ha:PE X a ta) (hb:PE X b tb) (hs:ykz b):PE X (.Subscript a b pos) (tOp r ta tb):=by
  intro pins s σ H Q I h
  exact Subscript_ (binT ha hb I h fun v u s2 x y H2 I2 rx ry q=>hr a b pins s2 σ H2 x y v u Q I2 rx ry q (hs _ _))
def rIxL (K:PySem.W.Frag):R2:=fun x y H Q=>∃ p xs i v,x=.ref p∧y=.int i∧SqL K H p xs∧atI xs i=some v∧Q v H
def rIxT (K:PySem.W.Frag):R2:=fun x y H Q=>∃ p xs i v,x=.ref p∧y=.int i∧SqT K H p xs∧atI xs i=some v∧Q v H
theorem yaq:IxR X (rIxL X.K):=by
  intro value slice pins s σ H x y v u Q I rx ry h hs
  obtain ⟨p,xs,i,z,rfl,rfl,hq,he,q⟩:=h
  cases rx
  obtain ⟨t,rfl⟩:=ry
  obtain ⟨its,r,pl,hz⟩:=I.list hq
  obtain ⟨j,h1,h2,h3,h4,h5⟩:=qko he
  obtain ⟨w,ew,rw'⟩:=r.get h2
  have hl:=r.length
  have hn:=qif
  have fin:EP X pins σ Q w s:=⟨z,H,I,rw',q⟩
  by_cases h0:0≤i
  · have hj:i.toNat=j:=by
      rw [seqIndex_of h0 h5] at h1
      exact Option.some.inj h1
    exact item_listR pl.isList h0 (by omega) (by rw [hj]; simpa using ew) fin hs
  · have hj:(i + (its.toArray.size:Int)).toNat=j:=by
      rw [seqIndex_neg (by omega) h4] at h1
      rw [List.size_toArray,← hl]
      exact Option.some.inj h1
    exact subscriptTail_builtinR (x:=w) pl.isList.typeIs slot_list_getitem.lookup
      (wpAny_getItem_list_neg (Q:=fun r s'=>r=w∧EP X pins σ Q r s') pl.isList (by omega) (by rw [List.size_toArray] <;> omega) (by omega) (by rw [hj]; simpa using ew) ⟨rfl,fin⟩) hs
theorem ybw:IxR X (rIxT X.K):=by
  intro value slice pins s σ H x y v u Q I rx ry h hs
  obtain ⟨p,xs,i,z,rfl,rfl,hq,he,q⟩:=h
  cases rx
  obtain ⟨t,rfl⟩:=ry
  obtain ⟨its,r,pl,hz⟩:=I.tuple hq
  obtain ⟨j,h1,h2,h3,h4,h5⟩:=qko he
  obtain ⟨w,ew,rw'⟩:=r.get h2
  have hl:=r.length
  have hn:=qif
  have fin:EP X pins σ Q w s:=⟨z,H,I,rw',q⟩
  exact subscriptTail_builtinR (x:=w) pl.typeIs slot_tuple_getitem.lookup
    (getItem_tuple (j:=j) (Q:=fun r s'=>r=w∧EP X pins σ Q r s') pl (by omega) (by omega) (by rw [List.size_toArray,← hl]; exact h1) (by simpa using ew) ⟨rfl,fin⟩) hs
theorem qis (its:List Value) (n j:Nat) (u:Value):Obj.mapSeq (·.setIfInBounds j u) { cls:=.type "list",data:=.seq its.toArray n }={ cls:=.type "list",data:=.seq (its.set j u).toArray n }:=by
  simp [Obj.mapSeq]
theorem Inv.lst {pins:List (Addr×Obj)} {σ:St} {H:Hp} {s:Shared} {p:Addr} {xs:List V} (I:Inv X pins σ H s) (h:H p=some (.lst xs)) :
    ∃ (its:List Value) (n:Nat),Vals xs its∧s.heap.get? p=some { cls:=.type "list",data:=.seq its.toArray n }∧xs.length≤sizeLine:=by
  obtain ⟨z,its,n,r,e⟩:=I.hok p _ h
  exact ⟨its,n,r,e,z⟩
theorem Inv.lstUpd {pins:List (Addr×Obj)} {σ:St} {H:Hp} {s:Shared} {p:Addr} {xs ys:List V} {its its':List Value} {n n':Nat} {f:Obj→Obj} (I:Inv X pins σ H s) (h:H p=some (.lst xs))
    (ho:s.heap.get? p=some { cls:=.type "list",data:=.seq its.toArray n }) (hf:f { cls:=.type "list",data:=.seq its.toArray n }={ cls:=.type "list",data:=.seq its'.toArray n' }) (r:Vals ys its') (hz:ys.length≤sizeLine) (t:Nat) :
    Inv X pins σ (upd H p (.lst ys)) { s with heap:=s.heap.update p f,toks:=t }:=by
  have e:(s.heap.update p f).get? p=some { cls:=.type "list",data:=.seq its'.toArray n' }:=by
    rw [Heap.get?_update_self f ho (by rw [hf] <;> rfl),hf]
  refine I.write (x:=p) (e:=p) (by rw [h]; trivial) (.inl rfl) (fun b u hb q=>(Heap.get?_update_other _ _ (Ne.symm hb)).trans q) ⟨_,e⟩ ?_
  exact ⟨hz,its',n',r,e⟩
def rSetL:V→V→V→Hp→(Hp→Prop)→Prop:=fun o i v H Q=>∃ p xs k j,o=.ref p∧i=.int k∧H p=some (.lst xs)∧ixN xs.length k=some j∧Q (upd H p (.lst (xs.set j v)))
theorem yf8:PSet X rSetL:=by
  intro pins s σ H o i v ov iv u Q I ro ri rv h
  obtain ⟨p,xs,k,j,rfl,rfl,hp,hj,q⟩:=h
  cases ro
  obtain ⟨t,rfl⟩:=ri
  obtain ⟨its,n,r,ho,hz⟩:=I.lst hp
  obtain ⟨h1,h2,h3,h4⟩:=yj2 hj
  have hl:=r.length
  have hn:=qif
  have I':Inv X pins σ (upd H p (.lst (xs.set j v))) { s with heap:=s.heap.update p (Obj.mapSeq (·.setIfInBounds j u)) }:=
    I.lstUpd hp ho (qis its n j u) (r.set rv j) (by rw [List.length_set]; exact hz) s.toks
  by_cases h0:0≤k
  · have hk:k.toNat=j:=by
      rw [seqIndex_of h0 h4] at h1
      exact Option.some.inj h1
    exact PySem.W.ki_setAt ho h0 (by omega) (by rw [List.size_toArray,← hl]; exact h4) (by rw [hk]; exact ⟨_,I',q⟩)
  · have hk:(k + (its.toArray.size:Int)).toNat=j:=by
      rw [seqIndex_neg (by omega) h3] at h1
      rw [List.size_toArray,← hl]
      exact Option.some.inj h1
    exact PySem.W.ki_setBack ho (by omega) (by rw [List.size_toArray,← hl]; exact h3) (by omega) (by rw [hk]; exact ⟨_,I',q⟩)
theorem qg4 (lo hi:Option Int) (n:Nat):(sliceBounds lo hi none n).1=((HT.sIx n 0 lo:Nat):Int)∧(sliceBounds lo hi none n).2.1=((HT.sIx n n hi:Nat):Int)∧(sliceBounds lo hi none n).2.2=1:=by
  refine ⟨?_,?_,rfl⟩
  · cases lo with
    | none=>simp [sliceBounds,HT.sIx]
    | some i=>
      simp only [sliceBounds,HT.sIx,Option.getD_none,show (1:Int) > 0 by decide,if_true]
      by_cases h:i < 0
      · simp only [h,if_true] <;> omega
      · simp only [h,if_false] <;> omega
  · cases hi with
    | none=>simp [sliceBounds,HT.sIx]
    | some i=>
      simp only [sliceBounds,HT.sIx,Option.getD_none,show (1:Int) > 0 by decide,if_true]
      by_cases h:i < 0
      · simp only [h,if_true] <;> omega
      · simp only [h,if_false] <;> omega
theorem qgi (its:List Value) (lo hi:Option Int):slicePick its.toArray lo hi none=((its.drop (HT.sIx its.length 0 lo)).take (HT.sIx its.length its.length hi - HT.sIx its.length 0 lo)).toArray:=by
  obtain ⟨h1,h2,h3⟩:=qg4 lo hi its.toArray.size
  unfold slicePick
  rw [h1,h2,h3]
  simp only [sliceRange_one,pick_run,List.size_toArray] <;> rfl
def rSlL (K:PySem.W.Frag):V→Option Int→Option Int→Hp→VK→Prop:=fun x lo hi H Q=>∃ a xs,x=.ref a∧SqL K H a xs∧∀ p,H p=none→Q (.ref p) (upd H p (.lst (cutV xs lo hi)))
theorem yda:SlR X (rSlL X.K):=by
  intro pins s σ H x v vl vu lo hi sl Q I rx hs pl pu h
  obtain ⟨a,xs,rfl,hx,q⟩:=h
  cases rx
  obtain ⟨its,r,ht,hz⟩:=I.list hx
  have hlen:=r.length
  refine ⟨"list",_,slot_list_getitem.lookup,ht.isList.typeIs,?_⟩
  refine wpAny_getItem_list_slice ht.isList hs pl pu .none (by simp) ?_ (by rw [List.size_toArray] <;> omega)
  rw [qgi,← hlen]
  refine ⟨.ref s.heap.objs.size,_,I.laid (t':=s.toks) (o:=.lst (cutV xs lo hi)) (fun b ob q=>Heap.get?_push_of_some _ q) (Nat.le_refl _) ?_,rfl,q _ (I.hok.fresh (Nat.le_refl _))⟩
  exact ⟨Nat.le_trans (yfa xs lo hi) hz,_,0,(r.drop (HT.sIx xs.length 0 lo)).take (HT.sIx xs.length xs.length hi - HT.sIx xs.length 0 lo),Heap.get?_push_size _ rfl⟩
def qed:V→Bool
  | .non=>true
  | .bl _=>true
  | .int _=>true
  | .str _=>true
  | _=>false
def eqV:V→V→Bool
  | .non,.non=>true
  | .bl a,.bl b=>a == b
  | .bl a,.int b=>(if a then 1 else 0) == b
  | .int a,.bl b=>a == (if b then 1 else 0)
  | .int a,.int b=>a == b
  | .str a,.str b=>a == b
  | _,_=>false
theorem eqAt_V {A:Around} {s:Shared} {y x:V} {u v:Value} (ry:RelV y u) (rx:RelV x v) (fy:qed y=true) (fx:qed x=true):SeqAt.EqAt A s u v (eqV y x):=by
  cases y with
  | non=>
    cases ry
    cases x with
    | non=>cases rx; exact SeqAt.EqAt.same _
    | bl b=>cases rx; exact SeqAt.EqAt.none_bool b
    | int b=>obtain ⟨t,rfl⟩:=rx; exact SeqAt.EqAt.none_int b t
    | str b=>obtain ⟨t,rfl⟩:=rx; exact SeqAt.EqAt.none_str b t
    | _=>exact absurd (show false=true from fx) Bool.false_ne_true
  | bl a=>
    cases ry
    cases x with
    | non=>cases rx; exact SeqAt.EqAt.bool_none a
    | bl b=>cases rx; exact SeqAt.EqAt.bool_bool a b
    | int b=>obtain ⟨t,rfl⟩:=rx; exact SeqAt.EqAt.bool_int a b t
    | str b=>obtain ⟨t,rfl⟩:=rx; exact SeqAt.EqAt.bool_str a b t
    | _=>exact absurd (show false=true from fx) Bool.false_ne_true
  | int a=>
    obtain ⟨t',rfl⟩:=ry
    cases x with
    | non=>cases rx; exact SeqAt.EqAt.int_none a t'
    | bl b=>cases rx; exact SeqAt.EqAt.int_bool a t' b
    | int b=>obtain ⟨t,rfl⟩:=rx; exact SeqAt.EqAt.int_int a t' b t
    | str b=>obtain ⟨t,rfl⟩:=rx; exact SeqAt.EqAt.int_str a t' b t
    | _=>exact absurd (show false=true from fx) Bool.false_ne_true
  | str a=>
    obtain ⟨t',rfl⟩:=ry
    cases x with
    | non=>cases rx; exact SeqAt.EqAt.str_none a t'
    | bl b=>cases rx; exact SeqAt.EqAt.str_bool a t' b
    | int b=>obtain ⟨t,rfl⟩:=rx; exact SeqAt.EqAt.str_int a t' b t
    | str b=>obtain ⟨t,rfl⟩:=rx; exact SeqAt.EqAt.str_str a t' b t
    | _=>exact absurd (show false=true from fx) Bool.false_ne_true
  | _=>exact absurd (show false=true from fy) Bool.false_ne_true
def eqU (x:V) (u:Value):Bool:=match u with
  | .none=>eqV .non x
  | .bool b=>eqV (.bl b) x
  | .int i _=>eqV (.int i) x
  | .str z _=>eqV (.str z) x
  | _=>false
theorem eqU_of {x y:V} {u:Value} (r:RelV y u) (f:qed y=true):eqU x u=eqV y x:=by
  cases y with
  | non=>cases r; rfl
  | bl b=>cases r; rfl
  | int i=>obtain ⟨t,rfl⟩:=r; rfl
  | str z=>obtain ⟨t,rfl⟩:=r; rfl
  | _=>exact absurd (show false=true from f) Bool.false_ne_true
theorem yhz {x:V}:∀ {xs:List V} {us:List Value},Vals xs us→xs.all qed=true→us.any (eqU x)=xs.any fun y=>eqV y x
  | _,_,.nil,_=>rfl
  | y :: xs,u :: us,.cons r t,f=>by
    rw [List.all_cons,Bool.and_eq_true] at f
    rw [List.any_cons,List.any_cons,eqU_of r f.1,yhz t f.2]
theorem ygg {A:Around} {s:Shared} {x:V} {v:Value} (rx:RelV x v) (fx:qed x=true):∀ {xs:List V} {us:List Value},Vals xs us→xs.all qed=true→∀ u∈us,SeqAt.EqAt A s u v (eqU x u)
  | _,_,.nil,_=>fun u hu=>by cases hu
  | y :: xs,u :: us,.cons r t,f=>fun u' hu=>by
    rw [List.all_cons,Bool.and_eq_true] at f
    rcases List.mem_cons.mp hu with rfl | hu
    · rw [eqU_of r f.1]; exact eqAt_V r rx f.1 fx
    · exact ygg rx fx t f.2 u' hu
def inV (x:V) (xs:List V):Bool:=xs.any fun y=>eqV y x
def rIn (K:PySem.W.Frag) (neg:Bool):R2:=fun x y H Q=>∃ p xs,y=.ref p∧(SqL K H p xs∨SqT K H p xs)∧qed x=true∧xs.all qed=true∧Q (.bl (if neg then !inV x xs else inV x xs)) H
theorem ybg:OpR X (compareOp .In) (rIn X.K false):=by
  intro pins s σ H x y v u Q I rx ry h
  obtain ⟨p,xs,rfl,hq,fx,fs,q⟩:=h
  cases ry
  rcases hq with hq | hq
  · obtain ⟨its,r,pl,hz⟩:=I.list hq
    refine SeqAt.in_listAt (eqU x) pl.isList (fun w hw=>ygg rx fx r fs w (by simpa using hw)) ⟨.bl _,H,I,rfl,?_⟩
    rw [show its.toArray.any (eqU x)=its.any (eqU x) by simp,yhz r fs]
    exact q
  · obtain ⟨its,r,pl,hz⟩:=I.tuple hq
    refine SeqAt.in_tupleAt (eqU x) pl (fun w hw=>ygg rx fx r fs w (by simpa using hw)) ⟨.bl _,H,I,rfl,?_⟩
    rw [show its.toArray.any (eqU x)=its.any (eqU x) by simp,yhz r fs]
    exact q
theorem yal:yds X (.builtin "len") (fun xs H Q=>∃ p ys,xs=[.ref p]∧(SqL X.K H p ys∨SqT X.K H p ys)∧Q (.int ys.length) H):=by
  intro pins s σ H xs us Q I r h
  obtain ⟨p,ys,rfl,hq,q⟩:=h
  obtain ⟨u,rfl,rx⟩:=vals1 r
  cases rx
  have hn:=qif
  rcases hq with hq | hq
  · obtain ⟨its,r',pl,hz⟩:=I.list hq
    have hlen:=r'.length
    exact Calls.call_len_list pl.isList (by simp only [List.size_toArray] <;> omega) ⟨.int ys.length,H,I.tok _,⟨s.toks + 1,by rw [List.size_toArray,hlen]⟩,q⟩
  · obtain ⟨its,r',pl,hz⟩:=I.tuple hq
    have hlen:=r'.length
    exact len_tuple pl (by simp only [List.size_toArray] <;> omega) ⟨.int ys.length,H,I.tok _,⟨s.toks + 1,by rw [List.size_toArray,hlen]⟩,q⟩
theorem qbs:yds X (.type "list") (fun xs H Q=>∃ p ys,xs=[.ref p]∧(SqL X.K H p ys∨SqT X.K H p ys)∧∀ l,H l=none→Q (.ref l) (upd H l (.lst ys))):=by
  intro pins s σ H xs us Q I r h
  obtain ⟨p,ys,rfl,hq,q⟩:=h
  obtain ⟨u,rfl,rx⟩:=vals1 r
  cases rx
  have fin:∀ (its:List Value),Vals ys its→ys.length≤sizeLine→∀ (h':Heap) (c':Nat),(∀ b o',s.heap.get? b=some o'→h'.get? b=some o')→
      h'.get? s.heap.objs.size=some { cls:=.type "list",dict:=none,data:=.seq its.toArray c',slots:=#[] }→EP X pins σ Q (.ref s.heap.objs.size) { s with heap:=h' }:=fun its r' hz h' c' kp e=>
    ⟨.ref s.heap.objs.size,_,I.laid (t':=s.toks) kp (Nat.le_refl _) (show ybc X.prog X.w _ h' _ (.lst ys) from ⟨hz,its,c',r',e⟩),rfl,q _ (I.hok.fresh (Nat.le_refl _))⟩
  rcases hq with hq | hq
  · obtain ⟨its,r',pl,hz⟩:=I.list hq
    have hlen:=r'.length
    obtain ⟨o,ho,hc,n,hd⟩:=pl.isList
    exact call_list_seq p (.inl rfl) ho hc hd (fun h' c' kp e=>fin its r' hz h' c' kp e) (by simp only [List.size_toArray] <;> omega)
  · obtain ⟨its,r',pl,hz⟩:=I.tuple hq
    have hlen:=r'.length
    obtain ⟨o,ho,hc,n,hd⟩:=pl
    exact call_list_seq p (.inr rfl) ho hc hd (fun h' c' kp e=>fin its r' hz h' c' kp e) (by simp only [List.size_toArray] <;> omega)
theorem qeg:yds X (.type "tuple") (fun xs H Q=>∃ p ys,xs=[.ref p]∧((SqL X.K H p ys∧∀ l,H l=none→Q (.ref l) (upd H l (.tup ys)))∨(SqT X.K H p ys∧Q (.ref p) H))):=by
  intro pins s σ H xs us Q I r h
  obtain ⟨p,ys,rfl,h⟩:=h
  obtain ⟨u,rfl,rx⟩:=vals1 r
  cases rx
  rcases h with ⟨hq,q⟩ | ⟨hq,q⟩
  · obtain ⟨its,r',pl,hz⟩:=I.list hq
    have hlen:=r'.length
    refine call_tuple_list pl.isList (fun h' kp=>?_) (by simp only [List.size_toArray] <;> omega)
    have I1:Inv X pins σ H { s with heap:=h' }:=I.kept (t':=s.toks) kp
    have I2:Inv X pins σ (upd H h'.objs.size (.tup ys)) { s with heap:=h'.push { cls:=.type "tuple",data:=.seq its.toArray } }:=
      I1.laid (t':=s.toks) (fun b o e=>Heap.get?_push_of_some _ e) (Nat.le_refl _) (show ybc X.prog X.w _ _ _ (.tup ys) from ⟨hz,its,r',IsTup.new _ _⟩)
    exact ⟨.ref h'.objs.size,_,I2,rfl,q _ (I1.hok.fresh (Nat.le_refl _))⟩
  · obtain ⟨its,r',pl,hz⟩:=I.tuple hq
    exact call_tuple_same pl ⟨.ref p,H,I,rfl,q⟩
def tyV (K:PySem.W.Frag) (T:String) (x:V) (H:Hp):Prop:=match x with
  | .str _=>T="str"
  | .int _=>T="int"
  | .ref p=>(T="list"∧∃ xs,SqL K H p xs)∨(T="tuple"∧∃ o,K.lookup p=some o∧o.cls=.type "tuple"∧o.dict=none)∨
      (T="dict"∧((∃ kvs,H p=some (.dK kvs))∨∃ kvs,H p=some (.dT kvs)))∨(T="set"∧∃ S n,H p=some (.set S n))
  | _=>False
theorem tyV_is {pins:List (Addr×Obj)} {σ:St} {H:Hp} {s:Shared} {T:String} {x:V} {v:Value} (I:Inv X pins σ H s) (r:RelV x v) (ty:tyV X.K T x H) :
    s.TypeIs v T∧∀ a,v=.ref a→∃ ob,s.heap.get? a=some ob∧ob.dict=none:=by
  cases x with
  | str z=>
    obtain ⟨t,rfl⟩:=r
    cases (show T="str" from ty)
    exact ⟨typeIs_str s z t,fun _ e=>nomatch e⟩
  | int i=>
    obtain ⟨t,rfl⟩:=r
    cases (show T="int" from ty)
    exact ⟨typeIs_int s i t,fun _ e=>nomatch e⟩
  | ref p=>
    cases r
    rcases ty with ⟨rfl,xs,hq⟩ | ⟨rfl,o,hk,hc,hd⟩ | ⟨rfl,hk⟩ | ⟨rfl,S,n,hk⟩
    · obtain ⟨its,_,pl,_⟩:=I.list hq
      refine ⟨pl.isList.typeIs,fun a e=>?_⟩
      cases e
      obtain ⟨o,n,e,c,hd,_⟩:=pl
      exact ⟨o,e,hd⟩
    · refine ⟨⟨o,I.kIn p o hk,hc⟩,fun a e=>?_⟩
      cases e
      exact ⟨o,I.kIn _ o hk,hd⟩
    · have z:∃ o,s.heap.get? p=some o∧o.ExactDict:=by
        rcases hk with ⟨kvs,hk⟩ | ⟨kvs,hk⟩
        · obtain ⟨_,_,_,_,o,_,_,e,ex,_⟩:=I.hok p _ hk
          exact ⟨o,e,ex⟩
        · obtain ⟨_,_,_,_,o,_,_,e,ex,_⟩:=I.hok p _ hk
          exact ⟨o,e,ex⟩
      obtain ⟨o,e,ex⟩:=z
      refine ⟨⟨o,e,ex.1⟩,fun a e2=>?_⟩
      cases e2
      exact ⟨o,e,ex.2.1⟩
    · obtain ⟨o,_,_,_,e,ex,_⟩:=I.hok p _ hk
      refine ⟨⟨o,e,ex.1⟩,fun a e2=>?_⟩
      cases e2
      exact ⟨o,e,ex.2.1⟩
  | _=>exact False.elim ty
def tBM (K:PySem.W.Frag) (T:String) (r:V→List V→Hp→VK→Prop) (to:TE) (t:TA):TE:=fun σ H Q=>to σ H fun x H1=>tyV K T x H1∧t σ H1 fun xs H2=>r x xs H2 Q
variable {o e:Expr} {es:List Expr} {to:TE} {t:TA} {name:Str} {apos cpos:Pos} {T id:String} {r:V→List V→Hp→VK→Prop}
theorem qgj (pa:PlainAttrs T) (slot:Slot T name id) (hty:typeOf (.builtin id)=pure (.type "method_descriptor")) (hm:MtR X id r) (ho:PE X o to) (ha:PA X (e :: es) t)
    (hbase:attributeBase o name X.env (eval o X.env)=eval o X.env:=by rfl)
    (hfew:((backTo cpos (starEach (e :: es) X.env)).all (fun x=>!x.1) && (backToKw cpos (keywordEach [] X.env)).all (fun x=>x.1.isSome)
      && decide ((e :: es).length + ([]:List Keyword).length + (if ([]:List Keyword).isEmpty then 0 else 1) < 30))=true:=by rfl)
    (hline:(apos.endLine == cpos.line)=true:=by rfl) (hs:starEach (e :: es) X.env=(false,eval e X.env) :: starEach es X.env:=by rfl) (hplain:(backTo cpos (starEach es X.env)).any (·.1)=false:=by rfl) :
    PE X (.Call (.Attribute o name apos) (e :: es) [] cpos) (tBM X.K T r to t):=by
  intro pins s σ H Q I h
  refine wpAny_Call_method_late hbase hfew hline rfl (thn (ho pins s σ H _ I h) fun v s1 ⟨x,H1,I1,r1,ty,q1⟩=>?_)
  obtain ⟨h1,h2⟩:=tyV_is I1 r1 ty
  refine ⟨T,id,pa,slot,hty,h1,h2,?_⟩
  have hA:=ha cpos pins s1 σ H1 _ I1 q1
  rw [hs] at hA ⊢
  refine Calls.callWith_builtin (by show (false || (backTo cpos (starEach es X.env)).any (·.1))=false; rw [hplain] <;> rfl) (Calls.evalArgs_plain ?_)
  exact thn hA fun us s2 ⟨vs,H2,I2,r2,q2⟩=>hm pins s2 σ H2 x vs v us Q I2 r1 r2 q2
/- xs.append(e),list.index on a module's tuple .. are MtR facts of 06m -/
end
end L2
namespace L2
open PySem PySem.Spec PyProof.Rows
def MtM (X:Cx) (id:String) (r:V→List V→Hp→VK→Prop):Prop:=
  ∀ (pins:List (Addr×Obj)) (s:Shared) (σ:St) (H:Hp) (x:V) (xs:List V) (v:Value) (us:List Value) (Q:VK),Inv X pins σ H s→RelV x v→Vals xs us→r x xs H Q→
    wpAny (model X.prog X.w) X.A (call (.builtin id) (v :: us)) (EP X pins σ Q) X.xe s
theorem Vals.one:∀ {x:V} {us:List Value},Vals [x] us→∃ u,us=[u]∧RelV x u
  | _,_,.cons r .nil=>⟨_,rfl,r⟩
theorem Vals.rep {xs:List V} {us:List Value} (h:Vals xs us):∀ k:Nat,Vals (List.replicate k xs).flatten (List.replicate k us).flatten
  | 0=>.nil
  | k + 1=>by
    rw [List.replicate_succ,List.replicate_succ,List.flatten_cons,List.flatten_cons]
    exact Vals.append h (Vals.rep h k)
theorem yha (its:List Value):∀ (k:Nat) (acc:List Value),
    List.foldl (fun x1 x2=>x1++x2) acc.toArray (List.replicate k its.toArray)=(acc++(List.replicate k its).flatten).toArray
  | 0,acc=>by simp
  | k + 1,acc=>by
    have e:acc.toArray++its.toArray=(acc++its).toArray:=by simp
    have e2:(acc++its)++(List.replicate k its).flatten=acc++(List.replicate (k + 1) its).flatten:=by
      rw [List.replicate_succ,List.flatten_cons,List.append_assoc]
    rw [← e2,← yha its k (acc++its),← e,List.replicate_succ,List.foldl_cons]
section
variable {X:Cx} {pins:List (Addr×Obj)} {σ:St} {H:Hp} {s:Shared} {l b:Addr} {xs ys zs:List V}
theorem Inv.lset {its its':List Value} {n:Nat} {f:Array Value→Array Value} {t':Nat} (I:Inv X pins σ H s) (hH:H l=some (.lst xs))
    (e:s.heap.get? l=some { cls:=.type "list",data:=.seq its.toArray n }) (hf:f its.toArray=its'.toArray) (hv:Vals ys its') (hz:ys.length≤sizeLine) :
    Inv X pins σ (upd H l (.lst ys)) { s with heap:=s.heap.update l (Obj.mapSeq f),toks:=t' }:=by
  have q:=PySem.IsL.update e f
  rw [hf] at q
  refine I.write (x:=l) (e:=l) (by rw [hH]; exact trivial) (.inl rfl) (fun b' u hb hu=>(Heap.get?_update_other s.heap (Obj.mapSeq f) (Ne.symm hb)).trans hu) ⟨_,q⟩ ?_
  exact ⟨hz,its',_,hv,q⟩
theorem Inv.lnew {its:List Value} {t':Nat} (I:Inv X pins σ H s) (hv:Vals ys its) (hz:ys.length≤sizeLine) :
    Inv X pins σ (upd H s.heap.objs.size (.lst ys)) { s with heap:=s.heap.push { cls:=.type "list",data:=.seq its.toArray },toks:=t' }:=
  I.laid (fun _ _ q=>Heap.get?_push_of_some _ q) (Nat.le_refl _) ⟨hz,its,0,hv,Heap.get?_push_size _ rfl⟩
theorem Inv.fresh (I:Inv X pins σ H s):H s.heap.objs.size=none:=I.hok.fresh (Nat.le_refl _)
theorem Inv.lstM (I:Inv X pins σ H s) (hH:H l=some (.lst xs)):xs.length≤sizeLine∧∃ (its:List Value) (n:Nat),Vals xs its∧xs.length=its.length∧s.heap.get? l=some { cls:=.type "list",data:=.seq its.toArray n }:=by
  obtain ⟨z,its,n,r,e⟩:=I.hok l _ hH
  exact ⟨z,its,n,r,r.length,e⟩
theorem yij {n:Nat} (h:n≤sizeLine):Builtin.List.listTooLong n=false:=by
  unfold Builtin.List.listTooLong
  exact decide_eq_false (by omega)
end
section
variable {X:Cx}
def rAppend:V→List V→Hp→VK→Prop:=fun x vs H Q=>∃ l xs y,x=.ref l∧vs=[y]∧H l=some (.lst xs)∧xs.length < sizeLine∧Q .non (upd H l (.lst (xs++[y])))
theorem qc0:MtM X "list.append" rAppend:=by
  intro pins s σ H x vs v us Q I rx rv h
  obtain ⟨l,xs,y,rfl,rfl,hH,hz,q⟩:=h
  cases rx
  obtain ⟨u,rfl,ru⟩:=rv.one
  obtain ⟨z,its,n,r,hl,e⟩:=I.lstM hH
  refine call_meets F.slot_list_append ⟨_,e,rfl⟩ F.entry_list_append (F.args_list_append_2 _ _) (PySem.list_append l its.toArray n u (by rw [List.size_toArray]; omega)) ⟨e,?_⟩
  refine ⟨.non,_,I.lset (its':=its++[u]) hH e (by simp) (r.append (.cons ru .nil)) ?_,rfl,q⟩
  rw [List.length_append,List.length_singleton]
  omega
def rExtend:V→List V→Hp→VK→Prop:=fun x vs H Q=>∃ l b xs zs,x=.ref l∧vs=[.ref b]∧H l=some (.lst xs)∧H b=some (.lst zs)∧xs.length + zs.length≤sizeLine∧Q .non (upd H l (.lst (xs++zs)))
theorem qec:MtM X "list.extend" rExtend:=by
  intro pins s σ H x vs v us Q I rx rv h
  obtain ⟨l,b,xs,zs,rfl,rfl,hH,hB,hz,q⟩:=h
  cases rx
  obtain ⟨u,rfl,ru⟩:=rv.one
  cases ru
  obtain ⟨z,its,n,r,hl,e⟩:=I.lstM hH
  obtain ⟨z2,its2,n2,r2,hl2,e2⟩:=I.lstM hB
  have hsz:its.toArray.size + its2.toArray.size≤sizeLine:=by rw [List.size_toArray,List.size_toArray]; omega
  have hlong:¬ (!its.toArray.isEmpty && Builtin.List.listTooLong (its.toArray.size + its2.toArray.size))=true:=by
    rw [yij hsz,Bool.and_false]
    exact Bool.false_ne_true
  refine call_meets F.slot_list_extend ⟨_,e,rfl⟩ F.entry_list_extend (F.args_list_extend_2 _ _)
    (AutoSeq1.list_extend_list_list_0 l its.toArray n b its2.toArray n2 hlong (by rw [List.size_toArray]; omega) (by omega)) ⟨e,e2,?_⟩
  refine ⟨.non,_,I.lset (its':=its++its2) hH e (by simp) (r.append r2) ?_,rfl,q⟩
  rw [List.length_append]
  omega
def rCat:R2:=fun x y H Q=>∃ l b xs zs,x=.ref l∧y=.ref b∧H l=some (.lst xs)∧H b=some (.lst zs)∧xs.length + zs.length≤sizeLine∧∀ p,H p=none→Q (.ref p) (upd H p (.lst (xs++zs)))
theorem ycg:OpR X (binaryOp .Add) rCat:=by
  intro pins s σ H x y v u Q I rx ry h
  obtain ⟨l,b,xs,zs,rfl,rfl,hH,hB,hz,q⟩:=h
  cases rx
  cases ry
  obtain ⟨z,its,n,r,hl,e⟩:=I.lstM hH
  obtain ⟨z2,its2,n2,r2,hl2,e2⟩:=I.lstM hB
  refine PySem.P.add_list e e2 ?_ (by rw [List.size_toArray,List.size_toArray]; omega)
  have ea:its.toArray++its2.toArray=(its++its2).toArray:=by simp
  rw [ea]
  exact ⟨.ref _,_,I.lnew (t':=s.toks) (r.append r2) (by rw [List.length_append]; omega),rfl,q _ I.fresh⟩
def rRep:R2:=fun x y H Q=>∃ l k xs,x=.ref l∧y=.int k∧H l=some (.lst xs)∧-(2 ^ 63)≤k∧k < 2 ^ 63∧xs.length * k.toNat≤sizeLine∧
  ∀ p,H p=none→Q (.ref p) (upd H p (.lst (List.replicate k.toNat xs).flatten))
theorem len_rep {α:Type} (xs:List α) (k:Nat):(List.replicate k xs).flatten.length=k * xs.length:=by
  induction k with
  | zero=>simp
  | succ k ih=>rw [List.replicate_succ,List.flatten_cons,List.length_append,ih,Nat.succ_mul,Nat.add_comm]
theorem yig:OpR X (binaryOp .Mult) rRep:=by
  intro pins s σ H x y v u Q I rx ry h
  obtain ⟨l,k,xs,rfl,rfl,hH,h1,h2,hz,q⟩:=h
  cases rx
  obtain ⟨t,rfl⟩:=ry
  obtain ⟨z,its,n,r,hl,e⟩:=I.lstM hH
  have hlen:its.toArray.size * k.toNat≤sizeLine:=by rw [List.size_toArray,← hl]; exact hz
  have hcap:¬ its.toArray.size * k.toNat > (2 ^ 63 - 1) / 8:=by
    have:(sizeLine:Nat)≤(2 ^ 63 - 1) / 8:=by decide
    omega
  have hfit:¬ (!Builtin.List.listFitsIndex k)=true:=by
    rw [fitsIndex_both h1 h2]
    exact Bool.false_ne_true
  have hlong:¬ Builtin.List.listTooLong (its.toArray.size * k.toNat)=true:=by
    rw [yij hlen]
    exact Bool.false_ne_true
  have hnew:List.foldl (fun x1 x2=>x1++x2) #[] (List.replicate (if its.toArray.isEmpty=true then 0 else k.toNat) its.toArray)=(List.replicate k.toNat its).flatten.toArray:=by
    have f0:∀ m:Nat,List.foldl (fun x1 x2=>x1++x2) #[] (List.replicate m its.toArray)=(List.replicate m its).flatten.toArray:=fun m=>by
      have:=yha its m []
      rw [List.nil_append] at this
      exact this
    rw [f0]
    cases its with
    | nil=>simp
    | cons a r'=>rw [if_neg (by simp)]
  refine wpAny_binaryOp_repeat_ref (T:="list") (U:="int") (by decide) ⟨_,e,rfl⟩ (fun s'=>typeIs_int s' k t) noFill_list_mul F.fills_int_mul F.slot_int_rmul repeat_list F.slot_int_index.lookup
    (call_meets F.slot_int_rmul (typeIs_int s k t) F.entry_int_rmul (F.args_int_rmul_2 _ _) (int___rmul___int_list k t l its.toArray n)
      ⟨e,rfl,⟨_,e,rfl⟩,call_meets F.slot_list_mul ⟨_,e,rfl⟩ F.entry_list_mul (F.args_list_mul_2 _ _) (AutoListH.list___mul___list_int_3 l its.toArray n k t hfit hcap hlong) ⟨e,?_⟩⟩)
  rw [hnew]
  exact ⟨.ref _,_,I.lnew (t':=s.toks) (r.rep k.toNat) (by rw [len_rep,Nat.mul_comm]; exact hz),rfl,q _ I.fresh⟩
end
end L2
namespace Att
open PySem PySem.W PySem.Calls PyProof.Rows
theorem qfa {P:Params} {h:Heap}:∀ (ns:List Int) (vs:List Value),WellAll P h vs (ns.map WData.int)→IntsAre vs ns:=by
  intro ns
  induction ns with
  | nil=>
    intro vs w
    rw [List.map_nil] at w
    cases w
    exact .nil
  | cons n ns ih=>
    intro vs w
    rw [List.map_cons] at w
    cases w with
    | cons a b=>
      cases a
      exact .cons _ _ (ih _ b)
theorem qkl {l:OpenLaw} {n:Nat} (hn:l.most=some n) {P:Params} {h:Heap} {args:List WData} {vals:List Value}
    (hpre:l.row.toRowW.claim.pre args=true) (hwl:WellAll P h vals args) :
    ∃ a vs ns,vals=[Value.ref a]∧args=[WData.list (ns.map WData.int)]∧h.get? a=some { cls:=.type "list",data:=.seq vs.toArray }∧IntsAre vs ns∧ns.length≤n:=by
  have hsh:WShape.hasAll [] args [.list .int]=true:=(pre_splitW hpre).1
  have hc:l.pre.holds [] { args:=args }=true:=(pre_splitW hpre).2
  obtain ⟨d,r,rfl,h1,h2⟩:=hasAllW_cons hsh
  obtain rfl:=hasAllW_nil h2
  obtain ⟨xs,rfl,h3⟩:=hasW_list h1
  obtain ⟨ns,rfl⟩:=items_int h3
  have hlen:ns.length≤n:=by
    unfold OpenLaw.pre at hc
    have h4:(WTm.not (.lt (.lit (.int (n:Int))) (.len (.arg 0)))).holds [] { args:=[.list (ns.map .int)] }=true:=by
      have h4:=(holds_andW hc).1
      rw [hn] at h4
      exact h4
    have h5:=condW_of h4 (w_not (w_lt w_lit (w_len_list (w_arg rfl))))
    rw [List.length_map] at h5
    refine Nat.le_of_not_lt fun q=>?_
    have q':(n:Int) < ((ns.length:Nat):Int):=by omega
    first
      | (rw [decide_eq_true q'] at h5; exact absurd h5 (by decide))
      | (simp at h5; omega)
  cases hwl with
  | cons w1 w2=>
    cases w2
    cases w1 with
    | list ho hall=>exact ⟨_,_,ns,rfl,rfl,ho,qfa ns _ hall,hlen⟩
theorem yjl (l:OpenLaw) (args:List WData):l.row.toRowW.claim.post args (.bool true) args=true:=
  postW_of (r:=l.row.toRowW) (X:=(true == true))
    (show WShape.has [] (.bool true) .bool=true by first | rfl | decide | simp [WShape.has,WShape.arms,WShape.armsAll])
    (show (WTm.eq .res (.lit (.bool true))).value [] { args:=args,res:=some (.bool true),after:=args }=some (.bool (true == true)) from w_eq_bool (w_res rfl) w_lit) rfl
theorem attach_call {l:OpenLaw} {n:Nat} {q:Program} {loose:List Str} {XP:(Str→Option Value)→Heap→Prop} {YP:World→Heap→Prop} {d:DefRec}
    (hn:l.most=some n) (hdf:d.params.defaults=[])
    (call:∀ (w:World) (s₀ s₁:Shared) (mg mb:Str→Option Value) (fa:Addr) (o:Obj) (pm cd doc:Value) (a:Addr) (vs:List Value) (ns:List Int),
      Ground q loose [] XP w s₀ mg mb s₁.heap→YP w s₁.heap→
      s₁.heap.get? fa=some o→o.data=.func (docDef d.name d.params d.body d.scope pm cd doc)→s₁.heap.CodeRec cd d.name→mg d.name=some (.ref fa)→
      s₁.heap.get? a=some { cls:=.type "list",data:=.seq vs.toArray }→IntsAre vs ns→ns.length≤n→s₁.gens=#[]→
      codeAny (model l.prog w) callerA (.call (.ref fa) ⟨[.ref a],[]⟩) (fun r s'=>r=.ok (.ret (.bool true))∧OldK s₁.heap s'.heap∧s'.os=s₁.os∧AllBare s'.gens) s₁) :
    WalkO q loose XP YP l.row.toRowW d [] (fun f vs=>PySem.call f vs):=by
  intro w s₀ s₁ mg mb G Y fa o pm cd doc dV kV ho hd hcd hD hmg hg args vals as hpre hlay hrd hwl hlo
  obtain rfl:dV=.none:=Dflts.none hD hdf
  obtain rfl:kV=.none:=Dflts.noKw hD
  obtain ⟨a,vs,ns,rfl,rfl,hobj,hints,hlen⟩:=qkl hn hpre hwl
  refine enter_call (codeAny_mono (call w s₀ s₁ mg mb fa o pm cd doc a vs ns G Y ho (fd_plain hd) hcd hmg hobj hints hlen hg) fun r s' hq=>?_)
  obtain ⟨rfl,h2,h3,h4⟩:=hq
  exact ⟨.inl ⟨.bool true,.bool true,[],rfl,fun _=>rfl,.bool true,yjl l _,fun _=>⟨List.Pairwise.nil,fun _ hm=>(nomatch hm)⟩⟩,h2,h3,h4⟩
end Att
namespace L2
open PySem PySem.Spec PyProof.Rows
theorem ygm:∀ {vs:List Value} {ns:List Int},IntsAre vs ns→Vals (ns.map V.int) vs
  | _,_,.nil=>.nil
  | _,_,.cons n t h=>.cons ⟨t,rfl⟩ (ygm h)
def Only (H:Hp):Prop:=∀ b,H b=none∨∃ o xs,H b=some (.frz o (.lst xs))
theorem law_call {P:Program} {w:World} {K:PySem.W.Frag} {mg mb:Str→Option Value} {CX:CXT} {k:Nat} {fa a:Addr} {fd:FuncData} {x:Str} {sp:Sp} {s₁:Shared} {vs:List Value} {ns:List Int}
    (KX:K.In s₁.heap) (hns:s₁.heap.Ns mainGlobals mg) (hb:s₁.heap.Ns builtinsNs mb) (hbb:∀ x:Str,x≠"__name__"→mb x=bootBuiltins x) (hlim:s₁.heap.NoLimit) (hg:s₁.gens=#[])
    (ha:s₁.heap.get? a=some { cls:=.type "list",data:=.seq vs.toArray }) (hi:IntsAre vs ns) (hl:ns.length≤sizeLine) (hr:Room k callerA)
    (F:∀ base:Heap,K.In base→base.Ns mainGlobals mg→FnOk P w K mg base CX k fa fd [x] sp) (hbind:∀ (s:Shared) (u:Value),BindsTo s fd ⟨[u],[]⟩ [(x,u)])
    (hsp:∀ H:Hp,Only H→SqL K H a (ns.map V.int)→sp [.ref a] H (fun v _=>v=.bl true) fun _ _ _=>False)
    (hCX:∀ H e s',CX [] H s₁ (fun _ _ _=>False) e s'→False) :
    codeAny (model P w) callerA (.call (.ref fa) ⟨[.ref a],[]⟩) (fun r s'=>r=.ok (.ret (.bool true))∧OldK s₁.heap s'.heap∧s'.os=s₁.os∧AllBare s'.gens) s₁:=by
  have rv:=ygm hi
  have lenV:=hi.length
  -- from an abstract heap in which nothing but the script may be tracked
  have core:∀ H:Hp,Only H→SqL K H a (ns.map V.int)→HOk P w H s₁.heap→(∀ b,H b≠none→b=a)→(H a≠none→K.lookup a=none)→
      codeAny (model P w) callerA (.call (.ref fa) ⟨[.ref a],[]⟩) (fun r s'=>r=.ok (.ret (.bool true))∧OldK s₁.heap s'.heap∧s'.os=s₁.os∧AllBare s'.gens) s₁:=by
    intro H hO hS hok hA hK
    have base_of:∀ {b:Addr} {o:Obj},s₁.heap.get? b=some o→H b=none→(hidT s₁.heap H).get? b=some o:=fun e n=>hidT_get e n
    have noA:∀ {b:Addr} {o:Obj} {es:Array DictEntry} {ep:Nat},s₁.heap.get? b=some o→o.data=.dict es ep→H b=none:=fun {b o es ep} e d=>by
      cases q:H b with
      | none=>rfl
      | some u=>
        have e':b=a:=hA b (by rw [q]; simp)
        subst e'
        rw [ha] at e; cases e
        have d':Data.seq vs.toArray _=Data.dict es ep:=d
        cases d'
    have nsK:∀ {b:Addr} {m:Str→Option Value},s₁.heap.Ns b m→(hidT s₁.heap H).Ns b m:=fun {b m} ⟨o,es,ep,e,d,r⟩=>⟨o,es,ep,base_of e (noA e d),d,r⟩
    have hKb:K.In (hidT s₁.heap H):=fun b o e=>base_of (KX b o e) (by
      cases q:H b with
      | none=>rfl
      | some u=>
        have e':b=a:=hA b (by rw [q]; simp)
        subst e'
        rw [hK (by rw [q]; simp)] at e; cases e)
    have hM:Mod K mg (hidT s₁.heap H):=⟨hKb,nsK hns,⟨mb,nsK hb,hbb⟩,let ⟨mc,h1,h2⟩:=hlim; ⟨mc,nsK h1,h2⟩⟩
    have e0:Env0 P w K mg (hidT s₁.heap H) callerA [] s₁ H:=⟨rfl,hM,fun b o e=>of_hidT e,Nat.le_of_eq (ykt _ _),trivial,fun b hb=>absurd (show b∈([]:List Addr) from hb) (by simp),hok,.of_eq hg⟩
    refine codeAny_mono ((F _ hKb (nsK hns)).run callerA [] s₁ H ⟨[.ref a],[]⟩ [.ref a] [.ref a] _ _ hr e0 (hbind s₁ (.ref a)) (.cons rfl .nil) (hsp H hO hS)) fun r s' h=>?_
    cases r with
    | error e=>exact (hCX H e s' h).elim
    | ok fl=>
      cases fl with
      | next=>exact False.elim h
      | brk=>exact False.elim h
      | cont=>exact False.elim h
      | ret u=>
        obtain ⟨v,H',os,bare,un,hok',r',q⟩:=h
        have q':v=.bl true:=q
        subst q'
        obtain rfl:u=Value.bool true:=r'
        refine ⟨rfl,OldK.of_keep fun b o e=>?_,os,bare⟩
        cases q:H b with
        | none=>exact un.keep b o e q (by intro z; exact absurd (show b∈([]:List Addr) from z) (by simp)) (by simp)
        | some u=>
          rcases hO b with z | ⟨ob,xs,z⟩
          · rw [q] at z; cases z
          · have z2:=un.frzs b ob _ z
            obtain ⟨e1,_⟩:=hok b _ z
            obtain ⟨e2,_⟩:=hok' b _ z2
            rw [e] at e1; cases e1
            exact e2
  cases hk:K.lookup a with
  | some o=>
    -- the script is one of the module's own objects
    have e:=KX a o hk
    rw [ha] at e
    cases e
    refine core (fun _=>none) (fun _=>.inl rfl) (.inr ⟨_,vs.toArray,_,hk,rfl,rfl,rfl,by rw [List.size_toArray,lenV]; exact hl,by simpa using rv⟩) (fun b u z=>by have z':(none:Option HO)=some u:=z; cases z') (fun b z=>absurd rfl z) fun z=>absurd rfl z
  | none=>
    refine core (fun b=>if b=a then some (.frz { cls:=.type "list",data:=.seq vs.toArray } (.lst (ns.map V.int))) else none) (fun b=>?_) (.inl (.inr ⟨{ cls:=.type "list",data:=.seq vs.toArray },if_pos rfl⟩)) (fun b u z=>?_) (fun b z=>?_) fun _=>hk
    · by_cases hb:b=a
      · exact .inr ⟨_,_,if_pos hb⟩
      · exact .inl (if_neg hb)
    · by_cases hb:b=a
      · have z':=(if_pos hb).symm.trans z
        cases z'
        subst hb
        exact ⟨ha,by rw [List.length_map]; exact hl,vs,_,rv,ha⟩
      · have z':=(if_neg hb).symm.trans z
        cases z'
    · by_cases hb:b=a
      · exact hb
      · exact absurd (if_neg hb) z
end L2
namespace L2
open PySem PySem.Spec PyProof.Rows
theorem walk_of {l:PySem.W.OpenLaw} {n k:Nat} {q:Program} {loose:List Str} {XP:(Str→Option Value)→Heap→Prop} {YP:World→Heap→Prop} {d:DefRec} {K:Params→PySem.W.Frag} {CX:World→CXT} {sp:World→Sp} {x:Str}
    (hn:l.most=some n) (hn2:n≤sizeLine) (hdf:d.params.defaults=[]) (hr:Room k callerA)
    (hY:∀ (w:World) (h:Heap),YP w h→(K w.params).In h)
    (F:∀ (w:World) (mg:Str→Option Value) (fa:Addr) (h:Heap),(K w.params).In h→h.Ns mainGlobals mg→mg d.name=some (.ref fa)→
      ∃ fd:FuncData,(∀ (s:Shared) (u:Value),BindsTo s fd ⟨[u],[]⟩ [(x,u)])∧
        ∀ base:Heap,(K w.params).In base→base.Ns mainGlobals mg→FnOk l.prog w (K w.params) mg base (CX w) k fa fd [x] (sp w))
    (hsp:∀ (w:World) (H:Hp) (a:Addr) (ns:List Int),ns.length≤n→Only H→SqL (K w.params) H a (ns.map V.int)→sp w [.ref a] H (fun v _=>v=.bl true) fun _ _ _=>False)
    (hCX:∀ (w:World) (H:Hp) (s:Shared) (e:Value) (s':Shared),CX w [] H s (fun _ _ _=>False) e s'→False) :
    PySem.W.WalkO q loose XP YP l.row.toRowW d [] (fun f vs=>PySem.call f vs):=by
  refine Att.attach_call hn hdf fun w s₀ s₁ mg mb fa o pm cd doc a vs ns G Y ho hd hcd hmg hobj hints hlen hg=>?_
  have KX:=hY w _ Y
  obtain ⟨fd,hb,hF⟩:=F w mg fa _ KX G.T.g hmg
  exact law_call KX G.T.g G.T.b G.T.builtins G.T.nolimit hg hobj hints (Nat.le_trans hlen hn2) hr hF hb (fun H hO hS=>hsp w H a ns hlen hO hS) fun H e s'=>hCX w H s₁ e s'
end L2
namespace L2
open PySem PySem.Spec PyProof.Rows
def ydi (s:Stmt) (j:Nat):Stmt:=match s with
  | .ClassDef _ _ _ body _ _ _ _ _ _ _=>body.getD j (.Pass ⟨0,0,0,0⟩)
  | _=>.Pass ⟨0,0,0,0⟩
def qaj (s:Stmt):Arguments:=match s with
  | .FunctionDef _ a _ _ _ _ _ _ _ _=>a
  | _=>{ posonlyargs:=[],args:=[],vararg:=none,kwonlyargs:=[],kw_defaults:=[],kwarg:=none,defaults:=[] }
def qag (s:Stmt):List Stmt:=match s with
  | .FunctionDef _ _ b _ _ _ _ _ _ _=>b
  | _=>[]
def yab (s:Stmt):Scope:=match s with
  | .FunctionDef _ _ _ _ _ _ sc _ _ _=>sc
  | _=>{ kind:=.function,names:=[],isGenerator:=false,isCoroutine:=false }
abbrev CX0:CXT:=fun _ _ _ _ _ _=>False
abbrev E0:XK:=fun _ _ _=>False
theorem pass0 {X:Cx}:ydl CX0 X E0:=fun _ _ _ _ _ _ _ h=>h.elim
structure Fun (K:PySem.W.Frag) (x qual:Str) (st:Stmt) (f:Addr) (fd:FuncData):Prop where
  ex:∃ (oc:Value) (od:Option Addr) (kV doc pm:Value) (an:Option Addr) (cdv ct:Value) (osl:Array (Option Value)),
    fd=PySem.W.fnOf x qual (qaj st) (qag st) (yab st) .none kV doc pm an cdv ct∧K.lookup f=some ⟨oc,od,.func fd,osl⟩∧PySem.W.codeIn K cdv qual=true
  kp:PySem.W.keepIn K (.ref f)=true
section
variable {P:Program} {w:World} {K:PySem.W.Frag} {mg:Str→Option Value} {base:Heap}
theorem Fun.ok {x qual:Str} {st:Stmt} {f:Addr} {fd:FuncData} {N ps:List Str} {k:Nat} {sp:Sp} (F:Fun K x qual st f fd) (S:FnScope N ps (yab st)) (len:∀ vs H Q E,sp vs H Q E→vs.length=ps.length)
    (hbody:∀ (cdv:Value) (A:Around) (outer:List Env) (s:Shared) (H:Hp) (vs:List V) (Q:VK) (E:XK),Room k (A.deeper (envOfC qual (yab st) s.heap.objs.size f cdv))→sp vs H Q E→
      ∃ t,PSs (cxOf CX0 P w K mg base N qual (yab st) f cdv A outer s H E).nox (qag st) t∧t { nx:=fun _ H'=>Q .non H',rt:=Q } (yd5 N vs) H):FnOk P w K mg base CX0 (k + 1) f fd ps sp:=by
  obtain ⟨oc,od,kV,doc,pm,an,cdv,ct,osl,rfl,lk,hcd⟩:=F.ex
  refine fn_of lk hcd S len fun A outer s H vs Q E hr hsp=>?_
  obtain ⟨t,h,q⟩:=hbody cdv A outer s H vs Q E hr hsp
  exact ⟨t,h.nox,q⟩
theorem Fun.binds {x qual:Str} {st:Stmt} {f:Addr} {fd:FuncData} {ps:List Str} (F:Fun K x qual st f fd)
    (h:∀ (kV doc pm:Value) (an:Option Addr) (cdv ct:Value) (us:List Value),us.length=ps.length→bindArgs (PySem.W.fnOf x qual (qaj st) (qag st) (yab st) .none kV doc pm an cdv ct) ⟨us,[]⟩=pure (ps.zip us)):qcv K fd ps []:=by
  obtain ⟨oc,od,kV,doc,pm,an,cdv,ct,osl,rfl,lk,hcd⟩:=F.ex
  exact .all (h kV doc pm an cdv ct)
theorem qca {x qual:Str} {st:Stmt} {f:Addr} {oc:Value} {od an:Option Addr} {osl:Array (Option Value)} {kV doc pm cdv ct:Value} (l:K.lookup f=some ⟨oc,od,.func (PySem.W.fnOf x qual (qaj st) (qag st) (yab st) .none kV doc pm an cdv ct),osl⟩)
    (c:PySem.W.codeIn K cdv qual=true) (k:PySem.W.keepIn K (.ref f)=true):Fun K x qual st f (PySem.W.fnOf x qual (qaj st) (qag st) (yab st) .none kV doc pm an cdv ct):=⟨⟨oc,od,kV,doc,pm,an,cdv,ct,osl,rfl,l,c⟩,k⟩
end
theorem hu_of {A:Around} {k:Nat} (hr:Room k A):A.units + 1 < cLine:=Nat.lt_of_le_of_lt (Nat.add_le_add_left (by decide:1≤64) _) hr.units
section
variable {X:Cx}
theorem pv (i:Nat) {x:Str} {pos:Pos} (hN:X.N[i]?=some x:=by rfl) (hv:Vis X.env.scope x:=by first | exact Or.inl rfl | exact Or.inr (Or.inl rfl) | exact Or.inr (Or.inr rfl)) (hd:(x == ("__debug__" : Str))=false:=by decide)
    (hcd:(x == ("__classdict__" : Str))=false:=by decide):PE X (.Name x pos) (tVar i):=pe_var hN hv hd hcd
end
theorem iteF {A B:Prop} (h:B):if false=true then A else B:=by
  rw [if_neg Bool.false_ne_true]
  exact h
theorem iteT {A B:Prop} (h:A):if true=true then A else B:=by
  rw [if_pos rfl]
  exact h
def Same (H H':Hp):Prop:=∀ b o,H b=some o→H' b=some o
theorem Same.refl (H:Hp):Same H H:=fun _ _ h=>h
theorem Same.trans {H H1 H2:Hp} (a:Same H H1) (b:Same H1 H2):Same H H2:=fun c o h=>b c o (a c o h)
theorem Same.free {H H':Hp} (e:Same H H') {l:Addr} (h:H' l=Option.none):H l=Option.none:=by
  cases q:H l with
  | none=>rfl
  | some o=>
    rw [e l o q] at h
    cases h
theorem Same.seq {K:PySem.W.Frag} {H H':Hp} {a:Addr} {xs:List V} (e:Same H H') (h:SqL K H a xs):SqL K H' a xs:=by
  rcases h with (h | ⟨o,h⟩) | h
  · exact .inl (.inl (e _ _ h))
  · exact .inl (.inr ⟨o,e _ _ h⟩)
  · exact .inr h
end L2
set_option Elab.async false
set_option linter.all false
set_option maxRecDepth 100000
namespace L2
open PySem PySem.Spec PyProof.Rows
mutual
inductive At (H:Hp):V→PyData→Prop
  | non:At H .non .none
  | bl (b:Bool):At H (.bl b) (.bool b)
  | int (i:Int):At H (.int i) (.int i)
  | str (x:Str):At H (.str x) (.str x)
  | lst {a:Addr} {vs:List V} {ds:List PyData}:H a=some (.lst vs)→AtAll H vs ds→At H (.ref a) (.list ds)
  | tup {a:Addr} {vs:List V} {ds:List PyData}:H a=some (.tup vs)→AtAll H vs ds→At H (.ref a) (.tuple ds)
inductive AtAll (H:Hp):List V→List PyData→Prop
  | nil:AtAll H [] []
  | cons {v:V} {d:PyData} {vs:List V} {ds:List PyData}:At H v d→AtAll H vs ds→AtAll H (v :: vs) (d :: ds)
end
mutual
theorem At.same {H H':Hp} (s:Same H H'):∀ {v:V} {d:PyData},At H v d→At H' v d
  | _,_,.non=>.non
  | _,_,.bl b=>.bl b
  | _,_,.int i=>.int i
  | _,_,.str x=>.str x
  | _,_,.lst e t=>.lst (s _ _ e) (AtAll.same s t)
  | _,_,.tup e t=>.tup (s _ _ e) (AtAll.same s t)
theorem AtAll.same {H H':Hp} (s:Same H H'):∀ {vs:List V} {ds:List PyData},AtAll H vs ds→AtAll H' vs ds
  | _,_,.nil=>.nil
  | _,_,.cons a b=>.cons (At.same s a) (AtAll.same s b)
end
theorem AtAll.length {H:Hp}:∀ {vs:List V} {ds:List PyData},AtAll H vs ds→vs.length=ds.length
  | _,_,.nil=>rfl
  | _,_,.cons _ b=>congrArg (· + 1) b.length
theorem AtAll.get {H:Hp}:∀ {vs:List V} {ds:List PyData} {i:Nat} {v:V},AtAll H vs ds→vs[i]?=some v→∃ d,ds[i]?=some d∧At H v d
  | _,_,i,_,.nil,h=>by simp at h
  | _,_,0,_,.cons a _,h=>by simp at h; subst h; exact ⟨_,rfl,a⟩
  | _,_,i + 1,v,.cons _ b,h=>by
    obtain ⟨d,h1,h2⟩:=AtAll.get (i:=i) (v:=v) b (by simpa using h)
    exact ⟨d,by simpa using h1,h2⟩
theorem AtAll.append {H:Hp}:∀ {vs ws:List V} {ds es:List PyData},AtAll H vs ds→AtAll H ws es→AtAll H (vs++ws) (ds++es)
  | _,_,_,_,.nil,h=>h
  | _,_,_,_,.cons a b,h=>.cons a (b.append h)
theorem AtAll.take {H:Hp}:∀ {vs:List V} {ds:List PyData} (n:Nat),AtAll H vs ds→AtAll H (vs.take n) (ds.take n)
  | _,_,0,_=>.nil
  | _,_,_ + 1,.nil=>.nil
  | _,_,n + 1,.cons a b=>.cons a (b.take n)
theorem AtAll.drop {H:Hp}:∀ {vs:List V} {ds:List PyData} (n:Nat),AtAll H vs ds→AtAll H (vs.drop n) (ds.drop n)
  | _,_,0,h=>h
  | _,_,_ + 1,.nil=>.nil
  | _,_,n + 1,.cons _ b=>b.drop n
mutual
theorem At.reads {P:Program} {w:World} {H:Hp} {h:Heap} (ok:HOk P w H h):∀ {v:V} {d:PyData} {u:Value},At H v d→RelV v u→∃ as,Reads h u d as
  | _,_,_,.non,r=>by cases r; exact ⟨_,.none⟩
  | _,_,_,.bl b,r=>by cases r; exact ⟨_,.bool b⟩
  | _,_,_,.int i,r=>by obtain ⟨t,rfl⟩:=r; exact ⟨_,.int i t⟩
  | _,_,_,.str x,r=>by obtain ⟨t,rfl⟩:=r; exact ⟨_,.str x t⟩
  | _,_,_,.lst e t,r=>by
    cases r
    obtain ⟨z,its,n,rv,ho⟩:=ok _ _ e
    obtain ⟨as,q⟩:=AtAll.reads ok t rv
    exact ⟨_,.list ho rfl rfl (by simpa using q)⟩
  | _,_,_,.tup e t,r=>by
    cases r
    obtain ⟨z,its,rv,o,ho,hc,n,hd⟩:=ok _ _ e
    obtain ⟨as,q⟩:=AtAll.reads ok t rv
    exact ⟨_,.tuple ho hc hd (by simpa using q)⟩
theorem AtAll.reads {P:Program} {w:World} {H:Hp} {h:Heap} (ok:HOk P w H h):∀ {vs:List V} {ds:List PyData} {us:List Value},AtAll H vs ds→Vals vs us→∃ as,ReadsAll h us ds as
  | _,_,_,.nil,.nil=>⟨_,.nil⟩
  | _,_,_,.cons a b,.cons r s=>by
    obtain ⟨as,q⟩:=At.reads ok a r
    obtain ⟨bs,q2⟩:=AtAll.reads ok b s
    exact ⟨_,.cons q q2⟩
end
mutual
theorem At.noDict {H:Hp}:∀ {v:V} {d:PyData},At H v d→d.hasDict=false
  | _,_,.non=>by simp [PyData.hasDict]
  | _,_,.bl b=>by simp [PyData.hasDict]
  | _,_,.int i=>by simp [PyData.hasDict]
  | _,_,.str x=>by simp [PyData.hasDict]
  | _,_,.lst e t=>by simp only [PyData.hasDict]; exact AtAll.noDict t
  | _,_,.tup e t=>by simp only [PyData.hasDict]; exact AtAll.noDict t
theorem AtAll.noDict {H:Hp}:∀ {vs:List V} {ds:List PyData},AtAll H vs ds→PyData.hasDictAll ds=false
  | _,_,.nil=>by simp [PyData.hasDictAll]
  | _,_,.cons a b=>by simp only [PyData.hasDictAll,At.noDict a,AtAll.noDict b,Bool.or_self]
end
section
variable {X:Cx} {pins:List (Addr×Obj)} {σ:St} {H:Hp} {s:Shared} {h':Heap}
theorem Inv.turnedL {ch:List Addr} {a:Addr} {o:HO} {t':Nat} (I:Inv X pins σ H s) (k:∀ b u,b∉ch→s.heap.get? b=some u→h'.get? b=some u) (hf:∀ b∈ch,FpOk X pins H b)
    (hp:s.heap.objs.size≤a) (new:ybc X.prog X.w (upd H a o) h' a o):Inv X pins σ (upd H a o) { s with heap:=h',toks:=t' }:=by
  have hn:H a=none:=I.hok.fresh hp
  have nit:∀ b u,H b=some u→b∉ch:=fun b u e z=>by rw [(hf b z).1] at e; cases e
  refine I.step (g':=s.gens) (d':=s.drawn) (ch:=ch) (fun b hb=>?_) (fun b u _ _ hc e _=>k b u hc e) (fun b u _ _ hc e _=>⟨u.slots,k b u hc e⟩) (fun b u _ e n=>?_)
    (fun b u hc e=>⟨u,k b u hc e⟩) (fun b xs e=>?_) (fun b u xs e=>?_) (fun b ps e=>⟨#[],?_⟩) (fun m hm=>?_) (fun b u e=>?_) I.bare
  · obtain ⟨_,f1,_,f3,f4,f5⟩:=hf b hb
    exact ⟨f3,f1,f4,f5⟩
  · rw [qaf (Nat.ne_of_lt (Nat.lt_of_lt_of_le (Heap.lt_size e) hp))]; exact n
  · rw [qaf (qah e hn)]; exact e
  · rw [qaf (qah e hn)]; exact e
  · rw [qaf (qah e hn),e]; simp
  · obtain ⟨ob,es,ep,ho,r⟩:=hm
    exact ⟨ob,es,ep,k _ ob (fun z=>(hf _ z).2.1 rfl) ho,r⟩
  · by_cases hb:b=a
    · subst hb; rw [qab] at e; cases e; exact new
    · rw [qaf hb] at e
      refine (I.hok b u e).stay (fun c v hc q=>k c v ?_ q) (fun c q=>by rw [qaf (qah q hn)]; exact q) fun c xs q=>by rw [qaf (qah q hn)]; exact q
      rcases hc with rfl | hc
      · exact nit _ u e
      · exact nit c _ hc
end
def Ite (K:PySem.W.Frag) (a:Addr):It:=
  ⟨fun i H=>∃ xs x,SqL K H a xs∧xs[i]?=some x,fun i H x H'=>∃ p y,H p=none∧x=.ref p∧H'=upd H p (.tup [.int i,y])∧∀ xs,SqL K H a xs→xs[i]?=some y,fun i H=>∃ xs,SqL K H a xs∧xs.length≤i⟩
theorem qjm {P:Program} {w:World} {K:PySem.W.Frag} {es:List Expr} {k:Nat} {tp:Pos} (a e it:Addr) (hne:e≠it) :
    Turn P w K (.Tuple es k tp) (Ite K a) [e,it] e (fun i h=>(∃ old,IsEnum h e it i old)∧h.IsListIter it a i) where
  mem:=by simp
  obj:=fun i h st b hb=>by
    obtain ⟨⟨old,he⟩,o,ho,hc,hd⟩:=st
    have hb':b=e∨b=it:=by simpa using hb
    rcases hb' with rfl | rfl
    · exact ⟨_,he,fun v z=>by
        have z':Data.fields _=Data.cell v:=z
        cases z'⟩
    · exact ⟨o,ho,fun v z=>by rw [hd] at z; cases z⟩
  keep:=fun i h h' st kk=>⟨st.1.imp fun _ z=>kk e (by simp) _ z,st.2.at fun o z=>kk it (by simp) o z⟩
  item:=by
    intro X hP hw hK hc i pins s σ H E I hf st hg
    subst hP hw hK
    obtain ⟨xs,x,hq,hx⟩:=hg
    obtain ⟨its,rv,p,hz⟩:=I.list hq
    obtain ⟨u,hu,ru⟩:=rv.get hx
    obtain ⟨⟨old,he⟩,hit⟩:=st
    refine wpAny_pyNext_enum_item he hit p.isList (x:=u) (by simpa using hu) hne fun h' ho hit' hT hsz hk=>?_
    have hel:e < s.heap.objs.size:=Heap.lt_size he
    have hil:it < s.heap.objs.size:=by obtain ⟨_,z,_⟩:=hit; exact Heap.lt_size z
    refine ⟨_,rfl,wpAny_letOwnedTupleGo_enum ho fun h2 he2 hs2=>?_⟩
    have keep2:∀ b ob,b∉[e,it]→s.heap.get? b=some ob→h2.get? b=some ob:=fun b ob hb z=>by
      have h1:b≠e:=fun q=>hb (by simp [q])
      have h3:b≠it:=fun q=>hb (by simp [q])
      exact (hs2.2 b h1).trans (hk b ob h1 h3 z)
    have hT2:h2.get? s.heap.objs.size=some { cls:=.type "tuple",data:=.seq #[.int i s.toks,u] }:=(hs2.2 _ (Nat.ne_of_gt hel)).trans hT
    have fresh:H s.heap.objs.size=none:=I.hok.fresh (Nat.le_refl _)
    have new:ybc X.prog X.w (upd H s.heap.objs.size (.tup [.int i,x])) h2 s.heap.objs.size (.tup [.int i,x]):=
      ⟨by show 2≤sizeLine; decide,[.int i s.toks,u],.cons ⟨_,rfl⟩ (.cons ru .nil),⟨_,hT2,rfl,_,rfl⟩⟩
    refine ⟨.ref s.heap.objs.size,upd H s.heap.objs.size (.tup [.int i,x]),I.turnedL keep2 hf (Nat.le_refl _) new,rfl,⟨_,x,fresh,rfl,rfl,fun ys hy=>by rw [I.list_inj hy hq]; exact hx⟩,⟨⟨_,by simpa using he2⟩,hit'.at fun o z=>(hs2.2 it hne.symm).trans z⟩,fun b hb=>?_⟩
    rw [qaf]
    · exact (hf b hb).1
    · have hb':b=e∨b=it:=by simpa using hb
      rcases hb' with rfl | rfl
      · exact Nat.ne_of_lt hel
      · exact Nat.ne_of_lt hil
  done:=by
    intro X hP hw hK hc i pins s σ H E I hf st hg
    subst hP hw hK
    obtain ⟨xs,hq,hx⟩:=hg
    obtain ⟨its,rv,p,hz⟩:=I.list hq
    obtain ⟨⟨old,he⟩,hit⟩:=st
    have hl:=rv.length
    obtain ⟨f0,f1,f2,f3,f4,f5⟩:=hf it (by simp)
    exact wpAny_pyNext_enum_end (I.ok.hd hc) he hit p.isList (by simp; omega) fun h' eb=>⟨rfl,I.turned (t':=s.toks) (fun b o hb z=>eb b o hb z) f0 f1 f3 f4 f5⟩
  self:=fun _ _ _ _ _ st h=>wpAny_pyIter_enum st.1.choose_spec h
def iEnum (K:PySem.W.Frag) (ta:TA):TI:=fun σ H R=>ta σ H fun vs H1=>∃ a xs,vs=[.ref a]∧SqL K H1 a xs∧R (Ite K a) H1
section
variable {X:Cx}
theorem qel {a:Expr} {ta:TA} {p pos tp:Pos} {es:List Expr} {k:Nat} (hg:Gl X "enumerate") (hm:X.mg "enumerate" = none) (ha:PA X [a] ta) (hs:starEach [a] X.env=[(false,eval a X.env)]:=by rfl) :
    PI X (.Tuple es k tp) (.Call (.Name "enumerate" p) [a] [] pos) (iEnum X.K ta):=by
  intro pins s σ H R I h
  refine Call_ (yfx I hg hm boot_enumerate (PyProof.Rows.callWith_type1 (thn (ha pos pins s σ H _ I h) fun us s1 ⟨vs,H1,I1,r1,q1⟩=>?_) hs rfl))
  obtain ⟨l,xs,e,hq,q⟩:=q1
  subst e
  cases r1 with
  | cons r rr=>
    cases rr
    cases r
    obtain ⟨its,rv,pl,hz⟩:=I1.list hq
    refine call_enumerate_list pl.isList fun h' he hit hsz hk=>?_
    refine wpAny_pyIter_enum he ⟨_,[s1.heap.objs.size + 1,s1.heap.objs.size],_,Ite X.K l,H1,rfl,I1.kept (t':=s1.toks) hk,qjm l (s1.heap.objs.size + 1) s1.heap.objs.size (Nat.succ_ne_self _),⟨⟨_,he⟩,hit⟩,fun b hb=>?_,q⟩
    have hb':b=s1.heap.objs.size + 1∨b=s1.heap.objs.size:=by simpa using hb
    rcases hb' with rfl | rfl
    · exact I1.fpOk (Nat.le_succ _) (I1.hok.fresh (Nat.le_succ _))
    · exact I1.fpOk (Nat.le_refl _) (I1.hok.fresh (Nat.le_refl _))
end
theorem yea {K:PySem.W.Frag} {a:Addr} {xs:List V} {g:TG} {tb:TS} {D:Ends} {σ:St} {H:Hp} (Pv:Nat→St→Hp→Prop) (h0:Pv 0 σ H) (hl:∀ i σ H,i≤xs.length→Pv i σ H→SqL K H a xs)
    (hs:∀ i x p σ H,xs[i]?=some x→Pv i σ H→H p=none→g (.ref p) σ (upd H p (.tup [.int i,x])) fun σ2 H2=>tb { D with nx:=Pv (i + 1),ct:=Pv (i + 1),bk:=D.nx } σ2 H2) (hd:∀ σ H,Pv xs.length σ H→D.nx σ H) :
    ∃ W:Nat→Nat→St→Hp→Prop,(∃ m,W 0 m σ H)∧∀ i m σ H,W i m σ H→
      ((Ite K a).stop i H∧D.nx σ H)∨((Ite K a).go i H∧∃ N:St→Hp→Prop,(∀ σ' H',N σ' H'→∃ m',m' < m∧W (i + 1) m' σ' H')∧∀ x H',(Ite K a).yld i H x H'→g x σ H' fun σ2 H2=>tb { D with nx:=N,ct:=N,bk:=D.nx } σ2 H2):=by
  refine ⟨fun i m σ H=>m=xs.length - i∧i≤xs.length∧Pv i σ H,⟨xs.length,by simp,Nat.zero_le _,h0⟩,?_⟩
  rintro i m σ H ⟨rfl,hi,p⟩
  have q:=hl i σ H hi p
  by_cases hlt:i < xs.length
  · refine .inr ⟨⟨xs,xs[i],q,by simp [hlt]⟩,Pv (i + 1),fun σ' H' p'=>⟨xs.length - (i + 1),by omega,rfl,hlt,p'⟩,fun x H' y=>?_⟩
    obtain ⟨pp,z,hn,e1,e2,y⟩:=y
    subst e1 e2
    exact hs i z pp σ _ (y xs q) p hn
  · have e:i=xs.length:=by omega
    subst e
    exact .inl ⟨⟨xs,q,Nat.le_refl _⟩,hd σ H p⟩
end L2
set_option Elab.async false
set_option linter.all false
set_option maxRecDepth 100000
namespace L2
open PySem PySem.Spec PyProof.Rows
def clOf (cells:List (Str×Addr)):List (Str×NameKind)→List (Str×Addr)→List (Str×Addr)
  | [],cs=>cs
  | (n,k) :: r,cs=>if k=.free then clOf cells r ((n,(cells.lookup n).getD 0) :: cs) else clOf cells r cs
theorem qfi {scope:Scope} {env:Env} (h:∀ x∈scope.names,x.2=.free→∃ c,env.cells.lookup x.1=some c):closureFor scope env=pure (clOf env.cells scope.names []):=by
  unfold closureFor
  generalize hn:scope.names=names at h
  suffices hh:∀ (l:List (Str×NameKind)) (cs:List (Str×Addr)),(∀ x∈l,x.2=.free→∃ c,env.cells.lookup x.1=some c)→
      (forIn l cs (fun (x:Str×NameKind) r=>if (x.2 == NameKind.free)=true then (do let a ← cellOf env x.1; pure (ForInStep.yield ((x.1,a) :: r))) else pure (ForInStep.yield r)):Sem (List (Str×Addr)))=pure (clOf env.cells l cs) by
    have:=hh names [] h
    simp only [bind_pure]
    exact this
  intro l
  induction l with
  | nil=>intro cs _; rfl
  | cons x l ih=>
    intro cs hl
    obtain ⟨n,k⟩:=x
    rw [List.forIn_cons]
    by_cases hk:k=.free
    · subst hk
      obtain ⟨c,hc⟩:=hl (n,.free) List.mem_cons_self rfl
      have e1:cellOf env n=pure c:=by unfold cellOf; rw [hc]
      have ec:clOf env.cells ((n,NameKind.free) :: l) cs=clOf env.cells l ((n,c) :: cs):=by
        show (if NameKind.free=NameKind.free then _ else _)=_
        rw [if_pos rfl,hc]; rfl
      rw [ec]
      simp only [e1,pure_bind,beq_self_eq_true,if_true]
      exact ih _ fun y hy=>hl y (List.mem_cons_of_mem _ hy)
    · have hb:(k == NameKind.free)=false:=by cases k <;> first | rfl | exact absurd rfl hk
      have ec:clOf env.cells ((n,k) :: l) cs=clOf env.cells l cs:=by
        show (if k=NameKind.free then _ else _)=_
        rw [if_neg hk]
      rw [ec]
      simp only [hb,pure_bind,Bool.false_eq_true,if_false]
      exact ih _ fun y hy=>hl y (List.mem_cons_of_mem _ hy)
theorem qdr {cells:List (Str×Addr)}:∀ {l:List (Str×NameKind)} {cs:List (Str×Addr)},(∀ x∈l,x.2=.free→∃ c,cells.lookup x.1=some c)→(∀ p∈cs,cells.lookup p.1=some p.2)→∀ p∈clOf cells l cs,cells.lookup p.1=some p.2
  | [],_,_,h=>h
  | (n,k) :: r,cs,hl,h=>by
    unfold clOf
    split
    · rename_i hk
      refine qdr (fun x hx=>hl x (List.mem_cons_of_mem _ hx)) fun p hp=>?_
      rcases List.mem_cons.mp hp with rfl | hp
      · obtain ⟨c,hc⟩:=hl (n,k) List.mem_cons_self hk
        show cells.lookup n=some ((cells.lookup n).getD 0)
        have hc':cells.lookup n=some c:=hc
        rw [hc']; rfl
      · exact h p hp
    · exact qdr (fun x hx=>hl x (List.mem_cons_of_mem _ hx)) h
theorem qea {l:List (Str×Addr)} {x:Str} (h:∃ c,(x,c)∈l):∃ c,l.lookup x=some c:=by
  obtain ⟨c,h⟩:=h
  induction l with
  | nil=>cases h
  | cons p r ih=>
    obtain ⟨y,d⟩:=p
    by_cases e:(x == y)=true
    · exact ⟨d,by rw [List.lookup_cons,e]⟩
    · have e':(x == y)=false:=by simpa using e
      rcases List.mem_cons.mp h with q | q
      · cases q; exact absurd (beq_self_eq_true _) e
      · obtain ⟨c',z⟩:=ih q
        exact ⟨c',by rw [List.lookup_cons,e']; exact z⟩
theorem qe0 {cells:List (Str×Addr)} {x:Str}:∀ {l:List (Str×NameKind)} {cs:List (Str×Addr)},((x,NameKind.free)∈l∨∃ c,(x,c)∈cs)→∃ c,(x,c)∈clOf cells l cs
  | [],_,h=>by
    rcases h with h | h
    · cases h
    · exact h
  | (n,k) :: r,cs,h=>by
    unfold clOf
    split
    · rename_i hk
      refine qe0 ?_
      rcases h with h | ⟨c,h⟩
      · rcases List.mem_cons.mp h with q | q
        · cases q; exact .inr ⟨_,List.mem_cons_self⟩
        · exact .inl q
      · exact .inr ⟨c,List.mem_cons_of_mem _ h⟩
    · rename_i hk
      refine qe0 ?_
      rcases h with h | h
      · rcases List.mem_cons.mp h with q | q
        · cases q; exact absurd rfl hk
        · exact .inl q
      · exact .inr h
theorem yeu {env:Env} {x:Str}:∀ {l:List (Str×NameKind)},l.lookup x=some .free→
    (l.map fun (n,k)=>if (k == NameKind.free && env.scope.kind == .function && env.kindOf n == some .cell) then (n,NameKind.cell) else (n,k)).lookup x=some .cell∨
    (l.map fun (n,k)=>if (k == NameKind.free && env.scope.kind == .function && env.kindOf n == some .cell) then (n,NameKind.cell) else (n,k)).lookup x=some .free
  | [],h=>by simp at h
  | (n,k) :: r,h=>by
    rw [List.map_cons]
    cases hx:x == n with
    | true=>
      rw [List.lookup_cons,hx] at h
      cases h
      by_cases hc:(NameKind.free == NameKind.free && env.scope.kind == .function && env.kindOf n == some .cell)=true
      · left; simp only [hc,if_true,List.lookup_cons,hx]
      · right; simp only [hc,Bool.false_eq_true,if_false,List.lookup_cons,hx]
    | false=>
      rw [List.lookup_cons,hx] at h
      have ih:=yeu (env:=env) (l:=r) h
      by_cases hc:(k == NameKind.free && env.scope.kind == .function && env.kindOf n == some .cell)=true
      · simp only [hc,if_true,List.lookup_cons,hx]; exact ih
      · simp only [hc,Bool.false_eq_true,if_false,List.lookup_cons,hx]; exact ih
theorem yff {env:Env} {x:Str}:∀ {l:List (Str×NameKind)},(∀ y∈l,y.2≠.cell)→
    ((l.map fun (n,k)=>if (k == NameKind.free && env.scope.kind == .function && env.kindOf n == some .cell) then (n,NameKind.cell) else (n,k)).lookup x=some .cell∨
    (l.map fun (n,k)=>if (k == NameKind.free && env.scope.kind == .function && env.kindOf n == some .cell) then (n,NameKind.cell) else (n,k)).lookup x=some .free)→(x,NameKind.free)∈l
  | [],_,h=>by simp at h
  | (n,k) :: r,hn,h=>by
    rw [List.map_cons] at h
    cases hx:x == n with
    | true=>
      have e:x=n:=by simpa using hx
      subst e
      by_cases hc:(k == NameKind.free && env.scope.kind == .function && env.kindOf x == some .cell)=true
      · have:k=.free:=by
          simp only [Bool.and_eq_true,beq_iff_eq] at hc
          exact hc.1.1
        subst this
        exact List.mem_cons_self
      · simp only [hc,Bool.false_eq_true,if_false,List.lookup_cons,hx,Option.some.injEq] at h
        rcases h with h | h
        · exact absurd h (hn (x,k) List.mem_cons_self)
        · subst h; exact List.mem_cons_self
    | false=>
      have h':(r.map fun (n,k)=>if (k == NameKind.free && env.scope.kind == .function && env.kindOf n == some .cell) then (n,NameKind.cell) else (n,k)).lookup x=some .cell∨
          (r.map fun (n,k)=>if (k == NameKind.free && env.scope.kind == .function && env.kindOf n == some .cell) then (n,NameKind.cell) else (n,k)).lookup x=some .free:=by
        by_cases hc:(k == NameKind.free && env.scope.kind == .function && env.kindOf n == some .cell)=true
        · simp only [hc,if_true,List.lookup_cons,hx] at h; exact h
        · simp only [hc,Bool.false_eq_true,if_false,List.lookup_cons,hx] at h; exact h
      exact List.mem_cons_of_mem _ (yff (fun y hy=>hn y (List.mem_cons_of_mem _ hy)) h')
def ybn (X:Cx) (M:List Str) (scope:Scope) (C:Addr) (fp:List Addr) (s2:Shared) (H2:Hp):Cx:=
  { prog:=X.prog,w:=X.w,K:=X.K,mg:=X.mg,base:=X.base,A:=X.A,N:=M,s₀:=s2,H₀:=H2,env:=compEnvC scope (clOf X.env.cells scope.names []) C X.env,
    outer:=X.stack,stack:=X.stack,ex:=fp,fn:=fun _=>false,calm:=X.calm,pn:=[],xe:=fun _ _=>False }
def capS (ix:List (Option Nat)) (σ:St):St:=ix.map fun o=>match o with
  | none=>none
  | some j=>(σ[j]?).getD none
structure CompOk (N M:List Str) (ix:List (Option Nat)) (sc xs:Scope):Prop where
  kind:sc.kind=.function
  len:M.length=ix.length
  nocell:∀ y∈sc.names,y.2≠.cell
  loc:∀ y∈sc.names,y.2=.local→sc.names.lookup y.1=some .local
  fr:∀ y∈sc.names,y.2=.free→xs.names.lookup y.1=some .cell∨xs.names.lookup y.1=some .free
  cap:∀ (i:Nat) (j:Nat),ix[i]?=some (some j)→∃ x,M[i]?=some x∧N[j]?=some x∧sc.names.lookup x=some .free
def qj1 (N M:List Str) (ix:List (Option Nat)) (sc xs:Scope):Bool:=
  decide (sc.kind=.function) && decide (M.length=ix.length) && sc.names.all (fun y=>decide (y.2≠.cell)) && sc.names.all (fun y=>decide (y.2≠.local) || decide (sc.names.lookup y.1=some .local)) &&
  sc.names.all (fun y=>decide (y.2≠.free) || decide (xs.names.lookup y.1=some .cell) || decide (xs.names.lookup y.1=some .free)) &&
  (List.range ix.length).all (fun i=>match ix[i]? with
    | some (some j)=>match M[i]? with
      | some x=>decide (N[j]?=some x) && decide (sc.names.lookup x=some .free)
      | none=>false
    | _=>true)
theorem qbf {N M:List Str} {ix:List (Option Nat)} {sc xs:Scope} (h:qj1 N M ix sc xs=true):CompOk N M ix sc xs:=by
  unfold qj1 at h
  simp only [Bool.and_eq_true,List.all_eq_true,decide_eq_true_eq,Bool.or_eq_true] at h
  obtain ⟨⟨⟨⟨⟨h1,h2⟩,h3⟩,h4⟩,h5⟩,h6⟩:=h
  refine ⟨h1,h2,h3,fun y hy e=>?_,fun y hy e=>?_,fun i j e=>?_⟩
  · rcases h4 y hy with q | q
    · exact absurd e q
    · exact q
  · rcases h5 y hy with (q | q) | q
    · exact absurd e q
    · exact .inl q
    · exact .inr q
  · have hi:i < ix.length:=(List.getElem?_eq_some_iff.mp e).1
    have q:=h6 i (List.mem_range.mpr hi)
    rw [e] at q
    cases hm:M[i]? with
    | none=>rw [hm] at q; cases q
    | some x=>
      rw [hm] at q
      simp only [Bool.and_eq_true,decide_eq_true_eq] at q
      exact ⟨x,rfl,q.1,q.2⟩
section
variable {X:Cx}
def PTs (X:Cx) (ifs:List Expr) (t:TT):Prop:=
  ∀ (pins:List (Addr×Obj)) (s:Shared) (σ:St) (H:Hp) (Q:Bool→Hp→Prop),Inv X pins σ H s→t σ H Q→
    wpAny (model X.prog X.w) X.A (forIn ifs true fun c r=>if r=true then do let ok ← isTrue c X.env (eval c X.env); pure (ForInStep.yield ok) else pure (ForInStep.yield r)) (TP X pins σ Q) X.xe s
def tYes:TT:=fun _ H Q=>Q true H
theorem yc5:PTs X [] tYes:=fun _ _ _ H _ I h=>wpAny_tests_nil ⟨H,I,h⟩
theorem qje {c:Expr} {t:TT} (h:PT X c t):PTs X [c] t:=fun pins s σ H Q I hq=>wpAny_tests_one (h pins s σ H Q I hq)
end
theorem Un.butNew {fs ex:List Addr} {H H':Hp} {h h1 h2:Heap} {C:Addr} (u:Un fs ex H H' h h1) (hC:h.objs.size≤C) (sb:Heap.SameBut C h1 h2):Un fs ex H H' h h2:=by
  have ne:∀ b o,h.get? b=some o→b≠C:=fun b o e=>Nat.ne_of_lt (Nat.lt_of_lt_of_le (Heap.lt_size e) hC)
  refine ⟨fun b o e n h3 h4=>(sb.2 b (ne b o e)).trans (u.keep b o e n h3 h4),fun b o e n h3 h4=>?_,u.free,fun b o e h4=>?_,u.tups,u.frzs,u.tbls⟩
  · obtain ⟨sl,q⟩:=u.slot b o e n h3 h4
    exact ⟨sl,(sb.2 b (ne b o e)).trans q⟩
  · obtain ⟨o',q⟩:=u.there b o e h4
    exact ⟨o',(sb.2 b (ne b o e)).trans q⟩
section
variable {X:Cx} {pins:List (Addr×Obj)} {σ:St} {H2:Hp} {s2:Shared} {M:List Str} {ix:List (Option Nat)} {scope:Scope} {fp:List Addr}
theorem comp_ok {C:Addr} (I:Inv X pins σ H2 s2) (ck:CompOk X.N M ix scope X.env.scope) (hC:s2.heap.objs.size≤C) (f2:∀ b∈fp,FpOk X pins H2 b) (hfp:∀ b∈fp,b < s2.heap.objs.size):(ybn X M scope C fp s2 H2).Ok:=by
  have hfree:∀ x∈scope.names,x.2=.free→∃ c,X.env.cells.lookup x.1=some c:=fun x hx e=>I.ok.has x.1 (ck.fr x hx e)
  have snd:∀ x c,(clOf X.env.cells scope.names []).lookup x=some c→X.env.cells.lookup x=some c:=fun x c e=>qdr (cs:=[]) hfree (by intro p hp; cases hp) (x,c) (PySem.mem_of_lookup e)
  refine ⟨I.ok.mod,ck.kind,I.ok.glob,I.ok.blt,hC,fun x y c h1 h2=>I.ok.inj x y c (snd x c h1) (snd y c h2),fun x hx=>?_,(by intro x c h; cases h),I.ok.hd,I.ok.frames,.inl rfl,fun b hb=>⟨?_,fun x c e=>?_⟩,fun b o e=>I.bs b o e,
    Nat.le_trans I.ok.bsz I.sz,fun b o e hb=>?_,fun b hb hb2=>?_,I.stack,I.stkFree⟩
  · exact qea (qe0 (.inl (yff ck.nocell hx)))
  · exact Nat.ne_of_lt (Nat.lt_of_lt_of_le (hfp b hb) hC)
  · exact (f2 b hb).2.2.2.2.1 x c (snd x c e)
  · rcases (f2 b hb).2.2.2.1 with z | z
    · exact I.ok.noex b o e z
    · exact absurd (Nat.lt_of_lt_of_le (Heap.lt_size e) (Nat.le_trans I.ok.bsz z)) (Nat.lt_irrefl _)
  · obtain ⟨_,n1,n2,_⟩:=f2 b hb
    rcases List.mem_cons.mp (I.stkSub b hb2) with z | z
    · exact n1 z
    · exact n2 z
theorem comp_inv {C D:Addr} {h1:Heap} {tk:Nat} (I:Inv X pins σ H2 s2) (ck:CompOk X.N M ix scope X.env.scope) (hC:s2.heap.objs.size≤C) (hD:s2.heap.objs.size≤D) (hDC:C≠D) (f2:∀ b∈fp,FpOk X pins H2 b) (hfp:∀ b∈fp,b < s2.heap.objs.size)
    (old:∀ b o,s2.heap.get? b=some o→h1.get? b=some o) (hn:h1.Ns C fun _=>none) (hnew:h1.get? D=some { cls:=.type "list",data:=.seq #[] }) :
    Inv (ybn X M scope C fp s2 H2) [] (capS ix σ) (upd H2 D (.lst [])) { s2 with heap:=h1,toks:=tk }:=by
  have hfree:∀ x∈scope.names,x.2=.free→∃ c,X.env.cells.lookup x.1=some c:=fun x hx e=>I.ok.has x.1 (ck.fr x hx e)
  have snd:∀ x c,(clOf X.env.cells scope.names []).lookup x=some c→X.env.cells.lookup x=some c:=fun x c e=>qdr (cs:=[]) hfree (by intro p hp; cases hp) (x,c) (PySem.mem_of_lookup e)
  have fD:H2 D=none:=I.hok.fresh hD
  refine ⟨comp_ok I ck hC f2 hfp,rfl,I.bare,Un.laid old hD fD,⟨_,hn,fun i x v e1 e2 e3=>?_⟩,fun x c e=>?_,?_,fun x c e=>?_,(by intro p hp; cases hp),I.hok.laid (o:=.lst []) old hD ⟨Nat.zero_le _,[],0,.nil,hnew⟩,?_⟩
  · obtain ⟨j,hj,hv⟩:∃ j,ix[i]?=some (some j)∧σ[j]?=some (some v):=by
      unfold capS at e2
      rw [List.getElem?_map] at e2
      cases q:ix[i]? with
      | none=>rw [q] at e2; cases e2
      | some o=>
        rw [q] at e2
        cases o with
        | none=>cases e2
        | some j=>
          refine ⟨j,rfl,?_⟩
          have e2':(σ[j]?).getD none=some v:=Option.some.inj e2
          cases z:σ[j]? with
          | none=>rw [z] at e2'; cases e2'
          | some y=>rw [z] at e2'; rw [show y=some v from e2']
    obtain ⟨y,hm,hN,hf⟩:=ck.cap i j hj
    have e1':M[i]?=some x:=e1
    rw [hm] at e1'; cases e1'
    obtain ⟨m,hnl,hl⟩:=I.loc
    have hmem:(x,NameKind.free)∈scope.names:=PySem.mem_of_lookup hf
    have hk:=ck.fr _ hmem rfl
    obtain ⟨u,ru,lk⟩:=hl j x v hN hv (hk.elim (fun z=>.inr (.inl z)) fun z=>.inr (.inr z))
    refine ⟨u,ru,.inr ⟨yeu hf,?_⟩⟩
    rcases lk with ⟨kl,_⟩ | ⟨_,c,hc,hcell⟩
    · have kl':X.env.scope.names.lookup x=some .local:=kl
      rcases hk with z | z
      · rw [z] at kl'; cases kl'
      · rw [z] at kl'; cases kl'
    · obtain ⟨c2,h2⟩:=qea (qe0 (cells:=X.env.cells) (cs:=[]) (.inl hmem))
      have h3:=snd x c2 h2
      rw [hc] at h3; cases h3
      obtain ⟨o,ho,hd⟩:=hcell
      exact ⟨c,h2,o,old c o ho,hd⟩
  · obtain ⟨v,o,ho,hd⟩:=I.cell x c (snd x c e)
    exact ⟨v,o,old c o ho,hd⟩
  · show upd H2 D (.lst []) C=none
    rw [qaf hDC]
    exact I.hok.fresh hC
  · show upd H2 D (.lst []) c=none
    obtain ⟨v,z⟩:=I.cell x c (snd x c e)
    rw [qaf (Nat.ne_of_lt (Nat.lt_of_lt_of_le z.lt hD))]
    exact I.freeC x c (snd x c e)
  · show (capS ix σ).length=M.length
    unfold capS
    rw [List.length_map,ck.len]
theorem qj0 {C:Addr} {σ':St} {H':Hp} {s':Shared} {h2:Heap} {pl:List (Addr×Obj)} (I:Inv X pins σ H2 s2) (J:Inv (ybn X M scope C fp s2 H2) pl σ' H' s') (f2:∀ b∈fp,FpOk X pins H2 b) (sb:Heap.SameBut C s'.heap h2):Inv X pins σ H' { s' with heap:=h2 }:=by
  have hC:s2.heap.objs.size≤C:=J.ok.above
  refine I.call' (s':={ s' with heap:=h2 }) (ch:=fp) J.os (Un.butNew J.base hC sb) (fun a o e=>?_) J.bare fun b hb=>?_
  · have fr:H' C=none:=J.free
    refine (J.hok a o e).stay (fun c v hc q=>(sb.2 c ?_).trans q) (fun _ q=>q) fun _ _ q=>q
    rintro rfl
    rcases hc with z | z
    · rw [← z,fr] at e; cases e
    · rw [fr] at z; cases z
  · obtain ⟨_,n1,_,n3,n4,n5⟩:=f2 b hb
    exact ⟨n3,n1,n4,n5⟩
end
def qbb (l l':St):Prop:=l'.length=l.length∧∀ (i:Nat) (v:V),l[i]?=some (some v)→l'[i]?=some (some v)
theorem qbb.refl (l:St):qbb l l:=⟨rfl,fun _ _ h=>h⟩
theorem qbb.set {l l':St} {i:Nat} {x:Option V} (h:qbb l l') (hi:l[i]?=some none):qbb l (l'.set i x):=by
  refine ⟨by rw [List.length_set]; exact h.1,fun j v e=>?_⟩
  by_cases hj:j=i
  · subst hj; rw [hi] at e; cases e
  · rw [List.getElem?_set_ne (Ne.symm hj)]; exact h.2 j v e
def tComp (wi:TI) (ix:List (Option Nat)) (g:TG) (tt:TT) (te:TE):TE:=fun σ H Q=>wi σ H fun J H1=>∀ D,H1 D=none→∃ W:Nat→Nat→Hp→Prop,(∃ m,W 0 m (upd H1 D (.lst [])))∧∀ i m H,W i m H→
  (J.stop i H∧Q (.ref D) H)∨(J.go i H∧∃ N:Hp→Prop,(∀ H',N H'→∃ m',m' < m∧W (i + 1) m' H')∧∀ x H',J.yld i H x H'→g x (capS ix σ) H' fun σ2 H2=>qbb (capS ix σ) σ2∧tt σ2 H2 fun b H3=>
    if b=true then te σ2 H3 fun v H4=>∃ ys,H4 D=some (.lst ys)∧ys.length < sizeLine∧N (upd H4 D (.lst (ys++[v]))) else N H3)
section
variable {X:Cx} {elt tg iter:Expr} {ifs:List Expr} {scope:Scope} {pos:Pos} {wi:TI} {g:TG} {tt:TT} {te:TE} {M:List Str} {ix:List (Option Nat)}
theorem yka {pins:List (Addr×Obj)} {σ:St} {H2 H4:Hp} {s2 s4:Shared} {fp:List Addr} {it C D:Addr} {tn:Nat→Heap→Prop} {J:It} {R:Result→Shared→Prop} {QD:Hp→Prop} (I2:Inv X pins σ H2 s2) (hc:X.calm=true)
    (f2:∀ b∈fp,FpOk X pins H2 b) (T:Turn X.prog X.w X.K tg J fp it tn)
    (hg:PG (ybn X M scope C fp s2 H2) tg g) (ht:PTs (ybn X M scope C fp s2 H2) ifs tt) (he:PE (ybn X M scope C fp s2 H2) elt te)
    (I4:Inv (ybn X M scope C fp s2 H2) [] (capS ix σ) H4 s4) (st4:tn 0 s4.heap) (fr4:∀ b∈fp,H4 b=none) (W:Nat→Nat→Hp→Prop) (m0:Nat) (w0:W 0 m0 H4)
    (turn:∀ i m H,W i m H→(J.stop i H∧QD H)∨(J.go i H∧∃ N:Hp→Prop,(∀ H',N H'→∃ m',m' < m∧W (i + 1) m' H')∧∀ x H',J.yld i H x H'→g x (capS ix σ) H' fun σ2 H2=>qbb (capS ix σ) σ2∧tt σ2 H2 fun b H3=>
      if b=true then te σ2 H3 fun v H4=>∃ ys,H4 D=some (.lst ys)∧ys.length < sizeLine∧N (upd H4 D (.lst (ys++[v]))) else N H3))
    (fin:∀ H' s',Inv (ybn X M scope C fp s2 H2) [] (capS ix σ) H' s'→QD H'→R (.ok .next) s') :
    codeAny (model X.prog X.w) X.A (.compLoop (.ListComp elt [⟨tg,iter,ifs,0⟩] scope pos) 0 (.ref it) (.ref D) (compEnvC scope (clOf X.env.cells scope.names []) C X.env)) R s4:=by
  have stat:∀ {H':Hp},(∀ b∈fp,H' b=none)→∀ b∈fp,FpOk (ybn X M scope C fp s2 H2) [] H' b:=fun {H'} hn b hb=>
    ⟨hn b hb,(I4.ok.exf b hb).1,I4.ok.exfs b hb,.inl hb,(I4.ok.exf b hb).2,by intro p hp; cases hp⟩
  refine codeAny_loop rfl (fun n s'=>∃ i H',Inv (ybn X M scope C fp s2 H2) [] (capS ix σ) H' s'∧tn i s'.heap∧(∀ b∈fp,H' b=none)∧W i n H') ?_ m0 ⟨0,H4,I4,st4,fr4,w0⟩
  rintro n s5 ⟨i,H5,I5,st5,fr5,w5⟩
  show wpAny (model X.prog X.w) X.A ((compTurn (.ListComp elt [⟨tg,iter,ifs,0⟩] scope pos) 0 (.ref it) (.ref D) (compEnvC scope (clOf X.env.cells scope.names []) C X.env)).onRaise (fun x=>do noteFrame x (compEnvC scope (clOf X.env.cells scope.names []) C X.env); theTreesLotGoes x)) _ _ s5
  refine wpAny_noted ?_
  rw [compTurn_list]
  refine wpAny_bind (wpAny_standAt (wpAny_bind ?_))
  rcases turn i n H5 w5 with ⟨stop,qn⟩ | ⟨go,N,hN,step⟩
  · refine thn (T.done (ybn X M scope C fp s2 H2) rfl rfl rfl hc i [] s5 (capS ix σ) H5 _ I5 (stat fr5) st5 stop) fun r s6 ⟨hr,I6⟩=>?_
    subst hr
    exact wpAny_pure (fin H5 s6 I6 qn)
  · refine thn (T.item (ybn X M scope C fp s2 H2) rfl rfl rfl hc i [] s5 (capS ix σ) H5 _ I5 (stat fr5) st5 go) fun r s6 ⟨u,hr,h6⟩=>?_
    subst hr
    refine wpAny_bind (thn h6 fun _ s7 ⟨x,H7,I7,r7,y7,st7,fr7⟩=>?_)
    have I7':=I7.pinned (stat fr7) (T.obj _ _ st7)
    refine wpAny_bind (wpAny_mono (hg _ s7 (capS ix σ) H7 x u _ I7' r7 (step x H7 y7)) (fun _ s8 ⟨σ8,H8,I8,k8,q8⟩=>?_) fun _ _ z=>False.elim z)
    refine wpAny_bind (wpAny_mono (ht _ s8 σ8 H8 _ I8 q8) (fun ok s9 ⟨H9,I9,q9⟩=>?_) fun _ _ z=>False.elim z)
    have again:∀ {Ha:Hp} {sa:Shared},Inv (ybn X M scope C fp s2 H2) ([]++qg6 fp s7.heap) σ8 Ha sa→N Ha→∃ m,m < n∧∃ i H',Inv (ybn X M scope C fp s2 H2) [] (capS ix σ) H' sa∧tn i sa.heap∧(∀ b∈fp,H' b=none)∧W i m H':=fun {Ha sa} Ia na=>by
      obtain ⟨m',hm,wa⟩:=hN Ha na
      refine ⟨m',hm,i + 1,Ha,Ia.unpinned.weak k8.1.symm k8.2,T.keep _ _ _ st7 fun b hb o e=>(Ia.pin (b,o) (List.mem_append_right _ (List.mem_append_right _ (qdq hb e)))).1,fun b hb=>?_,wa⟩
      obtain ⟨o,e,d⟩:=T.obj _ _ st7 b hb
      exact (Ia.pin (b,o) (List.mem_append_right _ (List.mem_append_right _ (qdq hb e)))).2.1
    cases ok with
    | false=>exact wpAny_pure ⟨rfl,again I9 q9⟩
    | true=>
      refine wpAny_bind (wpAny_bind (wpAny_mono (he _ s9 σ8 H9 _ I9 q9) (fun xv s10 ⟨v,H10,I10,r10,ys,hD,hl,q10⟩=>?_) fun _ _ z=>False.elim z))
      refine wpAny_bind (wpAny_mono (qc0 (X:=ybn X M scope C fp s2 H2) _ s10 σ8 H10 (.ref D) [v] (.ref D) [xv] (fun _ H'=>N H') I10 rfl (.cons r10 .nil) ⟨D,ys,v,rfl,rfl,hD,hl,q10⟩) (fun _ s11 ⟨_,H11,I11,_,q11⟩=>?_) fun _ _ z=>False.elim z)
      exact wpAny_pure (wpAny_pure ⟨rfl,again I11 q11⟩)
theorem qit {pins:List (Addr×Obj)} {σ:St} {H2:Hp} {s2:Shared} {fp:List Addr} {it:Addr} {tn:Nat→Heap→Prop} {J:It} {E:Value→Shared→Prop} {QD:Addr→Hp→Prop} {RR:Value→Addr→Result→Shared→Prop} (I2:Inv X pins σ H2 s2) (hc:X.calm=true)
    (ck:CompOk X.N M ix scope X.env.scope) (f2:∀ b∈fp,FpOk X pins H2 b) (T:Turn X.prog X.w X.K tg J fp it tn) (st2:tn 0 s2.heap)
    (hg:∀ C fp s2 H2,PG (ybn X M scope C fp s2 H2) tg g) (ht:∀ C fp s2 H2,PTs (ybn X M scope C fp s2 H2) ifs tt) (he:∀ C fp s2 H2,PE (ybn X M scope C fp s2 H2) elt te)
    (rd:∀ D,H2 D=none→∃ W:Nat→Nat→Hp→Prop,(∃ m,W 0 m (upd H2 D (.lst [])))∧∀ i m H,W i m H→
      (J.stop i H∧QD D H)∨(J.go i H∧∃ N:Hp→Prop,(∀ H',N H'→∃ m',m' < m∧W (i + 1) m' H')∧∀ x H',J.yld i H x H'→g x (capS ix σ) H' fun σ2 H2=>qbb (capS ix σ) σ2∧tt σ2 H2 fun b H3=>
        if b=true then te σ2 H3 fun v H4=>∃ ys,H4 D=some (.lst ys)∧ys.length < sizeLine∧N (upd H4 D (.lst (ys++[v]))) else N H3))
    (fin:∀ D C H' s',QD D H'→(∃ m,s'.heap.Ns C m)→(∀ h2,Heap.SameBut C s'.heap h2→Inv X pins σ H' { s' with heap:=h2 })→FpOk X pins H' C→RR (.ref D) C (.ok .next) s') :
    wpAny (model X.prog X.w) X.A (newList []) (fun acc s3=>wpAny (model X.prog X.w) X.A (newFunctionEnv scope X.env.globals (clOf X.env.cells scope.names []) [] X.env.qual none .none (some X.env)) (fun cenv s4=>
      codeAny (model X.prog X.w) X.A (.compStart (.ListComp elt [⟨tg,iter,ifs,0⟩] scope pos) 0 (.ref it) acc { cenv with scope:=relabel scope X.env }) (RR acc cenv.locals) s4) E s3) E s2:=by
  have hfp:∀ b∈fp,b < s2.heap.objs.size:=fun b hb=>by obtain ⟨o,e,_⟩:=T.obj 0 _ st2 b hb; exact Heap.lt_size e
  refine wpAny_newObj_type (wpAny_newFunctionEnv ck.nocell (by intro y hy; simp at hy) (fun h1 hn1 hsb1=>?_) ck.kind)
  dsimp only at hn1 hsb1 ⊢
  generalize hP:s2.heap.push { cls:=.type "list",dict:=none,data:=.seq ([]:List Value).toArray }=hh at hn1 hsb1 ⊢
  have hCz:hh.objs.size=s2.heap.objs.size + 1:=by rw [← hP,Heap.size_push]
  have hCD:hh.objs.size≠s2.heap.objs.size:=by omega
  have old:∀ b o,s2.heap.get? b=some o→h1.get? b=some o:=fun b o e=>by
    have hb:b < s2.heap.objs.size:=Heap.lt_size e
    exact hsb1.extBut b o (Nat.ne_of_lt (by rw [hCz]; exact Nat.lt_succ_of_lt hb)) (Heap.get?_push_of_some _ (hP ▸ Heap.get?_push_of_some _ e))
  have hnew:h1.get? s2.heap.objs.size=some { cls:=.type "list",data:=.seq #[] }:=hsb1.extBut _ _ hCD.symm (Heap.get?_push_of_some _ (hP ▸ Heap.get?_push_size _ rfl))
  obtain ⟨W,⟨m0,w0⟩,turn⟩:=rd s2.heap.objs.size (I2.hok.fresh (Nat.le_refl _))
  have I4:=comp_inv (M:=M) (ix:=ix) (scope:=scope) (fp:=fp) (tk:=s2.toks + ([]:List (Str×Value)).length) I2 ck (C:=hh.objs.size) (D:=s2.heap.objs.size) (by omega) (Nat.le_refl _) hCD f2 hfp old hn1 hnew
  have st4:tn 0 h1:=T.keep _ _ _ st2 fun b _ o e=>old b o e
  have fr4:∀ b∈fp,upd H2 s2.heap.objs.size (.lst []) b=none:=fun b hb=>by rw [qaf (Nat.ne_of_lt (hfp b hb))]; exact (f2 b hb).1
  have lp:codeAny (model X.prog X.w) X.A (.compLoop (.ListComp elt [⟨tg,iter,ifs,0⟩] scope pos) 0 (.ref it) (.ref s2.heap.objs.size) (compEnvC scope (clOf X.env.cells scope.names []) hh.objs.size X.env)) (RR (.ref s2.heap.objs.size) hh.objs.size) { s2 with heap:=h1,toks:=s2.toks + ([]:List (Str×Value)).length }:=by
    refine yka (QD:=QD s2.heap.objs.size) I2 hc f2 T (hg _ _ _ _) (ht _ _ _ _) (he _ _ _ _) I4 st4 fr4 W m0 w0 turn fun H' s' J' q'=>?_
    obtain ⟨m,hm,_⟩:=J'.loc
    exact fin _ _ H' s' q' ⟨m,hm⟩ (fun h2 sb=>qj0 I2 J' f2 sb) (I2.fpOk (by omega) J'.free)
  exact codeAny_compStart_list lp (T.self _ 0 _ _ _ st4 lp)
theorem qcl (hc:X.calm=true) (ck:CompOk X.N M ix scope X.env.scope) (hi:PI X tg iter wi) (hg:∀ C fp s2 H2,PG (ybn X M scope C fp s2 H2) tg g) (ht:∀ C fp s2 H2,PTs (ybn X M scope C fp s2 H2) ifs tt) (he:∀ C fp s2 H2,PE (ybn X M scope C fp s2 H2) elt te)
    (hs:∀ x,foldedSetIterable iter X.env x=pure x:=by intro _; rfl):PE X (.ListComp elt [⟨tg,iter,ifs,0⟩] scope pos) (tComp wi ix g tt te):=by
  intro pins s σ H Q I h
  have hfree:∀ x∈scope.names,x.2=.free→∃ c,X.env.cells.lookup x.1=some c:=fun x hx e=>I.ok.has x.1 (ck.fr x hx e)
  rw [eval_ListComp]
  refine wpAny_comprehension_free (use:=none) (cl:=clOf X.env.cells scope.names []) rfl hs (qfi hfree) ck.kind ck.loc (thn (hi pins s σ H _ I h) fun v s1 h1=>thn h1 fun itv s2 h2=>?_)
  obtain ⟨it,fp,tn,J,H2,e,I2,T,st2,f2,rd⟩:=h2
  subst e
  refine qit (QD:=fun D H'=>Q (.ref D) H') I2 hc ck f2 T st2 hg ht he rd fun D C H' s' q hm hb _=>?_
  obtain ⟨m,hm⟩:=hm
  exact ⟨m,hm,fun h2 sb=>⟨.ref D,H',hb h2 sb,rfl,q⟩⟩
end
end L2
set_option Elab.async false
set_option linter.all false
set_option maxRecDepth 100000
namespace L2
open PySem PySem.Spec PyProof.Rows
def FnAt (K:PySem.W.Frag) (mg:Str→Option Value) (x:Str) (st:Stmt) (ps:List Str):Prop:=∃ f fd,mg x=some (.ref f)∧Fun K x x st f fd∧qcv K fd ps []
def Has (P:Program) (w:World) (K:PySem.W.Frag) (mg:Str→Option Value) (base:Heap) (k:Nat) (x:Str) (ps:List Str) (sp:Sp):Prop:=
  ∃ f fd,mg x=some (.ref f)∧PySem.W.keepIn K (.ref f)=true∧qcv K fd ps []∧FnOk P w K mg base CX0 k f fd ps sp
section
variable {P:Program} {w:World} {K:PySem.W.Frag} {mg:Str→Option Value} {base:Heap}
theorem Has.of {x:Str} {st:Stmt} {ps N:List Str} {k:Nat} {sp:Sp} (F:FnAt K mg x st ps) (S:FnScope N ps (yab st)) (len:∀ vs H Q E,sp vs H Q E→vs.length=ps.length)
    (hbody:∀ (f:Addr) (cdv:Value) (A:Around) (outer:List Env) (s:Shared) (H:Hp) (vs:List V) (Q:VK) (E:XK),Room k (A.deeper (envOfC x (yab st) s.heap.objs.size f cdv))→sp vs H Q E→
      ∃ t,PSs (cxOf CX0 P w K mg base N x (yab st) f cdv A outer s H E).nox (qag st) t∧t { nx:=fun _ H'=>Q .non H',rt:=Q } (yd5 N vs) H):Has P w K mg base (k + 1) x ps sp:=by
  obtain ⟨f,fd,h1,h2,h3⟩:=F
  exact ⟨f,fd,h1,h2.kp,h3,h2.ok S len fun cdv A outer s H vs Q E hr h=>hbody f cdv A outer s H vs Q E hr h⟩
end
section
variable {X:Cx}
theorem qak {k m:Nat} {x:Str} {ps:List Str} {sp:Sp} {e:Expr} {es:List Expr} {t:TA} {p pos:Pos} (h:Has X.prog X.w X.K X.mg X.base k x ps sp) (hr:Room m X.A) (ha:PA X (e :: es) t) (hk:k≤m:=by decide) (hg:Gl X x:=by rfl)
    (hdb:(x == ("__debug__" : Str))=false:=by decide) (he:starEach (e :: es) X.env=(false,eval e X.env) :: starEach es X.env:=by rfl) (hpl:(backTo pos (starEach es X.env)).any (·.1)=false:=by rfl) :
    PE X (.Call (.Name x p) (e :: es) [] pos) (yi8 sp [] E0 t):=by
  obtain ⟨f,fd,h1,h2,h3,h4⟩:=h
  exact qky h4 (hr.mono hk) hg h1 h2 h3 .nil pass0 ha hdb he hpl
end
def qhh:List Str:=["len","abs","max","min","repr","isinstance","int","bool","str","tuple","list","dict","range","enumerate","sorted","sum"]
structure Bl (mg:Str→Option Value):Prop where
  all:∀ x∈qhh,mg x=none
theorem Bl.of {mg:Str→Option Value} (B:Bl mg) {x:Str} (h:qhh.contains x=true):mg x=none:=B.all x (by simpa using h)
def GTup (K:PySem.W.Frag) (mg:Str→Option Value) (x:Str) (xs:List V):Prop:=∃ a,mg x=some (.ref a)∧∀ H,SqT K H a xs
theorem gtup_mk {K:PySem.W.Frag} {mg:Str→Option Value} {x:Str} {a:Addr} {xs:List V} {od:Option Addr} {its:Array Value} {n:Nat} {sl:Array (Option Value)} (h1:mg x=some (.ref a)) (h2:K.lookup a=some ⟨.type "tuple",od,.seq its n,sl⟩)
    (h3:its.size≤sizeLine) (h4:Vals xs its.toList):GTup K mg x xs:=⟨a,h1,fun H=>.inr ⟨_,its,n,h2,rfl,rfl,h3,h4⟩⟩
section
variable {X:Cx}
def tGT (K:PySem.W.Frag) (xs:List V):TE:=fun _ H Q=>∀ a,(∀ H',SqT K H' a xs)→Q (.ref a) H
theorem qkz {x:Str} {xs:List V} {pos:Pos} (h:GTup X.K X.mg x xs) (hg:Gl X x:=by rfl) (hd:(x == ("__debug__" : Str))=false:=by decide):PE X (.Name x pos) (tGT X.K xs):=by
  obtain ⟨a,h1,h2⟩:=h
  exact fun pins s σ H Q I q=>ybd (v:=.ref a) hg h1 rfl hd pins s σ H Q I (q a h2)
theorem qcu {x:Str} {i:Int} {pos:Pos} (h:∃ t,X.mg x=some (.int i t)) (hg:Gl X x:=by rfl) (hd:(x == ("__debug__" : Str))=false:=by decide):PE X (.Name x pos) (tC (.int i)):=by
  obtain ⟨t,h1⟩:=h
  exact ybd (v:=.int i) hg h1 ⟨t,rfl⟩ hd
def rIsi (K:PySem.W.Frag):List V→Hp→VK→Prop:=fun xs H Q=>∃ x T t b,xs=[x,.ty T]∧TyOf K H x t∧PySem.W.kitOne K t (.type T)=some b∧Q (.bl b) H
theorem ya8:yds X (.builtin "isinstance") (rIsi X.K):=by
  intro pins s σ H xs us Q I r h
  obtain ⟨x,T,t,b,rfl,ht,hk,q⟩:=h
  cases r with
  | cons r rr=>
    cases rr with
    | cons r' rr=>
      cases rr
      cases r'
      exact ykd I r ht hk fun tk=>⟨.bl b,H,I.tok _,rfl,q⟩
end
def tCut (t u:TS):TS:=fun D σ H=>∃ R:St→Hp→Prop,t { D with nx:=R } σ H∧∀ σ' H',R σ' H'→u D σ' H'
theorem pss_cut {X:Cx} {st:Stmt} {rest:List Stmt} {t u:TS} (h1:PS X st t) (h2:PSs X rest u):PSs X (st :: rest) (tCut t u):=by
  intro pins s σ H D I h
  obtain ⟨R,h,hR⟩:=h
  refine wpAny_execs_cons (thn (h1 pins s σ H { D with nx:=R } I h) fun f s1 q=>?_)
  cases f with
  | next=>
    obtain ⟨σ',H',I',q⟩:=q
    exact h2 pins s1 σ' H' D I' (hR σ' H' q)
  | ret v=>exact q
  | brk=>exact q
  | cont=>exact q
theorem Same.upd {H H1:Hp} {p:Addr} {o:HO} (s:Same H H1) (h:H1 p=none):Same H (upd H1 p o):=fun b u e=>by
  have e1:=s b u e
  rw [qaf (qah e1 h)]; exact e1
theorem Same.at {H H1:Hp} {p:Addr} {o:HO} (s:Same H H1) (h:H p=none):Same H (L2.upd H1 p o):=fun b u e=>by
  rw [qaf (qah e h)]; exact s b u e
theorem At.tupEq {H:Hp} {v:V} {ds:List PyData} (h:At H v (.tuple ds)):∃ a vs,v=.ref a∧H a=some (.tup vs)∧AtAll H vs ds:=by
  cases h with
  | tup e t=>exact ⟨_,_,rfl,e,t⟩
theorem At.lstEq {H:Hp} {v:V} {ds:List PyData} (h:At H v (.list ds)):∃ a vs,v=.ref a∧H a=some (.lst vs)∧AtAll H vs ds:=by
  cases h with
  | lst e t=>exact ⟨_,_,rfl,e,t⟩
theorem At.strEq {H:Hp} {v:V} {x:Str} (h:At H v (.str x)):v=.str x:=by cases h; rfl
theorem At.intEq {H:Hp} {v:V} {x:Int} (h:At H v (.int x)):v=.int x:=by cases h; rfl
end L2
set_option Elab.async false
set_option linter.all false
set_option maxRecDepth 100000
namespace L2
open PySem PySem.Spec PyProof.Rows
def qba (H:Hp) (L:List Addr):Hp:=fun b=>if b∈L then none else H b
theorem yat (H:Hp) (L:List Addr):Same (qba H L) H:=fun b o e=>by
  unfold qba at e
  split at e
  · cases e
  · exact e
theorem qb9 {H:Hp} {L:List Addr} {b:Addr} (h:b∉L):qba H L b=H b:=by unfold qba; rw [if_neg h]
theorem qau {H H':Hp} (s:Same H H') (L:List Addr):Same (qba H L) (qba H' L):=fun b o e=>by
  unfold qba at e ⊢
  split at e
  · cases e
  · rename_i h; rw [if_neg h]; exact s b o e
theorem qkn {H:Hp} {L:List Addr} {p:Addr} {o:HO} (h:p∈L):qba (upd H p o) L=qba H L:=by
  funext b
  unfold qba
  by_cases hb:b∈L
  · rw [if_pos hb,if_pos hb]
  · rw [if_neg hb,if_neg hb,qaf]
    rintro rfl
    exact hb h
theorem ykc {n:Nat} (h:n≤100000):n≤sizeLine:=Nat.le_trans h (by decide)
theorem ycl {n:Nat} (h:n≤100000):n < sizeLine:=Nat.lt_of_le_of_lt h (by decide)
theorem qal {α:Type} {xs:List α} {i:Int} {v:α} (j:Nat) (h:xs[j]?=some v) (e:i=(j:Int):=by rfl):atI xs i=some v:=by
  rw [e]; exact yht h
theorem qj2 {α:Type} {xs:List α} {i:Int} {v:α} (h0:0≤i) (h:xs[i.toNat]?=some v):atI xs i=some v:=by
  have e:((i.toNat:Nat):Int)=i:=Int.toNat_of_nonneg h0
  rw [← e]; exact yht h
theorem qdh {J:It} {n:Nat} {g:TG} {tt:TT} {te:TE} {ix:List (Option Nat)} {σ:St} {H:Hp} {QD:Hp→Prop} {D:Addr} (Pv:Nat→Hp→Prop) (h0:Pv 0 (upd H D (.lst []))) (stop:∀ H',Pv n H'→J.stop n H'∧QD H')
    (step:∀ i H',i < n→Pv i H'→J.go i H'∧∀ x H2,J.yld i H' x H2→g x (capS ix σ) H2 fun σ2 H3=>qbb (capS ix σ) σ2∧tt σ2 H3 fun b H4=>
      if b=true then te σ2 H4 fun v H5=>∃ ys,H5 D=some (.lst ys)∧ys.length < sizeLine∧Pv (i + 1) (upd H5 D (.lst (ys++[v]))) else Pv (i + 1) H4) :
    ∃ W:Nat→Nat→Hp→Prop,(∃ m,W 0 m (upd H D (.lst [])))∧∀ i m H,W i m H→
      (J.stop i H∧QD H)∨(J.go i H∧∃ N:Hp→Prop,(∀ H',N H'→∃ m',m' < m∧W (i + 1) m' H')∧∀ x H',J.yld i H x H'→g x (capS ix σ) H' fun σ2 H2=>qbb (capS ix σ) σ2∧tt σ2 H2 fun b H3=>
        if b=true then te σ2 H3 fun v H4=>∃ ys,H4 D=some (.lst ys)∧ys.length < sizeLine∧N (upd H4 D (.lst (ys++[v]))) else N H3):=by
  refine ⟨fun i m H=>m=n - i∧i≤n∧Pv i H,⟨n,by simp,Nat.zero_le _,h0⟩,?_⟩
  rintro i m H ⟨rfl,hi,p⟩
  by_cases hlt:i < n
  · obtain ⟨g1,g2⟩:=step i H hlt p
    exact .inr ⟨g1,Pv (i + 1),fun H' p'=>⟨n - (i + 1),by omega,rfl,hlt,p'⟩,g2⟩
  · have e:i=n:=by omega
    subst e
    exact .inl (stop H p)
theorem qh4 {xs:List V} (k:Nat):cutV xs none (some (k:Int))=xs.take k:=by
  unfold cutV
  rw [HT.sIx_none,HT.sIx_nat,List.drop_zero,Nat.sub_zero]
  by_cases h:k≤xs.length
  · rw [Nat.min_eq_left h]
  · rw [Nat.min_eq_right (by omega),List.take_length,List.take_of_length_le (by omega)]
theorem qe2 {xs:List V} (k:Nat):cutV xs (some (k:Int)) none=xs.drop k:=by
  unfold cutV
  rw [HT.sIx_none,HT.sIx_nat]
  by_cases h:k≤xs.length
  · rw [Nat.min_eq_left h]
    exact List.take_of_length_le (by rw [List.length_drop]; exact Nat.le_refl _)
  · rw [Nat.min_eq_right (by omega),List.drop_eq_nil_of_le (show xs.length≤k by omega),List.drop_length]; simp
theorem yes {σ:St} {H:Hp} {A B:Hp→Prop} (h:A H):tYes σ H fun b H'=>if b=true then A H' else B H':=iteT (B:=B H) h
section
variable {X:Cx} {K:PySem.W.Frag}
theorem qfh {es:List Expr} {k:Nat} {t:TGs} {n:Nat} {pos:Pos} (h:X.K=K) (hc:X.calm=true) (hh:PGs X es t)
    (hn:(assignEach es X.env).length=n:=by rfl) (hst:(assignEach es X.env).findIdx? (·.1)=none:=by rfl):PG X (.Tuple es k pos) (gTup K n t):=by
  subst h; exact yfz hc hh hn hst
end
def rEqD:R2:=fun x y H Q=>∃ dx dy,At H x dx∧At H y dy∧dx.canLay0=true∧dy.canLay0=true∧dx.depth≤60∧Q (.bl (PyData.eqv dx dy)) H
section
variable {X:Cx}
theorem qkt {k:Nat} (hr:Room k X.A):OpR X (compareOp .Eq) rEqD:=by
  intro pins s σ H x y v u Q I rx ry h
  obtain ⟨dx,dy,h1,h2,c1,c2,hd,q⟩:=h
  obtain ⟨as,r1⟩:=h1.reads I.hok rx
  obtain ⟨bs,r2⟩:=h2.reads I.hok ry
  have hu:=hr.units
  exact PySem.SeqAt.rcAt_reads r1 r2 c1 c2 (by have:=Nat.min_le_left dx.depth dy.depth; omega) _ _ _ _ ⟨.bl _,H,I,rfl,q⟩
end
theorem yc6 {n:Nat}:∀ {xs:List PyData},(∀ x∈xs,x.depth≤n)→PyData.depthAll xs≤n
  | [],_=>by simp [PyData.depthAll]
  | x :: xs,h=>by
    have h1:=h x List.mem_cons_self
    have h2:=yc6 (xs:=xs) fun y hy=>h y (List.mem_cons_of_mem _ hy)
    simp only [PyData.depthAll]
    omega
theorem yeo {n:Nat}:∀ {xs:List PyData},(∀ x∈xs,x.bulk≤n)→PyData.bulkAll xs≤(n + 1) * xs.length
  | [],_=>by simp [PyData.bulkAll]
  | x :: xs,h=>by
    have h1:=h x List.mem_cons_self
    have h2:=yeo (xs:=xs) fun y hy=>h y (List.mem_cons_of_mem _ hy)
    simp only [PyData.bulkAll,List.length_cons,Nat.mul_add]
    omega
theorem qd2 {B:Nat}:∀ {xs:List PyData},(∀ x∈xs,x.leavesShort B=true)→PyData.leavesShortAll B xs=true
  | [],_=>by simp [PyData.leavesShortAll]
  | x :: xs,h=>by
    simp only [PyData.leavesShortAll,h x List.mem_cons_self,qd2 (xs:=xs) fun y hy=>h y (List.mem_cons_of_mem _ hy),Bool.and_self]
end L2
set_option Elab.async false
set_option linter.all false
set_option maxRecDepth 100000
set_option maxHeartbeats 2000000
namespace L2
open PySem PySem.Spec PyProof.Rows PySem.W
abbrev bmV:List Value:=[.type "ValueError",.type "Exception",.type "BaseException",.type "object"]
def qey (K:PySem.W.Frag) (C:Addr):Bool:=match K.lookup C with
  | some ⟨.type "type",_,.cls cd,sl⟩=>(match cd.mro,sl.toList with
    | .ref D :: bm,[_,_,_,_,some (.builtin n),_]=>D == C && n == "ValueError.__new__" && !cd.hasDel && cd.hasDict && PySem.W.tailIn K bmV bm
    | _,_=>false)
  | _=>false
theorem yeg {K:PySem.W.Frag} {h:Heap} {C:Addr} (X:K.In h) (q:qey K C=true):∃ nm qn N bs bm sn sub ab col dd k0 k1 k2 k3 k5,
    h.get? C=some (excClassObj nm qn C N bs bm true sn sub ab col dd k0 k1 k2 k3 k5 "ValueError.__new__")∧OwnTail h bmV bm:=by
  unfold qey at q
  split at q
  · rename_i dd cd sl ho
    split at q
    · rename_i D bm k0 k1 k2 k3 n k5 hm hs
      simp only [Bool.and_eq_true,beq_iff_eq,Bool.not_eq_true'] at q
      obtain ⟨⟨⟨⟨rfl,rfl⟩,hdel⟩,hdi⟩,ht⟩:=q
      obtain ⟨nm,bs,mro,ns,qn,hd,sn,sub,ab,col,del⟩:=cd
      dsimp only at hm hdel hdi
      subst hm hdel hdi
      obtain ⟨l⟩:=sl
      simp only at hs
      subst hs
      exact ⟨nm,qn,ns,bs,bm,sn,sub,ab,col,dd,k0,k1,k2,k3,k5,X _ _ ho,tail_of_in X ht⟩
    · cases q
  · cases q
section
variable {prog:Program} {w:World} {A:Around} {E:Value→Shared→Prop} {h:Heap} {g:Array GenState} {d:Drawn} {t:Nat} {os:OsState} {K:PySem.W.Frag} {C fI:Addr}
theorem qhe {rest:List Value} {Q:Fin→Shared→Prop} (X:K.In h) (cx:qey K C=true) (hi:PySem.W.findIn K (.ref C) "__init__" = some (some (.ref fI))) (hf:PySem.W.isFn K (.ref fI)=true)
    (hq:∀ h' e,Heap.MadeExcOf h h' e (.ref C) rest→wpAny (model prog w) A (call (.ref fI) (.ref e :: rest)) (fun r s'=>r=.none∧Q (.done (.ret (.ref e))) s') E ⟨h',g,d,t,os⟩) (hrest:rest.length≤sizeLine) :
    wpAny (model prog w) A (Builtin.«type.__call__» ⟨.ref C :: rest,[]⟩) Q E ⟨h,g,d,t,os⟩:=by
  obtain ⟨nm,qn,N,bs,bm,sn,sub,ab,col,dd,k0,k1,k2,k3,k5,cC,T⟩:=yeg X cx
  repeat (first | with_reducible refine wpAny_loadPart_at cC ?_ | with_reducible refine wpAny_madeBy_exc cC ?_ | wp_step)
  refine codeAny_call_builtin_code (Code.quiet_builtin _ PySem.F.excBase_ValueError.quiet) (wpAny_check_new_subU PySem.F.excBase_ValueError PySem.F.excBase_ValueError.hasB T cC ?_)
  refine codeAny_exc_new_subU PySem.F.excBase_ValueError PySem.F.excBase_ValueError.hasB PySem.F.excBase_ValueError T cC ?_ hrest
  show wpAny _ _ _ _ _ _
  generalize hp1:h.push { cls:=.type "tuple",data:=.seq rest.toArray }=h1
  have kp1:∀ b o,h.get? b=some o→h1.get? b=some o:=fun b o e=>by rw [← hp1]; exact Heap.get?_push_of_some _ e
  have tp1:h1.get? h.objs.size=some { cls:=.type "tuple",data:=.seq rest.toArray }:=by rw [← hp1]; exact Heap.get?_push_at rfl rfl
  have sz1:h1.objs.size=h.objs.size + 1:=by rw [← hp1,Heap.size_push]
  generalize hp2:h1.push { cls:=.ref C,data:=.fields #[.ref h.objs.size,.none,.none,.none,.bool false,.none] }=h2
  have kp2:∀ b o,h.get? b=some o→h2.get? b=some o:=fun b o e=>by rw [← hp2]; exact Heap.get?_push_of_some _ (kp1 b o e)
  have tp2:h2.get? h.objs.size=some { cls:=.type "tuple",data:=.seq rest.toArray }:=by rw [← hp2]; exact Heap.get?_push_of_some _ tp1
  have ge2:h2.get? (h.objs.size + 1)=some { cls:=.ref C,data:=.fields #[.ref h.objs.size,.none,.none,.none,.bool false,.none] }:=by rw [← hp2,← sz1]; exact Heap.get?_push_size _ rfl
  have X2:K.In h2:=X.keeps kp2
  have cC2:=kp2 _ _ cC
  have hcC:(Value.ref C :: bm).contains (.ref C)=true:=by simp
  unfold isInstance
  repeat (first | with_reducible refine wpAny_loadPart_at ge2 ?_ | (with_reducible refine wpAny_isSubtype_exc cC2 ?_; rw [hcC]) | wp_step)
  show wpAny _ _ (typeLookup (.ref C) _) _ _ _
  refine (looks_findIn X2 hi).here ?_
  refine wpAny_holding (wpAny_bind ((bind_fn X2 (.ref (h.objs.size + 1)) (beq_iff_eq.mp hf)).here ?_))
  refine wpAny_bind (wpAny_mono (hq h2 (h.objs.size + 1) ⟨kp2,Heap.get?_none_of_le (Nat.le_succ _),h.objs.size,ge2,Heap.get?_none_of_le (Nat.le_refl _),tp2⟩) (fun r s' hr=>?_) fun _ _ z=>z)
  obtain ⟨rfl,hQ⟩:=hr
  wp_walk
  exact hQ
theorem xc_call {rest:List Value} {Q:Value→Shared→Prop} (X:K.In h) (cx:qey K C=true) (hi:PySem.W.findIn K (.ref C) "__init__" = some (some (.ref fI))) (hf:PySem.W.isFn K (.ref fI)=true)
    (hq:∀ h' e,Heap.MadeExcOf h h' e (.ref C) rest→wpAny (model prog w) (A.under (.builtin "type.__call__" ⟨.ref C :: rest,[]⟩)) (call (.ref fI) (.ref e :: rest)) (fun r s'=>r=.none∧Q (.ref e) s') E ⟨h',g,d,t,os⟩) (hrest:rest.length≤sizeLine) :
    wpAny (model prog w) A (call (.ref C) rest) Q E ⟨h,g,d,t,os⟩:=by
  obtain ⟨nm,qn,N,bs,bm,sn,sub,ab,col,dd,k0,k1,k2,k3,k5,cC,T⟩:=yeg X cx
  have g1:=tc_lookup
  have g2:=tc_bind (.ref C)
  have gT:(⟨h,g,d,t,os⟩:Shared).TypeIs (.ref C) "type":=⟨_,cC,rfl⟩
  refine wpAny_call (codeAny_of_tree ?_)
  show wpAny _ _ (callAny (.ref C) _) _ _ _
  repeat (any_goals (first | assumption | with_reducible refine wpAny_loadPart_at cC ?_ | wp_step))
  refine ⟨rfl,codeAny_call_builtin_at (Code.quiet_builtin _ (by decide +kernel)) entry_typeCall (wpAny_check_type_call_sub cC (qhe X cx hi hf (fun h' e hm=>hq h' e hm) hrest))⟩
theorem xc_call0 {rest:List Value} {Q:Value→Shared→Prop} (X:K.In h) (q:PySem.W.excIn K C bmV "ValueError.__new__" = true) (hq:∀ h' e,Heap.MadeExcOf h h' e (.ref C) rest→Q (.ref e) ⟨h',g,d,t,os⟩) (hrest:rest.length≤sizeLine) :
    wpAny (model prog w) A (call (.ref C) rest) Q E ⟨h,g,d,t,os⟩:=by
  unfold PySem.W.excIn at q
  split at q
  · rename_i dd cd sl ho
    split at q
    · rename_i C' bm k0 k1 k2 k3 n k5 hm hs
      simp only [Bool.and_eq_true,beq_iff_eq,Bool.not_eq_true'] at q
      obtain ⟨⟨⟨⟨⟨rfl,rfl⟩,hdel⟩,ht⟩,hok⟩,hni⟩:=q
      obtain ⟨nm,bs,mro,ns,qn,hd,sn,sub,ab,col,del⟩:=cd
      dsimp only at hm hdel hok hni
      subst hm hdel
      obtain ⟨l⟩:=sl
      simp only at hs
      subst hs
      exact wpAny_call_exc_subU PySem.F.excBase_ValueError PySem.F.excBase_ValueError.hasB PySem.F.excBase_ValueError (tail_of_in X ht) (X _ _ ho) (.of_isNs (isNs_of_in X hok)) (nsMap_none_of_in X hok hni) hq hrest
    · cases q
  · cases q
end
end L2
set_option Elab.async false
set_option linter.all false
set_option maxRecDepth 100000
set_option maxHeartbeats 2000000
namespace L2
open PySem PySem.Spec PyProof.Rows PySem.W
theorem qhr {h:Heap} {bm:List Value} (T:OwnTail h bmV bm) (self:Value):refuseLoop self "__setattr__" bm=pure ():=by
  induction T with
  | base=>exact PySem.F.store_ValueError.passes self
  | own _ _ _ _ ih=>rw [refuseLoop_ref]; exact ih
section
variable {prog:Program} {w:World} {A:Around} {E:Value→Shared→Prop} {h:Heap} {g:Array GenState} {d:Drawn} {t:Nat} {os:OsState} {K:PySem.W.Frag} {C x:Addr} {mA:Str→Option Value} {name:Str} {v:Value}
theorem yhi {M:Model} {o:Obj} {nameV:Value} {Q:Unit→Shared→Prop} (X:K.In h) (cx:qey K C=true) (hx:h.get? x=some o) (hc:o.cls=.ref C) (hq:Q () ⟨h,g,d,t,os⟩) :
    wpAny M A (checkBuiltinCall "object.__setattr__" ⟨[.ref x,nameV,v],[]⟩) Q E ⟨h,g,d,t,os⟩:=by
  obtain ⟨nm,qn,N,bs,bm,sn,sub,ab,col,dd,k0,k1,k2,k3,k5,cC,T⟩:=yeg X cx
  have SF:=PySem.F.store_ValueError
  have hob:(Value.ref C :: bm).contains (.type "object")=true:=by rw [List.contains_cons,T.hasType SF.hasOwner,Bool.or_true]
  have hargs:=SF.args (.ref x) nameV v
  simp only [checkBuiltinCall,SF.kind,SF.split]
  refine wpAny_bind ?_
  unfold isInstance
  repeat (first | (with_reducible refine wpAny_loadPart_at hx ?_; rw [hc]) | (with_reducible refine wpAny_isSubtype_exc cC ?_; rw [hob]) | wp_step)
  exact hq
theorem qfw {tk:Tok} {Q:Fin→Shared→Prop} {ns:List Str} (X:K.In h) (cx:qey K C=true) (hna:PySem.W.findIn K (.ref C) name=some none) (I:h.Inst x C mA)
    (hq:∀ h' tk',h'.Inst x C (fun y=>if y=name then some v else mA y)→
      (∀ b o,b≠x→(∀ o0 dx,h.get? x=some o0→o0.dict=some dx→b≠dx)→h.get? b=some o→h'.get? b=some o)→
      (∀ o0,h.get? x=some o0→∃ o1,h'.get? x=some o1∧o1.cls=o0.cls∧o1.data=o0.data∧(∀ dx,o0.dict=some dx→o1.dict=some dx)∧(o0.dict=none→o1.dict=some h.objs.size))→Q (.done (.ret .none)) ⟨h',g,d,tk',os⟩)
    (hw:Within mA ns) (hsz:ns.length + 1≤sizeLine) :
    wpAny (model prog w) A (Builtin.«object.__setattr__» ⟨[.ref x,.str name tk,v],[]⟩) Q E ⟨h,g,d,t,os⟩:=by
  obtain ⟨nm,qn,N,bs,bm,sn,sub,ab,col,dd,k0,k1,k2,k3,k5,cC,T⟩:=yeg X cx
  obtain ⟨o,hx,hc,hnc,hd⟩:=I
  have hpass:=qhr T (.ref x)
  unfold Builtin.«object.__setattr__»
  repeat (first | rw [refuse_eq] | (rw [refuseLoop_ref,hpass]) | (with_reducible refine wpAny_loadPart_at hx ?_; rw [hc]) | with_reducible refine wpAny_mroOf_exc cC ?_ | with_reducible refine (looks_findIn X hna).here ?_ | wp_step)
  have put:∀ (dx:Addr) (h1:Heap) (mB:Str→Option Value) (ms:List Str),h1.Ns1 dx mB→Within mB ms→ms.length + 1≤sizeLine→
      (∀ h' tk',h'.Ns1 dx (fun y=>if y=name then some v else mB y)→Heap.SameBut dx h1 h'→Q (.done (.ret .none)) ⟨h',g,d,tk',os⟩)→
      wpAny (model prog w) A (Builtin.ObjectAttr.storeInDict dx (.str name tk) name v) Q E ⟨h1,g,d,t,os⟩:=fun dx h1 mB ms n1 wi le fin=>by
    unfold Builtin.ObjectAttr.storeInDict Builtin.ObjectAttr.newKeyGuard
    refine wpAny_bind (wpAny_pure (wpAny_bind (wpAny_nsSet1 n1 fun h' n2 sb=>?_)))
    obtain ⟨oD,eD,pD,oE,dE,cE⟩:=n2.count (Within.cons name v wi)
    refine wpAny_bind (wpAny_lookBehind oE (by rw [dE]; exact pastItsLine_dict (Nat.le_trans cE (by rw [List.length_cons]; omega))) ?_)
    wp_walk
    exact fin h' _ n2 sb
  rcases hd with ⟨hdn,hmA⟩ | ⟨dx,hdx,hne,hns⟩
  · rw [hdn]
    have hif:¬ ((!true || !typeHasDict (Value.ref C))=true):=by simp [typeHasDict]
    show wpAny _ _ (if (!true || !typeHasDict (Value.ref C))=true then _ else _) _ _ _
    rw [if_neg hif]
    have hxs:x≠h.objs.size:=Nat.ne_of_lt (Heap.lt_size hx)
    have px:(h.push { cls:=.type "dict",data:=.dict #[] }).get? x=some o:=Heap.get?_push_of_some _ hx
    split
    · rename_i c hcd
      exact absurd hcd (hnc c)
    · refine wpAny_bind (wpAny_alloc' (wpAny_bind (wpAny_update' px (wpAny_pure ?_))))
      have dg:((h.push { cls:=.type "dict",data:=.dict #[] }).update x fun o=>{ cls:=o.cls,dict:=some h.objs.size,data:=o.data,slots:=o.slots }).get? h.objs.size=some { cls:=.type "dict",data:=.dict #[] }:=
        (Heap.get?_update_ne _ _ _ _ hxs.symm).trans (Heap.get?_push_at rfl rfl)
      have dn:((h.push { cls:=.type "dict",data:=.dict #[] }).update x fun o=>{ cls:=o.cls,dict:=some h.objs.size,data:=o.data,slots:=o.slots }).Ns h.objs.size (fun _=>none):=
        ⟨_,#[],_,dg,rfl,(by intro e he; exact absurd he (by simp)),fun _=>rfl⟩
      refine put h.objs.size _ _ [] (Heap.Ns1.of_empty dn) Within.nil (by rw [sizeLine_eq]; decide) fun h' tk' n2 sb=>?_
      have gx:h'.get? x=some { cls:=o.cls,dict:=some h.objs.size,data:=o.data,slots:=o.slots }:=by
        refine (sb.2 x hxs).trans (Heap.get?_update_self _ px ?_)
        have fr:=(Heap.get?_some_iff.mp hx).2
        obtain ⟨oc,od,odt,osl⟩:=o
        cases odt <;> first | rfl | exact fr
      refine hq h' tk' ⟨_,gx,hc,hnc,.inr ⟨h.objs.size,rfl,hxs.symm,?_⟩⟩ (fun b ob hbx _ hb=>?_) (fun o0 e0=>?_)
      · have em:(fun y=>if y=name then some v else mA y)=(fun y=>if y=name then some v else (none:Option Value)):=by
          funext y
          by_cases hy:y=name
          · simp [hy]
          · simp [hy,hmA y]
        rw [em]; exact n2
      · exact (sb.2 b (Nat.ne_of_lt (Heap.lt_size hb))).trans ((Heap.get?_update_ne _ _ _ _ hbx).trans (Heap.get?_push_of_some _ hb))
      · rw [hx] at e0; cases e0
        exact ⟨_,gx,rfl,rfl,(by intro dx e; rw [hdn] at e; cases e),fun _=>rfl⟩
  · rw [hdx]
    refine wpAny_pure ?_
    refine put dx h mA ns hns hw hsz fun h' tk' n2 sb=>?_
    refine hq h' tk' ⟨o,(sb.2 x hne.symm).trans hx,hc,hnc,.inr ⟨dx,hdx,hne,n2⟩⟩ (fun b ob _ hbd hb=>(sb.2 b (hbd o dx hx hdx)).trans hb) (fun o0 e0=>⟨o0,(sb.2 x hne.symm).trans e0,rfl,rfl,fun _ e=>e,fun e=>?_⟩)
    rw [hx] at e0; cases e0
    rw [hdx] at e; cases e
theorem xc_store {Q:Unit→Shared→Prop} {ns:List Str} (X:K.In h) (cx:qey K C=true) (hsa:PySem.W.findIn K (.ref C) "__setattr__" = some (some (.builtin "object.__setattr__"))) (hna:PySem.W.findIn K (.ref C) name=some none) (I:h.Inst x C mA)
    (hq:∀ h' tk',h'.Inst x C (fun y=>if y=name then some v else mA y)→
      (∀ b o,b≠x→(∀ o0 dx,h.get? x=some o0→o0.dict=some dx→b≠dx)→h.get? b=some o→h'.get? b=some o)→
      (∀ o0,h.get? x=some o0→∃ o1,h'.get? x=some o1∧o1.cls=o0.cls∧o1.data=o0.data∧(∀ dx,o0.dict=some dx→o1.dict=some dx)∧(o0.dict=none→o1.dict=some h.objs.size))→Q () ⟨h',g,d,tk',os⟩)
    (hw:Within mA ns) (hsz:ns.length + 1≤sizeLine):wpAny (model prog w) A (setAttr (.ref x) name v) Q E ⟨h,g,d,t,os⟩:=by
  obtain ⟨o,hx,hc,_⟩:=id I
  have SF:=PySem.F.store_ValueError
  have b3:=SF.slot.bind (.ref x)
  unfold setAttr callSpecial? specialOf
  repeat (any_goals (first | assumption | (with_reducible refine wpAny_loadPart_at hx ?_; rw [hc]) | with_reducible refine (looks_findIn X hsa).here ?_ | wp_step))
  refine codeAny_call_builtin SF.slot.plain SF.entry (yhi X cx hx hc (qfw X cx hna I (fun h' tk' I' hk hsame=>?_) hw hsz))
  repeat (any_goals (first | assumption | wp_step))
  exact hq h' tk' I' hk hsame
end
end L2
set_option Elab.async false
set_option linter.all false
set_option maxRecDepth 100000
set_option maxHeartbeats 2000000
namespace L2
open PySem PySem.Spec PyProof.Rows PySem.W
section
variable {prog:Program} {w:World} {A:Around} {E:Value→Shared→Prop} {h:Heap} {g:Array GenState} {d:Drawn} {t:Nat} {os:OsState} {K:PySem.W.Frag} {C x:Addr} {mA:Str→Option Value} {name:Str} {v:Value}
theorem qhv {M:Model} {o:Obj} {nameV:Value} {Q:Unit→Shared→Prop} (X:K.In h) (cx:qey K C=true) (hx:h.get? x=some o) (hc:o.cls=.ref C) (hq:Q () ⟨h,g,d,t,os⟩) :
    wpAny M A (checkBuiltinCall "BaseException.__getattribute__" ⟨[.ref x,nameV],[]⟩) Q E ⟨h,g,d,t,os⟩:=by
  obtain ⟨nm,qn,N,bs,bm,sn,sub,ab,col,dd,k0,k1,k2,k3,k5,cC,T⟩:=yeg X cx
  have kd:builtinKind "BaseException.__getattribute__" = some .slot:=by decide +kernel
  have sp:splitId "BaseException.__getattribute__" = some ("BaseException","__getattribute__"):=by decide +kernel
  have hob:(Value.ref C :: bm).contains (.type "BaseException")=true:=by rw [List.contains_cons,T.hasType PySem.F.excBase_ValueError.hasBase]; rfl
  have ar:=PySem.F.args_bexc_ga (.ref x) nameV
  simp only [checkBuiltinCall,kd,sp]
  refine wpAny_bind ?_
  unfold isInstance
  repeat (first | (with_reducible refine wpAny_loadPart_at hx ?_; rw [hc]) | (with_reducible refine wpAny_isSubtype_exc cC ?_; rw [hob]) | wp_step)
  exact hq
end
end L2
set_option Elab.async false
set_option linter.all false
set_option maxRecDepth 100000
set_option maxHeartbeats 2000000
namespace L2
open PySem PySem.Spec PyProof.Rows PySem.W
structure XTy (K:PySem.W.Frag) (C:Addr):Prop where
  cx:qey K C=true
  ga:PySem.W.findIn K (.ref C) "__getattribute__" = some (some (.builtin "BaseException.__getattribute__"))
  gh:PySem.W.findIn K (.ref C) "__getattr__" = some none
  hc:(PySem.W.clsIn K C).isSome=true
  ha:PySem.W.findIn K (.ref C) "__class__" = some (some (.builtin "object.__class__"))
  hn:PySem.W.specialIn K (.builtin "object.__class__") "__get__" = some (some (.builtin "getset_descriptor.__get__"))
  tk:PySem.W.takesIn K (.builtin "object.__class__")=some true
  hm:PySem.W.mroIn K C (.type "object")=some true
section
variable {prog:Program} {w:World} {A:Around} {E:Value→Shared→Prop} {s:Shared} {K:PySem.W.Frag} {x C:Addr} {ox:Obj} {od:Option Obj}
theorem XTy.find (T:XTy K C):PySem.W.findObj K C od "__class__" = some (.bind (.builtin "getset_descriptor.__get__") (.builtin "object.__class__")):=by
  obtain ⟨cd,hc⟩:=Option.isSome_iff_exists.mp T.hc
  unfold PySem.W.findObj
  rw [hc,Option.bind_some,T.ha,Option.bind_some]
  simp [T.hn,T.tk]
theorem xc_class {Q:Option Value→Shared→Prop} (X:K.In s.heap) (T:XTy K C) (I:PySem.W.InstAt s.heap x ox C od) (q:Q (some (.ref C)) { s with toks:=s.toks + 1 }):wpAny (model prog w) A (getAttr? (.ref x) "__class__") Q E s:=by
  obtain ⟨h,g,d,t,os⟩:=s
  replace X:K.In h:=X
  replace I:PySem.W.InstAt h x ox C od:=I
  have FV:=PySem.F.excAttr_ValueError
  have q3:=FV.ga.bind (.ref x)
  have e0:(false && onTheHeap (Value.builtin "BaseException.__getattribute__"))=false:=rfl
  have hx:=I.at_
  have hc:=I.cls
  have e2:(Value.builtin "BaseException.__getattribute__" == Value.builtin "object.__getattribute__")=false:=by decide +kernel
  have e1:(onTheHeap (Value.ref C) && Value.builtin "BaseException.__getattribute__" == Value.builtin "object.__getattribute__")=false:=by rw [e2]; rfl
  unfold getAttr? getAttrBy? getAttrBy
  repeat (any_goals (first | assumption | (with_reducible refine wpAny_loadPart_at hx ?_; rw [hc]) | with_reducible refine (looks_findIn X T.ga).here ?_ | with_reducible refine (looks_findIn X T.gh).here ?_ | wp_step))
  refine codeAny_call_builtin FV.ga.plain PySem.F.entry_bexc_ga (qhv X T.cx hx hc ?_)
  unfold Builtin.«object.__getattribute__»
  repeat (any_goals (first | assumption | (with_reducible refine wpAny_loadPart_at hx ?_; rw [hc]) | with_reducible refine (looks_find X I T.find).here ?_ | wp_step))
  refine class_get (s:=⟨h,g,d,t + 1,os⟩) X I T.hm ?_
  show wpAny _ _ (ret (.ref C)) _ _ _
  refine wpAny_pure ?_
  show wpAny _ _ (handedOut (.ref C)) _ _ _
  exact handed_on rfl (wpAny_pure q)
theorem kitx_xc (T:XTy K C):KitX K (.ref x) (.ref C) (fun h=>∃ ox od,PySem.W.InstAt h x ox C od) where
  ty:=fun _ _ _ ⟨_,_,I⟩=>I.type
  it:=fun _ _ X _=>by
    obtain ⟨cd,hc⟩:=Option.isSome_iff_exists.mp T.hc
    unfold PySem.W.clsIn at hc
    split at hc
    · rename_i c' d' cd' sl' ho
      intro A' Q' E' s' k q
      unfold isType loadHead
      exact wpAny_bind (wpAny_loadPart (k _ _ (X _ _ ho)) (wpAny_pure q))
    · cases hc
  ne:=fun h tp dd its n sl X htp=>by
    obtain ⟨cd,hc⟩:=Option.isSome_iff_exists.mp T.hc
    refine Bool.eq_false_iff.mpr fun q=>?_
    have e:C=tp:=Value.ref.inj (beq_iff_eq.mp q)
    subst e
    unfold PySem.W.clsIn at hc
    split at hc
    · rename_i c' d' cd' sl' ho
      have z:=(X _ _ ho).symm.trans htp
      cases z
    · cases hc
  ca:=fun X ⟨_,_,I⟩ k=>xc_class X T I k
end
end L2
set_option Elab.async false
set_option linter.all false
set_option maxRecDepth 100000
set_option maxHeartbeats 2000000
namespace L2
open PySem PySem.Spec PyProof.Rows PySem.W
section
variable {X:Cx} {pins:List (Addr×Obj)} {σ:St} {H:Hp} {s:Shared} {h':Heap} {a d:Addr} {oA oD:HO}
theorem Inv.two {t':Nat} (I:Inv X pins σ H s) (ma:Mut (H a)) (md:Mut (H d)∨s.heap.objs.size≤d) (hne:d≠a) (k:∀ b u,b≠a→b≠d→s.heap.get? b=some u→h'.get? b=some u) (ta:∃ u,h'.get? a=some u) (td:∃ u,h'.get? d=some u)
    (na:ybc X.prog X.w (upd (upd H d oD) a oA) h' a oA) (nd:ybc X.prog X.w (upd (upd H d oD) a oA) h' d oD):Inv X pins σ (upd (upd H d oD) a oA) { s with heap:=h',toks:=t' }:=by
  have up:∀ b,b≠a→b≠d→upd (upd H d oD) a oA b=H b:=fun b h1 h2=>by rw [qaf h1,qaf h2]
  have na0:∀ b,H b=none→b≠a:=fun b n z=>by subst z; rw [n] at ma; exact ma
  have nd0:∀ b u,s.heap.get? b=some u→H b=none→b≠d:=fun b u e n z=>by
    subst z
    rcases md with md | md
    · rw [n] at md; exact md
    · exact absurd (Nat.lt_of_lt_of_le (Heap.lt_size e) md) (Nat.lt_irrefl _)
  have ms:∀ b u,H b=some u→¬ Mut (some u)→b≠a∧b≠d:=fun b u e nm=>by
    refine ⟨?_,?_⟩
    · rintro rfl; rw [e] at ma; exact nm ma
    · rintro rfl
      rcases md with md | md
      · rw [e] at md; exact nm md
      · have:=I.hok.fresh md; rw [e] at this; cases this
  refine I.un ⟨fun b u e n _ _=>k b u (na0 b n) (nd0 b u e n) e,fun b u e n _ _=>⟨u.slots,k b u (na0 b n) (nd0 b u e n) e⟩,fun b u e n _=>by rw [up b (na0 b n) (nd0 b u e n)]; exact n,fun b u e _=>?_,
    fun b xs e=>?_,fun b u xs e=>?_,fun b ps e=>⟨#[],?_⟩⟩ (fun b u e=>?_)
  · by_cases h1:b=a
    · subst h1; exact ta
    · by_cases h2:b=d
      · subst h2; exact td
      · exact ⟨u,k b u h1 h2 e⟩
  · obtain ⟨h1,h2⟩:=ms b _ e fun z=>z
    rw [up b h1 h2]; exact e
  · obtain ⟨h1,h2⟩:=ms b _ e fun z=>z
    rw [up b h1 h2]; exact e
  · obtain ⟨h1,h2⟩:=ms b _ e fun z=>z
    rw [up b h1 h2,e]; simp
  · by_cases h1:b=a
    · subst h1; rw [qab] at e; cases e; exact na
    · by_cases h2:b=d
      · subst h2; rw [qaf h1,qab] at e; cases e; exact nd
      · rw [up b h1 h2] at e
        refine (I.hok b u e).stay (fun c v hc q=>?_) (fun c q=>?_) fun c xs q=>?_
        · rcases hc with rfl | hc
          · exact k _ _ h1 h2 q
          · obtain ⟨h3,h4⟩:=ms c _ hc fun z=>z
            exact k _ _ h3 h4 q
        · obtain ⟨h3,h4⟩:=ms c _ q fun z=>z
          rw [up c h3 h4]; exact q
        · obtain ⟨h3,h4⟩:=ms c _ q fun z=>z
          rw [up c h3 h4]; exact q
def qch (a C:Addr) (dx:Option Addr):Heap→Prop:=fun h=>∃ o vs,h.get? a=some o∧o.cls=.ref C∧o.dict=dx∧o.data=.fields vs
def yce (a C:Addr) (dx:Option Addr):Heap→Prop:=fun h=>∃ o vs,h.get? a=some o∧o.cls=.ref C∧o.dict=dx∧o.data=.fields vs∧vs[1]?=some .none
theorem yce.q {a C:Addr} {dx:Option Addr} {h:Heap} (x:yce a C dx h):qch a C dx h:=by
  obtain ⟨o,vs,e,c,d,dt,_⟩:=x
  exact ⟨o,vs,e,c,d,dt⟩
def ygl (a d:Addr) (fs:List (Str×V)):Heap→Prop:=fun h=>d≠a∧fs.length≤100∧∃ mA,h.Ns1 d mA∧(∀ f,RelO (fs.lookup f) (mA f))∧PySem.Within mA (fs.map (·.1))
def XAt (H:Hp) (a C:Addr) (fs:List (Str×V)):Prop:=(fs=[]∧H a=some (.ext (yce a C none)))∨(∃ d,H a=some (.ext (yce a C (some d)))∧H d=some (.ext (ygl a d fs)))∨
  (fs=[]∧H a=some (.ext (qch a C none)))∨(∃ d,H a=some (.ext (qch a C (some d)))∧H d=some (.ext (ygl a d fs)))
theorem XAt.obj {P:Program} {w:World} {H:Hp} {h:Heap} {a C:Addr} {fs:List (Str×V)} (ok:HOk P w H h) (x:XAt H a C fs):(fs=[]∧qch a C none h)∨∃ d,qch a C (some d) h∧ygl a d fs h:=by
  rcases x with ⟨e,h1⟩ | ⟨d,h1,h2⟩ | ⟨e,h1⟩ | ⟨d,h1,h2⟩
  · exact .inl ⟨e,(ok a _ h1).1.q⟩
  · exact .inr ⟨d,(ok a _ h1).1.q,(ok d _ h2).1⟩
  · exact .inl ⟨e,(ok a _ h1).1⟩
  · exact .inr ⟨d,(ok a _ h1).1,(ok d _ h2).1⟩
theorem yik {P:Program} {w:World} {H:Hp} {h:Heap} {a C:Addr} {dx:Option Addr} (x:qch a C dx h):ybc P w H h a (.ext (qch a C dx)):=by
  obtain ⟨o,vs,e,r⟩:=x
  exact ⟨⟨o,vs,e,r⟩,⟨o,e⟩,fun h1 h2 ⟨o,vs,e,r⟩ k=>⟨o,vs,k o e,r⟩⟩
theorem yh0 {P:Program} {w:World} {H:Hp} {h:Heap} {a C:Addr} {dx:Option Addr} (x:yce a C dx h):ybc P w H h a (.ext (yce a C dx)):=by
  obtain ⟨o,vs,e,r⟩:=x
  exact ⟨⟨o,vs,e,r⟩,⟨o,e⟩,fun h1 h2 ⟨o,vs,e,r⟩ k=>⟨o,vs,k o e,r⟩⟩
theorem qka {P:Program} {w:World} {H:Hp} {h:Heap} {a d:Addr} {fs:List (Str×V)} (x:ygl a d fs h):ybc P w H h d (.ext (ygl a d fs)):=by
  obtain ⟨n,l,mA,⟨o,es,ep,e,r⟩,r2⟩:=id x
  exact ⟨x,⟨o,e⟩,fun h1 h2 ⟨n,l,mA,⟨o,es,ep,e,r⟩,r2⟩ k=>⟨n,l,mA,⟨o,es,ep,k o e,r⟩,r2⟩⟩
theorem XAt.inst {C:Addr} {fs:List (Str×V)} (x:XAt H a C fs) (I:Inv X pins σ H s):∃ mA,s.heap.Inst a C mA∧(∀ f,RelO (fs.lookup f) (mA f))∧PySem.Within mA (fs.map (·.1))∧fs.length≤100:=by
  rcases x.obj I.hok with ⟨rfl,o,vs,e,c,dn,dt⟩ | ⟨d,⟨o,vs,e,c,dn,dt⟩,n,l,mA,n1,r,wi⟩
  · exact ⟨fun _=>none,⟨o,e,c,(by intro c z; rw [dt] at z; cases z),.inl ⟨dn,fun _=>rfl⟩⟩,fun f=>trivial,PySem.Within.nil,by simp⟩
  · exact ⟨mA,⟨o,e,c,(by intro c z; rw [dt] at z; cases z),.inr ⟨d,dn,n,n1⟩⟩,r,wi,l⟩
end
theorem XAt.same {H H':Hp} {a C:Addr} {fs:List (Str×V)} (s:∀ b o,H b=some o→H' b=some o) (x:XAt H a C fs):XAt H' a C fs:=by
  rcases x with ⟨e,h1⟩ | ⟨d,h1,h2⟩ | ⟨e,h1⟩ | ⟨d,h1,h2⟩
  · exact .inl ⟨e,s _ _ h1⟩
  · exact .inr (.inl ⟨d,s _ _ h1,s _ _ h2⟩)
  · exact .inr (.inr (.inl ⟨e,s _ _ h1⟩))
  · exact .inr (.inr (.inr ⟨d,s _ _ h1,s _ _ h2⟩))
end L2
set_option Elab.async false
set_option linter.all false
set_option maxRecDepth 100000
set_option maxHeartbeats 2000000
namespace L2
open PySem PySem.Spec PyProof.Rows PySem.W
structure XOk (K:PySem.W.Frag) (C:Addr):Prop extends XTy K C where
  sa:PySem.W.findIn K (.ref C) "__setattr__" = some (some (.builtin "object.__setattr__"))
def NoF (K:PySem.W.Frag) (C:Addr) (f:Str):Prop:=PySem.W.findIn K (.ref C) f=some none
def XD (H:Hp) (a C:Addr) (dx:Option Addr) (fs:List (Str×V)):Prop:=(dx=none∧fs=[]∧H a=some (.ext (yce a C none)))∨∃ d,dx=some d∧H a=some (.ext (yce a C (some d)))∧H d=some (.ext (ygl a d fs))
theorem XD.xat {H:Hp} {a C:Addr} {dx:Option Addr} {fs:List (Str×V)} (x:XD H a C dx fs):XAt H a C fs:=by
  rcases x with ⟨_,e,h⟩ | ⟨d,_,h1,h2⟩
  · exact .inl ⟨e,h⟩
  · exact .inr (.inl ⟨d,h1,h2⟩)
structure SetX (a d:Addr) (dx:Option Addr) (H H':Hp):Prop where
  dd:dx=some d∨(dx=none∧H d=none)
  kp:∀ b o,H b=some o→b≠a→b≠d→H' b=some o
section
variable {X:Cx} {pins:List (Addr×Obj)} {σ:St} {H:Hp} {s:Shared} {a C:Addr} {dx:Option Addr} {fs:List (Str×V)} {f:Str} {v:V} {u:Value}
theorem ykj {d:Addr} {h':Heap} {mA:Str→Option Value} (hne:d≠a) (hl:fs.length < 100) (n1:h'.Ns1 d fun y=>if y=f then some u else mA y) (r:∀ g,RelO (fs.lookup g) (mA g)) (wi:PySem.Within mA (fs.map (·.1))) (rv:RelV v u):ygl a d (putF f v fs) h':=by
  refine ⟨hne,by have:=yd4 f v fs; omega,_,n1,fun g=>?_,fun g hg=>?_⟩
  · rw [qd5]
    by_cases q:g=f
    · simp only [q,if_true]; exact rv
    · simp only [q,if_false]; exact r g
  · by_cases q:g=f
    · subst q; exact (qdj g v fs).1
    · exact (qdj f v fs).2 g (wi g fun z=>hg (by simp only [q,if_false]; exact z))
theorem setx_ok {E:Value→Shared→Prop} {Q:Unit→Shared→Prop} (I:Inv X pins σ H s) (x:XD H a C dx fs) (c:XOk X.K C) (n:NoF X.K C f) (hl:fs.length < 100) (rv:RelV v u)
    (k:∀ d H' s',Inv X pins σ H' s'→XD H' a C (some d) (putF f v fs)→SetX a d dx H H'→Q () s'):wpAny (model X.prog X.w) X.A (setAttr (.ref a) f u) Q E s:=by
  obtain ⟨mA,inst,r,wi,l⟩:=x.xat.inst I
  have kin:=I.kIn
  obtain ⟨hh,g,dr,t,os⟩:=s
  refine xc_store kin c.cx c.sa n inst (fun h' tk' inst' keep same=>?_) wi (by rw [List.length_map,sizeLine_eq]; omega)
  rcases x with ⟨rfl,rfl,h1⟩ | ⟨d,rfl,h1,h2⟩
  · obtain ⟨⟨o,vs,e,cc,dn,dt,rw1⟩,_⟩:=I.hok a _ h1
    obtain ⟨o1,e1,c1,d1,_,dd1⟩:=same o e
    have dd:=dd1 dn
    obtain ⟨o2,e2,_,_,⟨z,_⟩ | ⟨d2,z,ne2,n2⟩⟩:=inst'
    · rw [e1] at e2; cases e2; rw [dd] at z; cases z
    · rw [e1] at e2; cases e2
      rw [dd] at z; cases z
      have fr:H hh.objs.size=none:=I.hok.fresh (Nat.le_refl _)
      have px:=ykj (a:=a) (v:=v) ne2 hl n2 r wi rv
      have po:yce a C (some hh.objs.size) h':=⟨o1,vs,e1,c1.trans cc,dd,d1.trans dt,rw1⟩
      refine k hh.objs.size (upd (upd H hh.objs.size (.ext (ygl a hh.objs.size (putF f v [])))) a (.ext (yce a C (some hh.objs.size)))) _ (Inv.two I (by rw [h1]; exact True.intro) (.inr (Nat.le_refl _)) ne2 (fun b ob hb hb2 q=>keep b ob hb (fun o0 dx q0 q1=>?_) q) ⟨_,e1⟩ (let ⟨o,_,_,q,_⟩:=n2; ⟨o,q⟩) (yh0 po) (qka px)) (.inr ⟨_,rfl,qab,by rw [qaf ne2]; exact qab⟩) ⟨.inr ⟨rfl,fr⟩,fun b o hb hba _=>?_⟩
      · have q0':hh.get? a=some o0:=q0
        have e':hh.get? a=some o:=e
        rw [e'] at q0'; cases q0'
        rw [dn] at q1; cases q1
      · rw [qaf hba,qaf (qah hb fr)]; exact hb
  · obtain ⟨⟨o,vs,e,cc,dn,dt,rw1⟩,_⟩:=I.hok a _ h1
    obtain ⟨o1,e1,c1,d1,dd1,_⟩:=same o e
    have dd:=dd1 d dn
    obtain ⟨⟨ne0,_⟩,_⟩:=I.hok d _ h2
    obtain ⟨o2,e2,_,_,⟨z,_⟩ | ⟨d2,z,ne2,n2⟩⟩:=inst'
    · rw [e1] at e2; cases e2; rw [dd] at z; cases z
    · rw [e1] at e2; cases e2
      rw [dd] at z; cases z
      have px:=ykj (a:=a) (v:=v) ne2 hl n2 r wi rv
      have po:yce a C (some d) h':=⟨o1,vs,e1,c1.trans cc,dd,d1.trans dt,rw1⟩
      refine k d (upd (upd H d (.ext (ygl a d (putF f v fs)))) a (.ext (yce a C (some d)))) _ (Inv.two I (by rw [h1]; exact True.intro) (.inl (by rw [h2]; exact True.intro)) ne2 (fun b ob hb hb2 q=>keep b ob hb (fun o0 dx q0 q1=>?_) q) ⟨_,e1⟩ (let ⟨o,_,_,q,_⟩:=n2; ⟨o,q⟩) (yh0 po) (qka px)) (.inr ⟨_,rfl,qab,by rw [qaf ne2]; exact qab⟩) ⟨.inl rfl,fun b o hb hba hbd=>?_⟩
      · have q0':hh.get? a=some o0:=q0
        have e':hh.get? a=some o:=e
        rw [e'] at q0'; cases q0'
        rw [dn] at q1; cases q1
        exact hb2
      · rw [qaf hba,qaf hbd]; exact hb
variable {o e value:Expr} {pos pos' p:Pos} {ta tv:TE}
def sXFld (K:PySem.W.Frag) (ta tv:TE) (f:Str):TS:=fun D σ H=>tv σ H fun y H1=>ta σ H1 fun x H2=>∃ a C dx fs,x=.ref a∧XD H2 a C dx fs∧XOk K C∧NoF K C f∧fs.length < 100∧∀ d H3,XD H3 a C (some d) (putF f y fs)→SetX a d dx H2 H3→D.nx σ H3
theorem ps_xfld (ha:PE X o ta) (hv:PE X value tv) (hs:swapsWith value (some (.Attribute o f pos')) pos.line X.env=pure false:=by rfl):PS X (.Assign [.Attribute o f pos'] value pos) (sXFld X.K ta tv f):=by
  intro pins s σ H D I h
  refine plainObj_wpAny_Assign_Attribute (thn (hv pins s σ H _ I h) fun u s1 ⟨y,H1,I1,ry,q⟩=>thn (ha pins s1 σ H1 _ I1 q) fun ov s2 ⟨x,H2,I2,rx,a,C,dx,fs,ex,ea,c,n,l,q2⟩=>?_) hs
  subst ex
  obtain rfl:ov=Value.ref a:=rx
  exact setx_ok I2 ea c n l ry fun d H3 s3 I3 x3 sm=>⟨σ,H3,I3,q2 d H3 x3 sm⟩
end
end L2
set_option Elab.async false
set_option linter.all false
set_option maxRecDepth 100000
set_option maxHeartbeats 2000000
namespace L2
open PySem PySem.Spec PyProof.Rows PySem.W
theorem ybc.ex {P:Program} {w:World} {H:Hp} {h:Heap} {a:Addr} {o:HO} (x:ybc P w H h a o):∃ u,h.get? a=some u:=by
  cases o with
  | lst xs=>obtain ⟨_,_,_,_,e⟩:=x; exact ⟨_,e⟩
  | tup xs=>obtain ⟨_,_,_,ob,e,_⟩:=x; exact ⟨_,e⟩
  | dK kvs=>obtain ⟨_,_,_,_,o,_,_,e,_⟩:=x; exact ⟨_,e⟩
  | dT kvs=>obtain ⟨_,_,_,_,o,_,_,e,_⟩:=x; exact ⟨_,e⟩
  | set S n=>obtain ⟨o,_,_,_,e,_⟩:=x; exact ⟨_,e⟩
  | ins C dx fs=>obtain ⟨_,_,_,e,_⟩:=x; exact ⟨_,e⟩
  | own y=>exact x
  | xd fs=>obtain ⟨_,⟨_,_,_,e,_⟩,_⟩:=x; exact ⟨_,e⟩
  | rng lo hi=>obtain ⟨_,_,_,e⟩:=x; exact ⟨_,e⟩
  | frz ob u=>obtain ⟨e,_⟩:=x; exact ⟨_,e⟩
  | tbl ps=>exact ⟨_,show h.get? a=some _ from x⟩
  | met f y=>exact ⟨_,show h.get? a=some _ from x⟩
  | ext φ=>exact x.2.1
section
variable {X:Cx} {pins:List (Addr×Obj)} {σ:St} {H:Hp} {s:Shared} {h':Heap} {a C:Addr} {oA:HO}
theorem Inv.laidN {t':Nat} (I:Inv X pins σ H s) (k:∀ b u,s.heap.get? b=some u→h'.get? b=some u) (hn:s.heap.get? a=none) (new:ybc X.prog X.w (upd H a oA) h' a oA):H a=none∧Inv X pins σ (upd H a oA) { s with heap:=h',toks:=t' }:=by
  have hH:H a=none:=by
    cases q:H a with
    | none=>rfl
    | some u=>obtain ⟨w,e⟩:=(I.hok a u q).ex; rw [hn] at e; cases e
  have nb:∀ b u,s.heap.get? b=some u→b≠a:=fun b u e z=>by rw [z,hn] at e; cases e
  refine ⟨hH,I.un ⟨fun b u e _ _ _=>k b u e,fun b u e _ _ _=>⟨u.slots,k b u e⟩,fun b u e n _=>by rw [qaf (nb b u e)]; exact n,fun b u e _=>⟨u,k b u e⟩,fun b xs e=>by rw [qaf (qah e hH)]; exact e,
    fun b u xs e=>by rw [qaf (qah e hH)]; exact e,fun b ps e=>⟨#[],by rw [qaf (qah e hH),e]; simp⟩⟩ fun b u e=>?_⟩
  by_cases hb:b=a
  · subst hb; rw [qab] at e; cases e; exact new
  · rw [qaf hb] at e
    exact (I.hok b u e).stay (fun c v _ q=>k c v q) (fun c q=>by rw [qaf (qah q hH)]; exact q) fun c xs q=>by rw [qaf (qah q hH)]; exact q
theorem Inv.madeX {rest:List Value} {t':Nat} (I:Inv X pins σ H s) (m:Heap.MadeExcOf s.heap h' a (.ref C) rest):H a=none∧Inv X pins σ (upd H a (.ext (yce a C none))) { s with heap:=h',toks:=t' }:=by
  obtain ⟨tt,e,_⟩:=m.there
  exact I.laidN m.keeps m.new (yh0 ⟨_,_,e,rfl,rfl,rfl,rfl⟩)
variable {x:Str} {e:Expr} {es:List Expr} {p pos:Pos} {t:TA}
def yjd (C:Addr) (t:TA):TE:=fun σ H Q=>t σ H fun vs H1=>vs.length≤sizeLine∧∀ a,H1 a=none→Q (.ref a) (upd H1 a (.ext (yce a C none)))
theorem qkm (q:PySem.W.excIn X.K C bmV "ValueError.__new__" = true) (kp:PySem.W.keepIn X.K (.ref C)=true) (hg:Gl X x) (hm:X.mg x=some (.ref C)) (ha:PA X (e :: es) t) (hdb:(x == ("__debug__" : Str))=false:=by decide)
    (he:starEach (e :: es) X.env=(false,eval e X.env) :: starEach es X.env:=by rfl) (hpl:(backTo pos (starEach es X.env)).any (·.1)=false:=by rfl):PE X (.Call (.Name x p) (e :: es) [] pos) (yjd C t):=by
  intro pins s σ H Q I h
  refine wpAny_Call_Name_kw (qdz I hg hm ?_ hdb)
  refine PySem.W.callWith_K (h₀:=X.base) I.ok.mod.kin kp (thn (ha pos pins s σ H _ I h) fun us s1 ⟨vs,H1,I1,r,hl,hq⟩=>⟨I1.kIn,?_⟩) he hpl
  have kin:=I1.kIn
  obtain ⟨hh,g,dr,tk,os⟩:=s1
  refine xc_call0 kin q (fun h2 a m=>?_) (by rw [List.nil_append,← r.length]; exact hl)
  obtain ⟨hn,I2⟩:=Inv.madeX (t':=tk) I1 m
  exact ⟨.ref a,_,I2,rfl,hq a hn⟩
variable {k:Nat} {f:Addr} {fd:FuncData} {ps:List Str} {sp:Sp}
def tXMake (C:Addr) (sp:Sp) (t:TA):TE:=fun σ H Q=>t σ H fun vs H1=>vs.length≤sizeLine∧∀ a,H1 a=none→sp (.ref a :: vs) (upd H1 a (.ext (yce a C none))) (fun v H2=>v=.non∧Q (.ref a) H2) E0
theorem pe_xmake (c:XOk X.K C) (hi:PySem.W.findIn X.K (.ref C) "__init__" = some (some (.ref f))) (hf:PySem.W.isFn X.K (.ref f)=true) (F:FnOk X.prog X.w X.K X.mg X.base CX0 k f fd ps sp) (hr:Room (k + 1) X.A) (hb:qcv X.K fd ps []) (kp:PySem.W.keepIn X.K (.ref C)=true)
    (hg:Gl X x) (hm:X.mg x=some (.ref C)) (ha:PA X (e :: es) t) (hdb:(x == ("__debug__" : Str))=false:=by decide)
    (he:starEach (e :: es) X.env=(false,eval e X.env) :: starEach es X.env:=by rfl) (hpl:(backTo pos (starEach es X.env)).any (·.1)=false:=by rfl):PE X (.Call (.Name x p) (e :: es) [] pos) (tXMake C sp t):=by
  intro pins s σ H Q I h
  refine wpAny_Call_Name_kw (qdz I hg hm ?_ hdb)
  refine PySem.W.callWith_K (h₀:=X.base) I.ok.mod.kin kp (thn (ha pos pins s σ H _ I h) fun us s1 ⟨vs,H1,I1,r,hl,hq⟩=>⟨I1.kIn,?_⟩) he hpl
  have kin:=I1.kIn
  obtain ⟨hh,g,dr,tk,os⟩:=s1
  refine xc_call kin c.cx hi hf (fun h2 a m=>?_) (by rw [List.nil_append,← r.length]; exact hl)
  obtain ⟨hn,I2⟩:=Inv.madeX (t':=tk) I1 m
  have hsp:=hq a hn
  have r2:Vals (V.ref a :: vs) (Value.ref a :: us):=.cons rfl r
  have hlen:(Value.ref a :: us).length=ps.length:=by rw [← r2.length]; exact F.len _ _ _ _ hsp
  have hlen2:((Value.ref a :: us)++[]).length=ps.length:=by rw [List.append_nil]; exact hlen
  have bb:=hb _ (Value.ref a :: us) I2.kIn hlen2
  rw [List.append_nil] at bb
  refine wpAny_call (codeAny_mono (F.run _ X.stack _ _ ⟨Value.ref a :: us,[]⟩ (Value.ref a :: us) _ _ E0 (hr.make C us []) (I2.env0.make C us []) bb r2 hsp) fun r s' hq'=>?_)
  cases r with
  | error e=>exact hq'.elim
  | ok fl=>
    cases fl with
    | ret u=>
      obtain ⟨v,H',I3,rv,ev,q3⟩:=I2.after hq'
      subst ev
      exact ⟨rv,⟨V.ref a,H',I3,rfl,q3⟩⟩
    | next=>exact False.elim hq'
    | brk=>exact False.elim hq'
    | cont=>exact False.elim hq'
theorem XAt.at {fs:List (Str×V)} (x:XAt H a C fs) (I:Inv X pins σ H s):∃ ox od,PySem.W.InstAt s.heap a ox C od:=by
  rcases x.obj I.hok with ⟨rfl,o,vs,e,c,dn,dt⟩ | ⟨d,⟨o,vs,e,c,dn,dt⟩,n,l,mA,⟨od,_,_,ed,_⟩,r,wi⟩
  · exact ⟨o,none,e,c,by unfold PySem.W.notCls; rw [dt],by rw [dn]; trivial⟩
  · exact ⟨o,some od,e,c,by unfold PySem.W.notCls; rw [dt],by rw [dn]; exact ed⟩
def vcls:V→Value
  | .ref c=>.ref c
  | .ty n=>.type n
  | _=>.none
def rIsiX (K:PySem.W.Frag):List V→Hp→VK→Prop:=fun xs H Q=>∃ a C fs c b,xs=[.ref a,c]∧((∃ d,c=.ref d)∨∃ n,c=.ty n)∧XAt H a C fs∧XTy K C∧PySem.W.kitOne K (.ref C) (vcls c)=some b∧Q (.bl b) H
theorem ybi:yds X (.builtin "isinstance") (rIsiX X.K):=by
  intro pins s σ H xs us Q I r h
  obtain ⟨a,C,fs,c,b,rfl,hc,hx,T,hk,q⟩:=h
  cases r with
  | cons r rr=>
    cases rr with
    | cons r' rr=>
      cases rr
      cases r
      have hcv:∃ cv,vcls c=cv∧RelV c cv:=by
        rcases hc with ⟨d,rfl⟩ | ⟨n,rfl⟩
        · exact ⟨_,rfl,rfl⟩
        · exact ⟨_,rfl,rfl⟩
      obtain ⟨cv,e1,e2⟩:=hcv
      rw [e1] at hk
      rename_i u2
      have e3:u2=cv:=by
        rcases hc with ⟨d,rfl⟩ | ⟨n,rfl⟩
        · exact (show u2=Value.ref d from r').trans (show cv=Value.ref d from e2).symm
        · exact (show u2=Value.type n from r').trans (show cv=Value.type n from e2).symm
      subst e3
      exact PySem.W.kia_one (kitx_xc T) I.kIn (hx.at I) hk (fun z=>nomatch z) fun tk=>⟨.bl b,H,I.tok _,rfl,q⟩
end
end L2
set_option Elab.async false
set_option linter.all false
set_option maxRecDepth 100000
namespace L2
open PySem PySem.Spec PyProof.Rows
theorem Vals.bls:∀ {bs:List Bool} {us:List Value},Vals (bs.map V.bl) us→us=bs.map Value.bool
  | [],_,.nil=>rfl
  | b :: bs,_,.cons r t=>by
    have e:=Vals.bls t
    cases r
    rw [e]
    rfl
def isB (b:Bool):Value→Bool
  | .bool c=>c == b
  | _=>false
theorem yjq (b:Bool) (bs:List Bool):(bs.map Value.bool).countP (isB b)=bs.count b:=by
  rw [List.countP_map]
  rfl
theorem isB_at {A:Around} {s:Shared} (b:Bool) (bs:List Bool):∀ y,y∈(bs.map Value.bool).toArray→SeqAt.EqAt A s y (.bool b) (isB b y):=by
  intro y hy
  obtain ⟨c,_,e⟩:=List.mem_map.mp (by simpa using hy:y∈bs.map Value.bool)
  subst e
  exact SeqAt.EqAt.bool_bool c b
section
variable {X:Cx}
def rCountB:V→List V→Hp→VK→Prop:=fun x vs H Q=>∃ (l:Addr) (bs:List Bool) (b:Bool),x=.ref l∧vs=[.bl b]∧H l=some (.lst (bs.map V.bl))∧Q (.int (bs.count b:Nat)) H
theorem yjv:MtM X "list.count" rCountB:=by
  intro pins s σ H x vs v us Q I rx rv h
  obtain ⟨l,bs,b,rfl,rfl,hH,q⟩:=h
  cases rx
  obtain ⟨u,rfl,ru⟩:=rv.one
  cases ru
  obtain ⟨z,its,n,r,hl,e⟩:=I.lstM hH
  have hi:=r.bls
  subst hi
  refine call_meets F.slot_list_count ⟨_,e,rfl⟩ F.entry_list_count (F.args_list_count_2 _ _) (SeqAt.list_countAt l _ n _ _ (.bool b) (isB b)) ⟨e,isB_at b bs,?_⟩
  rw [List.toList_toArray,yjq]
  exact ⟨.int (bs.count b:Nat),_,I.tok _,⟨_,rfl⟩,q⟩
def rIndexB:V→List V→Hp→VK→Prop:=fun x vs H Q=>∃ (l:Addr) (bs:List Bool) (b:Bool) (j:Nat),x=.ref l∧vs=[.bl b]∧H l=some (.lst (bs.map V.bl))∧bs[j]?=some b∧(∀ m,m < j→bs[m]?≠some b)∧Q (.int (j:Nat)) H
theorem yjg:MtM X "list.index" rIndexB:=by
  intro pins s σ H x vs v us Q I rx rv h
  obtain ⟨l,bs,b,j,rfl,rfl,hH,hj,hno,q⟩:=h
  cases rx
  obtain ⟨u,rfl,ru⟩:=rv.one
  cases ru
  obtain ⟨z,its,n,r,hl,e⟩:=I.lstM hH
  have hi:=r.bls
  subst hi
  obtain ⟨hjl,hjb⟩:=List.getElem?_eq_some_iff.mp hj
  rw [List.length_map] at z
  have hz:(sizeLine:Nat) < 2 ^ 63 - 1:=by decide
  refine call_meets F.slot_list_index ⟨_,e,rfl⟩ F.entry_list_index (F.args_list_index_2 _ _)
    (SeqAt.list_indexAt l _ n _ _ (.bool b) (isB b) j (by rw [List.size_toArray,List.length_map]; exact hjl) (by omega) ?_ fun m hm hlt=>?_) ⟨e,isB_at b bs,⟨.int (j:Nat),_,I.tok _,⟨_,rfl⟩,q⟩⟩
  · rw [List.getElem_toArray,List.getElem_map]
    show (bs[j] == b)=true
    rw [hjb]
    exact beq_self_eq_true b
  · rw [List.getElem_toArray,List.getElem_map]
    show (bs[m] == b)=false
    refine beq_eq_false_iff_ne.mpr fun q=>hno m hlt ?_
    rw [List.getElem?_eq_getElem (by omega),q]
end
end L2
set_option linter.all false
namespace Mx
open PySem L2 PyProof.Rows
section
variable {X:Cx} {es:List Expr} {te:TE} {t:TA} {pos:Pos}
theorem pa_cs {k:Const} {j} (ha:PE X (.Constant k j pos) te) (hr:PA X es t):PA X (.Constant k j pos :: es) (yc8 te t):=yaa ha hr rfl
theorem yhm {x:Str} (ha:PE X (.Name x pos) te) (hr:PA X es t):PA X (.Name x pos :: es) (yc8 te t):=yaa ha hr rfl
theorem pa_cl {f xs ks} (ha:PE X (.Call f xs ks pos) te) (hr:PA X es t):PA X (.Call f xs ks pos :: es) (yc8 te t):=yaa ha hr rfl
def yhe:List Expr→Option (List Str)
  | []=>some []
  | .Constant (.str x) _ _ :: r=>(yhe r).map (x :: ·)
  | _=>none
theorem qhi {X:Cx}:∀ {es:List Expr} {xs:List Str},yhe es=some xs→PA X es (fun _ H Q=>Q (xs.map V.str) H)
  | [],xs,h=>by
    cases h
    exact yac
  | .Constant (.str x) j p :: r,xs,h=>by
    rw [yhe] at h
    obtain ⟨ys,hy,rfl⟩:=Option.map_eq_some_iff.mp h
    exact pa_cs yan (qhi hy)
def tStrs (xs:List Str):TE:=fun _ H Q=>xs.length≤sizeLine∧∀ p,H p=none→Q (.ref p) (upd H p (.lst (xs.map V.str)))
theorem pe_strs {xs:List Str} (h:yhe es=some xs):PE X (.List es pos) (tStrs xs):=by
  intro pins s σ H Q I hq
  refine qd7 (qhi h) pins s σ H Q I ?_
  exact ⟨by rw [List.length_map]; exact hq.1,hq.2⟩
end
structure QS (X:Cx) (st:Stmt) (t:TS):Prop where
  of:PS X st t
structure QSs (X:Cx) (ss:List Stmt) (t:TS):Prop where
  of:PSs X ss t
section
variable {X:Cx} {st:Stmt} {rest a b:List Stmt} {t u:TS} {pos:Pos} {e:Expr} {te:TE}
theorem qss_lit {ss:List Stmt} (h:ss=st :: rest) (p:QSs X (st :: rest) t):PSs X ss t:=h ▸ p.of
theorem qat:QSs X [] tNext:=⟨qbr⟩
theorem qae (h:QS X st t):QSs X [st] t:=⟨yaj h.of⟩
theorem yad (h:QS X st t) (r:QSs X rest u):QSs X (st :: rest) (tSeq t u):=⟨qar h.of r.of⟩
theorem yky (h:QS X st t) (r:QSs X rest u):QSs X (st :: rest) (tCut t u):=⟨pss_cut h.of r.of⟩
theorem yd1 (h:PS X st t):QS X st t:=⟨h⟩
theorem qs_if {c:Expr} {tc:TT} (hc:PT X c tc) (ha:QSs X a t) (hb:QSs X b u):QS X (.If c a b pos) (tIfS tc t u):=⟨ydg hc ha.of hb.of⟩
theorem qs_ret (he:PE X e te):QS X (.Return (some e) pos) (tRet te):=⟨qbc he⟩
theorem yj8 {i:Nat} {x:Str} {pos':Pos} (hN:X.N.Nodup) (hi:X.N[i]?=some x) (hx:Loc X.env.scope x) (he:PE X e te) (hs:swapsWith e (some (.Name x pos')) pos.line X.env=pure false:=by rfl) (hf:X.fn x=true∨X.env.scope.names.lookup x=some .local:=by first | exact .inl rfl | exact .inr rfl | assumption) :
    QS X (.Assign [.Name x pos'] e pos) (tAsg te (yfw i)):=⟨yca hN hi hx he hs hf⟩
end
end Mx
set_option Elab.async false
set_option linter.all false
set_option maxRecDepth 100000
set_option Elab.async false
set_option linter.all false
set_option maxRecDepth 100000
namespace L2
open PySem PySem.Spec PyProof.Rows PyProof.Rows.KTD
def TabK (K:PySem.W.Frag) (a:Addr) (D:List (Str×List V)):Prop:=
  (a == sysModules)=false∧∃ o es ep,K.lookup a=some o∧o.ExactDict∧o.data=.dict es ep∧KTD.Rows (fun xs v=>∃ p,v=.ref p∧∀ H,SqT K H p xs) es.toList D
section
variable {prog:Program} {w:World} {A:Around} {E:Value→Shared→Prop} {s:Shared} {a:Addr} {k:Str} {tk:Tok} {o:Obj} {es:Array DictEntry} {ep:Nat}
theorem yfc {Q:Option Value→Shared→Prop} (g:s.heap.get? a=some o) (gd:o.data=.dict es ep) (ge:(es.toList.all fun e=>isExactStrKey e.key)=true)
    (q:Q ((es.toList.find? fun e=>e.key.isStr k).map (·.val)) { s with toks:=s.toks + 1 }):wpAny (model prog w) A (dictGet a (.str k tk)) Q E s:=by
  obtain ⟨l⟩:=es
  have q2:Q (findBy (fun k v=>v.isStr k) ⟨l⟩ k) { s with toks:=s.toks + 1 }:=by
    rw [show findBy (fun k v=>v.isStr k) (⟨l⟩:Array DictEntry) k=(l.find? fun e=>e.key.isStr k).map (·.val) by simp [findBy]]
    exact q
  unfold dictGet
  try with_reducible refine wpAny_holding ?_
  refine wpAny_bind (wpAny_pyHash_str ?_)
  refine wpAny_bind ?_
  refine kt_dictFind_strs (s:={ s with toks:=s.toks + 1 }) g gd (by simpa using ge) ?_
  rw [findBy_of_findIdx?] at q2
  revert q2
  cases (⟨l⟩:Array DictEntry).findIdx? fun e=>e.key.isStr k with
  | none=>intro q2; exact wpAny_pure q2
  | some i=>intro q2; refine wpAny_bind ?_; exact wpAny_dictEntries (s:={ s with toks:=s.toks + 1 }) g gd (wpAny_pure q2)
end
section
variable {X:Cx} {pins:List (Addr×Obj)} {σ:St} {H:Hp} {s:Shared} {a:Addr} {D:List (Str×List V)}
theorem TabK.dict (I:Inv X pins σ H s) (T:TabK X.K a D):s.TypeIs (.ref a) "dict"∧∀ b,Value.ref a=.ref b→∃ ob,s.heap.get? b=some ob∧ob.dict=none:=by
  obtain ⟨_,o,es,ep,hl,hx,hd,hr⟩:=T
  refine ⟨⟨o,I.kIn a o hl,hx.1⟩,fun b e=>?_⟩
  cases e
  exact ⟨o,I.kIn a o hl,hx.2.1⟩
theorem TabK.ask {k:Str} {tk:Tok} {E:Value→Shared→Prop} {A:Around} {Q:Option Value→Shared→Prop} (I:Inv X pins σ H s) (T:TabK X.K a D)
    (h1:∀ xs p,datumAt k D=some xs→(∀ H,SqT X.K H p xs)→Q (some (.ref p)) { s with toks:=s.toks + 1 }) (h2:datumAt k D=none→Q none { s with toks:=s.toks + 1 }):wpAny (model X.prog X.w) A (dictGet a (.str k tk)) Q E s:=by
  obtain ⟨_,o,es,ep,hl,hx,hd,hr⟩:=T
  refine yfc (I.kIn a o hl) hd hr.exact ?_
  cases hat:datumAt k D with
  | some xs=>
    obtain ⟨v,hv,p,rfl,hp⟩:=hr.find_some hat
    rw [hv]
    exact h1 xs p hat hp
  | none=>rw [hr.find_none hat]; exact h2 hat
def rIxTab (K:PySem.W.Frag) (D:List (Str×List V)):R2:=fun x y H Q=>∃ a k xs,x=.ref a∧y=.str k∧TabK K a D∧datumAt k D=some xs∧∀ p,(∀ H,SqT K H p xs)→Q (.ref p) H
theorem qim:IxR X (rIxTab X.K D):=by
  intro value slice pins s σ H x y v u Q I rx ry h hs
  obtain ⟨a,k,xs,rfl,rfl,T,hd,q⟩:=h
  cases rx
  obtain ⟨tk,rfl⟩:=ry
  obtain ⟨hsm,o,es,ep,hl,hx,hd2,hr⟩:=id T
  obtain ⟨v,hv,p,rfl,hp⟩:=hr.find_some hd
  have fin:EP X pins σ Q (.ref p) { s with toks:=s.toks + 1 }:=⟨.ref p,H,I.tok _,rfl,q p hp⟩
  refine subscriptTail_builtinR (x:=.ref p) (T.dict I).1 slot_dict_getitem.lookup ?_ hs
  unfold getItem
  try with_reducible refine wpAny_holding ?_
  refine wpAny_bind (wpAny_sequenceKey (T.dict I).1 (by decide) ?_)
  refine wpAny_bind (wpAny_callSpecial?_slot (name:=Str.ofString "__getitem__") (T.dict I).1 slot_dict_getitem (wpAny_call_entry slot_dict_getitem (T.dict I).1 entry_dict_getitem ?_ (args_dict_getitem _ _)))
  show wpAny _ _ (dictGet a (.str k tk) >>= _) _ _ _
  refine wpAny_bind (yfc (I.kIn a o hl) hd2 hr.exact ?_)
  rw [hv]
  exact wpAny_pure ⟨_,rfl,wpAny_pure ⟨rfl,fin⟩⟩
def rInTab (K:PySem.W.Frag) (D:List (Str×List V)):R2:=fun x y H Q=>∃ a k,x=.str k∧y=.ref a∧TabK K a D∧Q (.bl (inKeys k D)) H
theorem qid:OpR X (compareOp .In) (rInTab X.K D):=by
  intro pins s σ H x y v u Q I rx ry h
  obtain ⟨a,k,rfl,rfl,T,q⟩:=h
  cases ry
  obtain ⟨tk,rfl⟩:=rx
  show wpAny _ _ (contains (.ref a) (.str k tk) >>= fun c=>pure (Value.bool c)) _ _ s
  refine wpAny_bind ?_
  unfold contains
  try with_reducible refine wpAny_holding ?_
  refine wpAny_bind (wpAny_specialOf (T.dict I).1 slot_dict_contains.lookup ?_)
  show wpAny _ _ (if (some (Value.builtin "dict.__contains__") == some Value.none)=true then _ else _) _ _ s
  rw [if_neg (by rw [beq_builtin_none]; exact Bool.false_ne_true)]
  refine wpAny_bind (wpAny_callSpecialUnlessNone?_slot (name:=Str.ofString "__contains__") (T.dict I).1 slot_dict_contains (wpAny_call_entry slot_dict_contains (T.dict I).1 entry_dict_contains ?_ (args_dict_contains _ _)))
  show wpAny _ _ (dictGet a (.str k tk) >>= _) _ _ _
  refine wpAny_bind (T.ask I (fun xs p hd hp=>?_) fun hn=>?_)
  · have e:inKeys k D=true:=by rw [← isSome_datumAt,hd]; rfl
    rw [e] at q
    show wpAny _ _ (ret (.bool true)) _ _ _
    exact wpAny_pure ⟨_,rfl,wpAny_truthy_bool (wpAny_pure ⟨.bl true,H,I.tok _,rfl,q⟩)⟩
  · have e:inKeys k D=false:=by rw [← isSome_datumAt,hn]; rfl
    rw [e] at q
    show wpAny _ _ (Builtin.Dict.pendingKey? a (.str k tk) >>= _) _ _ _
    exact wpAny_bind (wpAny_pendingKey_other T.1 (wpAny_pure ⟨_,rfl,wpAny_truthy_bool (wpAny_pure ⟨.bl false,H,I.tok _,rfl,q⟩)⟩))
end
end L2
set_option Elab.async false
set_option linter.all false
set_option maxRecDepth 100000
set_option Elab.async false
set_option linter.all false
set_option maxRecDepth 100000
namespace L2
open PySem PySem.Spec PyProof.Rows
open Builtin.SmallTypes (nextOf)
def SIt (h:Heap) (tp:Bool) (q l:Addr) (i:Nat):Prop:=if tp then IsTupIter h q l i else h.IsListIter q l i
def SOf (h:Heap) (tp:Bool) (l:Addr) (its:Array Value):Prop:=if tp then IsTup h l its else h.IsList l its
section
variable {prog:Program} {w:World} {A:Around} {E:Value→Shared→Prop} {s:Shared} {q l:Addr} {i:Nat} {its:Array Value}
theorem SIt.at {h h':Heap} {tp:Bool} (x:SIt h tp q l i) (k:∀ o,h.get? q=some o→h'.get? q=some o):SIt h' tp q l i:=by
  cases tp with
  | true=>obtain ⟨o,g,r⟩:=x; exact ⟨o,k o g,r⟩
  | false=>obtain ⟨o,g,r⟩:=x; exact ⟨o,k o g,r⟩
theorem SIt.obj {h:Heap} {tp:Bool} (x:SIt h tp q l i):∃ o,h.get? q=some o∧∀ v,o.data≠.cell v:=by
  cases tp with
  | true=>obtain ⟨o,g,c,d⟩:=x; exact ⟨o,g,fun v z=>by rw [d] at z; cases z⟩
  | false=>obtain ⟨o,g,c,d⟩:=x; exact ⟨o,g,fun v z=>by rw [d] at z; cases z⟩
theorem SOf.at {h h':Heap} {tp:Bool} (x:SOf h tp l its) (k:∀ o,h.get? l=some o→h'.get? l=some o):SOf h' tp l its:=by
  cases tp with
  | true=>obtain ⟨o,g,r⟩:=x; exact ⟨o,k o g,r⟩
  | false=>obtain ⟨o,g,r⟩:=x; exact ⟨o,k o g,r⟩
theorem qd1 {tp:Bool} {x:Value} {Q:Value→Shared→Prop} (hq:SIt s.heap tp q l i) (hl:SOf s.heap tp l its) (hx:its[i]?=some x)
    (k:∀ h',SIt h' tp q l (i + 1)→Heap.SameBut q s.heap h'→Q x { s with heap:=h' }):wpAny (model prog w) A (nextOf (.ref q)) Q E s:=by
  cases tp with
  | false=>exact wpAny_nextOf_list_item hq hl hx k
  | true=>
    have hq':IsTupIter s.heap q l i:=hq
    obtain ⟨o,go,gc,gd⟩:=id hq'
    obtain ⟨ol,gl,_,nl,gdl⟩:=(show IsTup s.heap l its from hl)
    unfold Builtin.SmallTypes.nextOf
    refine wpAny_bind (wpAny_callSpecial?_slot (name:=Str.ofString "__next__") hq'.typeIs slot_tupleiter_next (wpAny_call_entry slot_tupleiter_next hq'.typeIs entry_tupleiter_next ?_ (args_tupleiter_next _)))
    show wpAny _ _ (field (.ref q) 0 >>= _) _ _ s
    refine wpAny_bind (wpAny_field go gd (x:=.ref l) rfl ?_)
    show wpAny _ _ (if (Value.ref l == Value.none)=true then _ else _) _ _ s
    rw [if_neg (by exact Bool.false_ne_true:¬ ((Value.ref l == Value.none)=true))]
    show wpAny _ _ (field (.ref q) 1 >>= _) _ _ s
    refine wpAny_bind (wpAny_field go gd (x:=.int i 0) rfl ?_)
    show wpAny _ _ (seqItems? (.ref l) >>= _) _ _ s
    refine wpAny_bind (wpAny_seqItems gl gdl ?_)
    simp only [Int.toNat_natCast,hx]
    refine wpAny_bind (wpAny_setField go gd (by simp) (wpAny_pure ⟨x,rfl,?_⟩))
    refine wpAny_pure (k _ ?_ (Heap.SameBut.update ..))
    exact ⟨_,Heap.get?_update_self _ go (Obj.isFreed_of_fields (Obj.data_mapFields gd _)),(Obj.cls_mapFields ..).trans gc,by rw [Obj.data_mapFields gd]; simp [rawInt]⟩
theorem yf3 {tp:Bool} {Q:Value→Shared→Prop} (hh:A.handled=none) (hq:SIt s.heap tp q l i) (hl:SOf s.heap tp l its) (hx:its[i]?=none)
    (k:∀ h' e,Heap.ExtBut q s.heap h'→(∃ o,h'.get? e=some o∧o.cls=.type "StopIteration")→E (.ref e) { s with heap:=h' }):wpAny (model prog w) A (nextOf (.ref q)) Q E s:=by
  cases tp with
  | false=>exact wpAny_nextOf_list_end hh hq hl hx k
  | true=>
    have hq':IsTupIter s.heap q l i:=hq
    obtain ⟨o,go,gc,gd⟩:=id hq'
    obtain ⟨ol,gl,_,nl,gdl⟩:=(show IsTup s.heap l its from hl)
    unfold Builtin.SmallTypes.nextOf
    refine wpAny_bind (wpAny_callSpecial?_slot (name:=Str.ofString "__next__") hq'.typeIs slot_tupleiter_next (wpAny_call_entry slot_tupleiter_next hq'.typeIs entry_tupleiter_next ?_ (args_tupleiter_next _)))
    show wpAny _ _ (field (.ref q) 0 >>= _) _ _ s
    refine wpAny_bind (wpAny_field go gd (x:=.ref l) rfl ?_)
    show wpAny _ _ (if (Value.ref l == Value.none)=true then _ else _) _ _ s
    rw [if_neg (by exact Bool.false_ne_true:¬ ((Value.ref l == Value.none)=true))]
    show wpAny _ _ (field (.ref q) 1 >>= _) _ _ s
    refine wpAny_bind (wpAny_field go gd (x:=.int i 0) rfl ?_)
    show wpAny _ _ (seqItems? (.ref l) >>= _) _ _ s
    refine wpAny_bind (wpAny_seqItems gl gdl ?_)
    simp only [Int.toNat_natCast,hx]
    refine wpAny_bind (wpAny_rule ?_)
    refine wpAny_bind (wpAny_setField go gd (by simp) ?_)
    show wpAny _ _ (newExc (.type "StopIteration") [] >>= _) _ _ _
    refine wpAny_bind ?_
    simp only [newExc,newTuple]
    refine wpAny_bind (wpAny_newObj_type ?_ (by size_fits))
    refine wpAny_bind (m:=firstArgMember _ _) ?_
    refine wpAny_of_eq (a:=Value.none) (by first | rfl | (simp only [firstArgMember]; rfl)) ?_
    refine wpAny_newObj_type ?_ (by size_fits)
    simp only [raiseNew]
    refine wpAny_bind (wpAny_handled ?_)
    first | rw [show A.in1.handled=none from hh] | rw [hh]
    refine wpAny_bind (wpAny_pure (wpAny_throw ?_))
    exact k _ _ (((Heap.SameBut.update ..).extBut.push _).push _) ⟨_,Heap.get?_push_size _ rfl,rfl⟩
theorem neN {a b:Nat} (h:a < b∨b < a):a≠b:=by omega
theorem zipNext {n l1 l2 k:Nat} {xs ys:Array Value} {x y a b:Value} {t1 t2:Bool} {Q:Value→Shared→Prop} (b1:l1 < n) (b2:l2 < n) (gz:IsZip s.heap (n + 4) (n + 2) (n + 3) .none) (gi:IsPair s.heap (n + 2) (.ref n) (.ref (n + 1))) (go:IsPair s.heap (n + 3) a b)
    (q1:SIt s.heap t1 n l1 k) (q2:SIt s.heap t2 (n + 1) l2 k) (o1:SOf s.heap t1 l1 xs) (o2:SOf s.heap t2 l2 ys) (hx:xs[k]?=some x) (hy:ys[k]?=some y)
    (kk:∀ h',IsZip h' (n + 4) (n + 2) (n + 3) (rawInt s.heap.objs.size)→IsPair h' (n + 3) x y→SIt h' t1 n l1 (k + 1)→SIt h' t2 (n + 1) l2 (k + 1)→IsPair h' s.heap.objs.size x y→h'.objs.size=s.heap.objs.size + 1→
      (∀ c o,c≠n + 4→c≠n + 3→c≠n→c≠n + 1→s.heap.get? c=some o→h'.get? c=some o)→Q (.ref s.heap.objs.size) { s with heap:=h' }) :
    wpAny (model prog w) A (Builtin.«zip.__next__» ⟨[.ref (n + 4)],[]⟩) (fun fin s'=>∃ v,fin=.done (.ret v)∧Q v s') E s:=by
  show wpAny _ _ (field (.ref (n + 4)) 2 >>= _) _ _ _
  refine wpAny_bind (wpAny_field gz rfl (x:=.bool false) rfl ?_)
  show wpAny _ _ (field (.ref (n + 4)) 3 >>= _) _ _ _
  refine wpAny_bind (wpAny_field gz rfl (x:=.ref (n + 2)) rfl ?_)
  refine wpAny_bind (wpAny_seqItems gi rfl ?_)
  show wpAny _ _ (Builtin.SmallTypes.ownedTupleIsFree (.ref (n + 4)) >>= _) _ _ _
  refine wpAny_bind ?_
  unfold Builtin.SmallTypes.ownedTupleIsFree
  refine wpAny_bind (wpAny_field gz rfl (x:=.none) rfl ?_)
  refine wpAny_pure ?_
  simp only [if_true]
  refine wpAny_bind (wpAny_rule ?_)
  refine wpAny_bind (wpAny_field gz rfl (x:=.ref (n + 3)) rfl ?_)
  refine wpAny_bind (wpAny_setField_rec gz (by simp) fun m1 gz1 e1=>?_)
  replace gz1:IsZip m1 (n + 4) (n + 2) (n + 3) .ellipsis:=gz1
  refine wpAny_bind ?_
  simp only [List.zipIdx_cons,List.zipIdx_nil,List.forIn_cons,List.forIn_nil]
  refine wpAny_bind (wpAny_bind ?_)
  refine wpAny_onRaise ?_
  show wpAny _ _ (nextOf (.ref n) >>= _) _ _ _
  refine wpAny_bind (qd1 (q1.at fun o g=>e1.extBut _ _ (neN (by omega)) g) (o1.at fun o g=>e1.extBut _ _ (neN (by omega)) g) hx fun m2 r1 e2=>?_)
  refine wpAny_pure ?_
  have go2:IsPair m2 (n + 3) a b:=e2.extBut _ _ (neN (by omega)) (e1.extBut _ _ (neN (by omega)) go)
  refine wpAny_bind (wpAny_seqItems go2 rfl ?_)
  refine wpAny_bind (wpAny_updateSeq_pair go2 fun m3 go3 e3=>?_)
  replace go3:IsPair m3 (n + 3) x b:=go3
  refine wpAny_bind (wpAny_letGo ?_)
  refine wpAny_pure ?_
  refine wpAny_bind (wpAny_bind ?_)
  refine wpAny_onRaise ?_
  show wpAny _ _ (nextOf (.ref (n + 1)) >>= _) _ _ _
  refine wpAny_bind (qd1 (q2.at fun o g=>e3.extBut _ _ (neN (by omega)) (e2.extBut _ _ (neN (by omega)) (e1.extBut _ _ (neN (by omega)) g))) (o2.at fun o g=>e3.extBut _ _ (neN (by omega)) (e2.extBut _ _ (neN (by omega)) (e1.extBut _ _ (neN (by omega)) g))) hy fun m4 r2 e4=>?_)
  refine wpAny_pure ?_
  have go4:IsPair m4 (n + 3) x b:=e4.extBut _ _ (neN (by omega)) go3
  refine wpAny_bind (wpAny_seqItems go4 rfl ?_)
  refine wpAny_bind (wpAny_updateSeq_pair go4 fun m5 go5 e5=>?_)
  replace go5:IsPair m5 (n + 3) x y:=go5
  refine wpAny_bind (wpAny_letGo ?_)
  refine wpAny_pure (wpAny_pure ?_)
  refine wpAny_bind (wpAny_seqItems go5 rfl ?_)
  refine wpAny_bind (wpAny_newTuple ?_)
  have hsz:m5.objs.size=s.heap.objs.size:=by rw [e5.1,e4.1,e3.1,e2.1,e1.1]
  have gz5:IsZip m5 (n + 4) (n + 2) (n + 3) .ellipsis:=e5.extBut _ _ (neN (by omega)) (e4.extBut _ _ (neN (by omega)) (e3.extBut _ _ (neN (by omega)) (e2.extBut _ _ (neN (by omega)) gz1)))
  have keep5:∀ c o,c≠n + 4→c≠n + 3→c≠n→c≠n + 1→s.heap.get? c=some o→m5.get? c=some o:=fun c o d1 d2 d3 d4 g=>
    e5.extBut _ _ d2 (e4.extBut _ _ d4 (e3.extBut _ _ d2 (e2.extBut _ _ d3 (e1.extBut _ _ d1 g))))
  have r15:SIt m5 t1 n l1 (k + 1):=r1.at fun o g=>e5.extBut _ _ (neN (by omega)) (e4.extBut _ _ (neN (by omega)) (e3.extBut _ _ (neN (by omega)) g))
  have r25:SIt m5 t2 (n + 1) l2 (k + 1):=r2.at fun o g=>e5.extBut _ _ (neN (by omega)) g
  have lt5:n + 4 < m5.objs.size:=Heap.lt_size gz5
  show wpAny _ _ (Builtin.SmallTypes.ownedTupleHandOut (.ref (n + 4)) (.ref m5.objs.size) >>= _) _ _ _
  refine wpAny_bind ?_
  unfold Builtin.SmallTypes.ownedTupleHandOut
  have gz6:IsZip (m5.push { cls:=.type "tuple",data:=.seq #[x,y] }) (n + 4) (n + 2) (n + 3) .ellipsis:=Heap.get?_push_of_some _ gz5
  refine wpAny_bind (wpAny_setField_rec gz6 (by simp) fun m7 gz7 e7=>?_)
  replace gz7:IsZip m7 (n + 4) (n + 2) (n + 3) (rawInt m5.objs.size):=gz7
  refine wpAny_setField_rec gz7 (by simp) fun m8 gz8 e8=>?_
  replace gz8:IsZip m8 (n + 4) (n + 2) (n + 3) (rawInt m5.objs.size):=gz8
  have up:∀ c o,c≠n + 4→m5.get? c=some o→m8.get? c=some o:=fun c o d1 g=>e8.extBut _ _ d1 (e7.extBut _ _ d1 (Heap.get?_push_of_some _ g))
  have gt8:IsPair m8 m5.objs.size x y:=e8.extBut _ _ (Nat.ne_of_gt lt5) (e7.extBut _ _ (Nat.ne_of_gt lt5) (Heap.get?_push_size _ rfl))
  have hs8:m8.objs.size=m5.objs.size + 1:=by rw [e8.1,e7.1,Heap.size_push]
  rw [hsz] at gz8 gt8 hs8
  refine wpAny_pure ⟨_,rfl,?_⟩
  show Q (.ref m5.objs.size) _
  rw [hsz]
  exact kk m8 gz8 (up _ _ (neN (by omega)) go5) (r15.at fun o g=>up _ o (neN (by omega)) g) (r25.at fun o g=>up _ o (neN (by omega)) g) gt8 hs8 fun c o d1 d2 d3 d4 g=>up c o d1 (keep5 c o d1 d2 d3 d4 g)
theorem zipDone {n l1 l2 k:Nat} {xs ys:Array Value} {a b:Value} {t1 t2:Bool} {Q:Fin→Shared→Prop} (hh:A.handled=none) (b1:l1 < n) (b2:l2 < n) (gz:IsZip s.heap (n + 4) (n + 2) (n + 3) .none) (gi:IsPair s.heap (n + 2) (.ref n) (.ref (n + 1))) (go:IsPair s.heap (n + 3) a b)
    (q1:SIt s.heap t1 n l1 k) (q2:SIt s.heap t2 (n + 1) l2 k) (o1:SOf s.heap t1 l1 xs) (o2:SOf s.heap t2 l2 ys) (hend:xs[k]?=none∨ys[k]?=none)
    (kk:∀ h' e,(∀ c o,c≠n + 4→c≠n + 3→c≠n→c≠n + 1→s.heap.get? c=some o→h'.get? c=some o)→(∃ o,h'.get? e=some o∧o.cls=.type "StopIteration")→E (.ref e) { s with heap:=h' }) :
    wpAny (model prog w) A (Builtin.«zip.__next__» ⟨[.ref (n + 4)],[]⟩) Q E s:=by
  show wpAny _ _ (field (.ref (n + 4)) 2 >>= _) _ _ _
  refine wpAny_bind (wpAny_field gz rfl (x:=.bool false) rfl ?_)
  show wpAny _ _ (field (.ref (n + 4)) 3 >>= _) _ _ _
  refine wpAny_bind (wpAny_field gz rfl (x:=.ref (n + 2)) rfl ?_)
  refine wpAny_bind (wpAny_seqItems gi rfl ?_)
  show wpAny _ _ (Builtin.SmallTypes.ownedTupleIsFree (.ref (n + 4)) >>= _) _ _ _
  refine wpAny_bind ?_
  unfold Builtin.SmallTypes.ownedTupleIsFree
  refine wpAny_bind (wpAny_field gz rfl (x:=.none) rfl ?_)
  refine wpAny_pure ?_
  simp only [if_true]
  refine wpAny_bind (wpAny_rule ?_)
  refine wpAny_bind (wpAny_field gz rfl (x:=.ref (n + 3)) rfl ?_)
  refine wpAny_bind (wpAny_setField_rec gz (by simp) fun m1 gz1 e1=>?_)
  replace gz1:IsZip m1 (n + 4) (n + 2) (n + 3) .ellipsis:=gz1
  refine wpAny_bind ?_
  simp only [List.zipIdx_cons,List.zipIdx_nil,List.forIn_cons,List.forIn_nil]
  refine wpAny_bind (wpAny_bind ?_)
  refine wpAny_onRaise ?_
  show wpAny _ _ (nextOf (.ref n) >>= _) _ _ _
  have p1:SIt m1 t1 n l1 k:=q1.at fun o g=>e1.extBut _ _ (neN (by omega)) g
  have p2:SOf m1 t1 l1 xs:=o1.at fun o g=>e1.extBut _ _ (neN (by omega)) g
  cases hx:xs[k]? with
  | none=>
    refine wpAny_bind (yf3 hh p1 p2 hx fun m2 e g2 he=>?_)
    obtain ⟨oe,hoe,hce⟩:=he
    have gz2:IsZip m2 (n + 4) (n + 2) (n + 3) .ellipsis:=g2 _ _ (neN (by omega)) gz1
    have ne:e≠n + 4:=fun z=>by subst z; rw [gz2] at hoe; cases hoe; simp at hce
    refine wpAny_setField_rec gz2 (by simp) fun m3 _ e3=>?_
    exact kk m3 e (fun c o d1 _ d3 _ g=>e3.extBut _ _ d1 (g2 _ _ d3 (e1.extBut _ _ d1 g))) ⟨oe,e3.extBut _ _ ne hoe,hce⟩
  | some x=>
    have hy:ys[k]?=none:=by
      rcases hend with z | z
      · rw [hx] at z; cases z
      · exact z
    refine wpAny_bind (qd1 p1 p2 hx fun m2 r1 e2=>?_)
    refine wpAny_pure ?_
    have go2:IsPair m2 (n + 3) a b:=e2.extBut _ _ (neN (by omega)) (e1.extBut _ _ (neN (by omega)) go)
    refine wpAny_bind (wpAny_seqItems go2 rfl ?_)
    refine wpAny_bind (wpAny_updateSeq_pair go2 fun m3 go3 e3=>?_)
    refine wpAny_bind (wpAny_letGo ?_)
    refine wpAny_pure ?_
    refine wpAny_bind (wpAny_bind ?_)
    refine wpAny_onRaise ?_
    show wpAny _ _ (nextOf (.ref (n + 1)) >>= _) _ _ _
    refine wpAny_bind (yf3 hh (q2.at fun o g=>e3.extBut _ _ (neN (by omega)) (e2.extBut _ _ (neN (by omega)) (e1.extBut _ _ (neN (by omega)) g))) (o2.at fun o g=>e3.extBut _ _ (neN (by omega)) (e2.extBut _ _ (neN (by omega)) (e1.extBut _ _ (neN (by omega)) g))) hy fun m4 e g4 he=>?_)
    obtain ⟨oe,hoe,hce⟩:=he
    have gz4:IsZip m4 (n + 4) (n + 2) (n + 3) .ellipsis:=g4 _ _ (neN (by omega)) (e3.extBut _ _ (neN (by omega)) (e2.extBut _ _ (neN (by omega)) gz1))
    have ne:e≠n + 4:=fun z=>by subst z; rw [gz4] at hoe; cases hoe; simp at hce
    refine wpAny_setField_rec gz4 (by simp) fun m5 _ e5=>?_
    exact kk m5 e (fun c o d1 d2 d3 d4 g=>e5.extBut _ _ d1 (g4 _ _ d4 (e3.extBut _ _ d2 (e2.extBut _ _ d3 (e1.extBut _ _ d1 g))))) ⟨oe,e5.extBut _ _ ne hoe,hce⟩
def itN (tp:Bool):String:=if tp then "tuple_iterator" else "list_iterator"
theorem iterS {tp:Bool} {Q:Value→Shared→Prop} (hl:SOf s.heap tp l its) (k:Q (.ref s.heap.objs.size) { s with heap:=s.heap.push { cls:=.type (itN tp),data:=.fields #[.ref l,.int 0 0] } }):wpAny (model prog w) A (pyIter (.ref l)) Q E s:=by
  cases tp with
  | true=>exact iter_tuple hl k
  | false=>exact wpAny_pyIter_list hl k
theorem SIt.new {tp:Bool} {h:Heap}:SIt (h.push { cls:=.type (itN tp),data:=.fields #[.ref l,.int 0 0] }) tp h.objs.size l 0:=by
  cases tp with
  | true=>exact ⟨_,Heap.get?_push_size _ rfl,rfl,rfl⟩
  | false=>exact ⟨_,Heap.get?_push_size _ rfl,rfl,rfl⟩
abbrev zp1 (h:Heap) (t1:Bool) (l1:Addr):Heap:=h.push { cls:=.type (itN t1),data:=.fields #[.ref l1,.int 0 0] }
abbrev zp2 (h:Heap) (t1 t2:Bool) (l1 l2:Addr):Heap:=(zp1 h t1 l1).push { cls:=.type (itN t2),data:=.fields #[.ref l2,.int 0 0] }
abbrev zp3 (h:Heap) (t1 t2:Bool) (l1 l2:Addr):Heap:=(zp2 h t1 t2 l1 l2).push { cls:=.type "tuple",data:=.seq #[.ref h.objs.size,.ref (zp1 h t1 l1).objs.size] }
abbrev zp4 (h:Heap) (t1 t2:Bool) (l1 l2:Addr):Heap:=(zp3 h t1 t2 l1 l2).push { cls:=.type "tuple",data:=.seq #[.none,.none] }
abbrev zp5 (h:Heap) (t1 t2:Bool) (l1 l2:Addr):Heap:=(zp4 h t1 t2 l1 l2).push { cls:=.type "zip",data:=.fields #[.none,.bool false,.bool false,.ref (zp2 h t1 t2 l1 l2).objs.size,.ref (zp3 h t1 t2 l1 l2).objs.size] }
theorem zipNew (t1 t2:Bool) (l1 l2:Addr) (xs ys:Array Value) :
    Meets (Builtin.«zip.__new__» ⟨[.type "zip",.ref l1,.ref l2],[]⟩) (fun _ R s=>SOf s.heap t1 l1 xs∧SOf s.heap t2 l2 ys∧R (.ok (.ret (.ref (zp4 s.heap t1 t2 l1 l2).objs.size))) { s with heap:=zp5 s.heap t1 t2 l1 l2 }):=
  .of_wp fun prog w A R s h=>by
    obtain ⟨hp,g,d,tk,os⟩:=s
    obtain ⟨y1,y2,h⟩:=h
    have hsub:=sub_zip
    have Y1:SOf (Shared.heap ⟨hp,g,d,tk,os⟩) t1 l1 xs:=y1
    have Y2:SOf (Shared.heap ⟨hp.push { cls:=.type (itN t1),data:=.fields #[.ref l1,.int 0 0] },g,d,tk,os⟩) t2 l2 ys:=y2.at fun o z=>Heap.get?_push_of_some _ z
    wp_walk using iterS Y1,iterS Y2
    exact ⟨_,rfl,h⟩
end
end L2
set_option Elab.async false
set_option linter.all false
set_option maxRecDepth 100000
namespace L2
open PySem PySem.Spec PyProof.Rows
theorem yj0:bootBuiltins "zip" = some (.type "zip"):=by decide +kernel
section
variable {prog:Program} {w:World} {A:Around} {E:Value→Shared→Prop} {s:Shared}
def ZSt (h:Heap) (n:Nat) (t1 t2:Bool) (l1 l2:Addr) (i:Nat):Prop:=
  ∃ a b,IsZip h (n + 4) (n + 2) (n + 3) .none∧IsPair h (n + 2) (.ref n) (.ref (n + 1))∧IsPair h (n + 3) a b∧SIt h t1 n l1 i∧SIt h t2 (n + 1) l2 i
theorem qjr {t1 t2:Bool} {l1 l2:Addr} {xs ys:Array Value} {Q:Value→Shared→Prop} (y1:SOf s.heap t1 l1 xs) (y2:SOf s.heap t2 l2 ys)
    (k:∀ h',ZSt h' s.heap.objs.size t1 t2 l1 l2 0→(∀ c o,s.heap.get? c=some o→h'.get? c=some o)→Q (.ref (s.heap.objs.size + 4)) { s with heap:=h' }) :
    wpAny (model prog w) A (call (.type "zip") [.ref l1,.ref l2]) Q E s:=by
  refine callType_new F.called_zip (by decide) (F.typeCall_zip_2 _ _) (F.newCall_zip_2 _ _) (fun obj=>F.args_object_init_3 obj _ _) F.entry_zip_new (zipNew t1 t2 l1 l2 xs ys) ⟨y1,y2,?_⟩
  have z1:(zp1 s.heap t1 l1).objs.size=s.heap.objs.size + 1:=Heap.size_push ..
  have z2:(zp2 s.heap t1 t2 l1 l2).objs.size=s.heap.objs.size + 2:=by rw [Heap.size_push,z1]
  have z3:(zp3 s.heap t1 t2 l1 l2).objs.size=s.heap.objs.size + 3:=by rw [Heap.size_push,z2]
  have z4:(zp4 s.heap t1 t2 l1 l2).objs.size=s.heap.objs.size + 4:=by rw [Heap.size_push,z3]
  have u5:∀ c o,(zp4 s.heap t1 t2 l1 l2).get? c=some o→(zp5 s.heap t1 t2 l1 l2).get? c=some o:=fun c o g=>Heap.get?_push_of_some _ g
  have u4:∀ c o,(zp3 s.heap t1 t2 l1 l2).get? c=some o→(zp5 s.heap t1 t2 l1 l2).get? c=some o:=fun c o g=>u5 c o (Heap.get?_push_of_some _ g)
  have u3:∀ c o,(zp2 s.heap t1 t2 l1 l2).get? c=some o→(zp5 s.heap t1 t2 l1 l2).get? c=some o:=fun c o g=>u4 c o (Heap.get?_push_of_some _ g)
  have u2:∀ c o,(zp1 s.heap t1 l1).get? c=some o→(zp5 s.heap t1 t2 l1 l2).get? c=some o:=fun c o g=>u3 c o (Heap.get?_push_of_some _ g)
  have g5:(zp5 s.heap t1 t2 l1 l2).get? (zp4 s.heap t1 t2 l1 l2).objs.size=some _:=Heap.get?_push_size _ rfl
  have g4:(zp5 s.heap t1 t2 l1 l2).get? (zp3 s.heap t1 t2 l1 l2).objs.size=some _:=u5 _ _ (Heap.get?_push_size _ rfl)
  have g3:(zp5 s.heap t1 t2 l1 l2).get? (zp2 s.heap t1 t2 l1 l2).objs.size=some _:=u4 _ _ (Heap.get?_push_size _ rfl)
  have i2:SIt (zp5 s.heap t1 t2 l1 l2) t2 (zp1 s.heap t1 l1).objs.size l2 0:=SIt.new.at fun o g=>u3 _ o g
  have i1:SIt (zp5 s.heap t1 t2 l1 l2) t1 s.heap.objs.size l1 0:=SIt.new.at fun o g=>u2 _ o g
  show _∧_
  rw [z2,z3,z4] at g5
  rw [z1,z2] at g3
  rw [z3] at g4
  rw [z1] at i2
  rw [z4]
  exact ⟨⟨_,g5,rfl⟩,k _ ⟨_,_,g5,g3,g4,i1,i2⟩ fun c o g=>u2 c o (Heap.get?_push_of_some _ g)⟩
end
def Sq (K:PySem.W.Frag) (tp:Bool) (H:Hp) (l:Addr) (xs:List V):Prop:=if tp then SqT K H l xs else SqL K H l xs
section
variable {X:Cx} {pins:List (Addr×Obj)} {σ:St} {H:Hp} {s:Shared}
theorem Inv.sq {tp:Bool} {l:Addr} {xs:List V} (I:Inv X pins σ H s) (h:Sq X.K tp H l xs):∃ its:List Value,Vals xs its∧SOf s.heap tp l its.toArray∧l < s.heap.objs.size:=by
  cases tp with
  | true=>
    obtain ⟨its,r,pl,z⟩:=I.tuple h
    obtain ⟨o,g,_⟩:=id pl
    exact ⟨its,r,pl,Heap.lt_size g⟩
  | false=>
    obtain ⟨its,r,pl,z⟩:=I.list h
    obtain ⟨o,g,_⟩:=id pl.isList
    exact ⟨its,r,pl.isList,Heap.lt_size g⟩
theorem Inv.sq_inj {tp:Bool} {l:Addr} {xs ys:List V} (I:Inv X pins σ H s) (h:Sq X.K tp H l xs) (h':Sq X.K tp H l ys):xs=ys:=by
  cases tp with
  | true=>exact I.tuple_inj h h'
  | false=>exact I.list_inj h h'
end
section
variable {X:Cx} {pins:List (Addr×Obj)} {σ:St} {H:Hp} {s:Shared} {h':Heap}
theorem Inv.turnedM {ch:List Addr} {t':Nat} (I:Inv X pins σ H s) (k:∀ b u,b∉ch→s.heap.get? b=some u→h'.get? b=some u) (hf:∀ b∈ch,FpOk X pins H b):Inv X pins σ H { s with heap:=h',toks:=t' }:=by
  have nit:∀ b u,H b=some u→b∉ch:=fun b u e z=>by rw [(hf b z).1] at e; cases e
  refine I.step (g':=s.gens) (d':=s.drawn) (ch:=ch) (fun b hb=>?_) (fun b u _ _ hc e _=>k b u hc e) (fun b u _ _ hc e _=>⟨u.slots,k b u hc e⟩) (fun b u _ e n=>n)
    (fun b u hc e=>⟨u,k b u hc e⟩) (fun b xs e=>e) (fun b u xs e=>e) (fun b ps e=>⟨#[],by rw [e]; simp⟩) (fun m hm=>?_) (fun b u e=>?_) I.bare
  · obtain ⟨_,f1,_,f3,f4,f5⟩:=hf b hb
    exact ⟨f3,f1,f4,f5⟩
  · obtain ⟨ob,es,ep,ho,r⟩:=hm
    exact ⟨ob,es,ep,k _ ob (fun z=>(hf _ z).2.1 rfl) ho,r⟩
  · refine (I.hok b u e).stay (fun c v hc q=>k c v ?_ q) (fun c q=>q) fun c xs q=>q
    rcases hc with rfl | hc
    · exact nit _ u e
    · exact nit c _ hc
end
def Itz (K:PySem.W.Frag) (t1 t2:Bool) (l1 l2:Addr):It:=
  ⟨fun i H=>∃ xs ys x y,Sq K t1 H l1 xs∧Sq K t2 H l2 ys∧xs[i]?=some x∧ys[i]?=some y,
   fun i H x H'=>∃ p u v,H p=none∧x=.ref p∧H'=upd H p (.tup [u,v])∧∀ xs ys,Sq K t1 H l1 xs→Sq K t2 H l2 ys→xs[i]?=some u∧ys[i]?=some v,
   fun i H=>∃ xs ys,Sq K t1 H l1 xs∧Sq K t2 H l2 ys∧(xs[i]?=none∨ys[i]?=none)⟩
theorem ygv {xs:List V} {us:List Value} {i:Nat} (r:Vals xs us) (h:xs[i]?=none):us[i]?=none:=by
  rw [List.getElem?_eq_none_iff] at h ⊢
  rw [← r.length]
  exact h
theorem turn_zip {P:Program} {w:World} {K:PySem.W.Frag} {es:List Expr} {k:Nat} {tp:Pos} {t1 t2:Bool} (l1 l2 n:Nat) (b1:l1 < n) (b2:l2 < n) :
    Turn P w K (.Tuple es k tp) (Itz K t1 t2 l1 l2) [n,n + 1,n + 2,n + 3,n + 4] (n + 4) (fun i h=>ZSt h n t1 t2 l1 l2 i) where
  mem:=by simp
  obj:=fun i h st b hb=>by
    obtain ⟨x,y,gz,gi,go,q1,q2⟩:=st
    have hb':b=n∨b=n + 1∨b=n + 2∨b=n + 3∨b=n + 4:=by simpa using hb
    rcases hb' with rfl | rfl | rfl | rfl | rfl
    · exact q1.obj
    · exact q2.obj
    · exact ⟨_,gi,fun v z=>by
        have z':Data.seq _ _=Data.cell v:=z
        cases z'⟩
    · exact ⟨_,go,fun v z=>by
        have z':Data.seq _ _=Data.cell v:=z
        cases z'⟩
    · exact ⟨_,gz,fun v z=>by
        have z':Data.fields _=Data.cell v:=z
        cases z'⟩
  keep:=fun i h h' st kk=>by
    obtain ⟨x,y,gz,gi,go,q1,q2⟩:=st
    exact ⟨x,y,kk _ (by simp) _ gz,kk _ (by simp) _ gi,kk _ (by simp) _ go,q1.at fun o z=>kk _ (by simp) o z,q2.at fun o z=>kk _ (by simp) o z⟩
  item:=by
    intro X hP hw hK hc i pins s σ H E I hf st hg
    subst hP hw hK
    obtain ⟨xs,ys,x,y,hq1,hq2,hx,hy⟩:=hg
    obtain ⟨its1,rv1,so1,_⟩:=I.sq hq1
    obtain ⟨its2,rv2,so2,_⟩:=I.sq hq2
    obtain ⟨u1,hu1,ru1⟩:=rv1.get hx
    obtain ⟨u2,hu2,ru2⟩:=rv2.get hy
    obtain ⟨x0,y0,gz,gi,go,q1,q2⟩:=st
    have lt4:n + 4 < s.heap.objs.size:=Heap.lt_size gz
    have hT:s.TypeIs (.ref (n + 4)) "zip":=⟨_,gz,rfl⟩
    unfold pyNext
    refine wpAny_bind (wpAny_attempt (wpAny_callSpecial?_slot (name:=Str.ofString "__next__") hT F.slot_zip_next (wpAny_call_entry F.slot_zip_next hT F.entry_zip_next ?_ (F.args_zip_next_1 _))))
    refine zipNext b1 b2 gz gi go q1 q2 so1 so2 (x:=u1) (y:=u2) (by simpa using hu1) (by simpa using hu2) fun h' gz' go' r1 r2 hT' hsz kp=>?_
    refine wpAny_pure ?_
    refine ⟨_,rfl,wpAny_letOwnedTupleGo_zip gz' fun h2 gz2 hs2=>?_⟩
    have kp2:∀ b ob,b∉[n,n + 1,n + 2,n + 3,n + 4]→s.heap.get? b=some ob→h2.get? b=some ob:=fun b ob hb z=>by
      have d4:b≠n + 4:=fun q=>hb (by simp [q])
      have d3:b≠n + 3:=fun q=>hb (by simp [q])
      have d0:b≠n:=fun q=>hb (by simp [q])
      have d1:b≠n + 1:=fun q=>hb (by simp [q])
      exact (hs2.2 b d4).trans (kp b ob d4 d3 d0 d1 z)
    have up2:∀ b ob,b≠n + 4→h'.get? b=some ob→h2.get? b=some ob:=fun b ob d z=>(hs2.2 b d).trans z
    have hT2:h2.get? s.heap.objs.size=some { cls:=.type "tuple",data:=.seq #[u1,u2] }:=up2 _ _ (Nat.ne_of_gt lt4) hT'
    have fresh:H s.heap.objs.size=none:=I.hok.fresh (Nat.le_refl _)
    have new:ybc X.prog X.w (upd H s.heap.objs.size (.tup [x,y])) h2 s.heap.objs.size (.tup [x,y]):=⟨by show 2≤sizeLine; decide,[u1,u2],.cons ru1 (.cons ru2 .nil),⟨_,hT2,rfl,_,rfl⟩⟩
    refine ⟨.ref s.heap.objs.size,upd H s.heap.objs.size (.tup [x,y]),I.turnedL kp2 hf (Nat.le_refl _) new,rfl,⟨_,x,y,fresh,rfl,rfl,fun as bs ha hb=>by rw [I.sq_inj ha hq1,I.sq_inj hb hq2]; exact ⟨hx,hy⟩⟩,⟨_,_,gz2,?_,up2 _ _ (neN (by omega)) go',r1.at fun o z=>up2 _ o (neN (by omega)) z,r2.at fun o z=>up2 _ o (neN (by omega)) z⟩,fun b hb=>?_⟩
    · exact up2 _ _ (neN (by omega)) (kp _ _ (neN (by omega)) (neN (by omega)) (neN (by omega)) (neN (by omega)) gi)
    · rw [qaf]
      · exact (hf b hb).1
      · have hb':b=n∨b=n + 1∨b=n + 2∨b=n + 3∨b=n + 4:=by simpa using hb
        rcases hb' with rfl | rfl | rfl | rfl | rfl <;> exact neN (by omega)
  done:=by
    intro X hP hw hK hc i pins s σ H E I hf st hg
    subst hP hw hK
    obtain ⟨xs,ys,hq1,hq2,hxy⟩:=hg
    obtain ⟨its1,rv1,so1,_⟩:=I.sq hq1
    obtain ⟨its2,rv2,so2,_⟩:=I.sq hq2
    obtain ⟨x0,y0,gz,gi,go,q1,q2⟩:=st
    have hT:s.TypeIs (.ref (n + 4)) "zip":=⟨_,gz,rfl⟩
    have hend:its1.toArray[i]?=none∨its2.toArray[i]?=none:=hxy.imp (fun z=>by simpa using ygv rv1 z) fun z=>by simpa using ygv rv2 z
    unfold pyNext
    refine wpAny_bind (wpAny_attempt (wpAny_callSpecial?_slot (name:=Str.ofString "__next__") hT F.slot_zip_next (wpAny_call_entry F.slot_zip_next hT F.entry_zip_next (zipDone (I.ok.hd hc) b1 b2 gz gi go q1 q2 so1 so2 hend fun h' e kp he=>?_) (F.args_zip_next_1 _))))
    obtain ⟨o,ho,hce⟩:=he
    refine wpAny_bind (wpAny_isInstance (T:="StopIteration") (b:=true) ⟨o,ho,hce⟩ isSubtype_stop ?_)
    refine wpAny_pure ⟨rfl,?_⟩
    refine I.turnedM (t':=s.toks) (ch:=[n,n + 1,n + 2,n + 3,n + 4]) (fun b ob hb z=>?_) hf
    exact kp b ob (fun q=>hb (by simp [q])) (fun q=>hb (by simp [q])) (fun q=>hb (by simp [q])) (fun q=>hb (by simp [q])) z
  self:=fun _ _ _ _ _ st h=>by
    obtain ⟨x0,y0,gz,gi,go,q1,q2⟩:=st
    exact wpAny_pyIter_zip gz h
def iZip (K:PySem.W.Frag) (ta:TA):TI:=fun σ H R=>ta σ H fun vs H1=>∃ t1 t2 l1 l2 xs ys,vs=[.ref l1,.ref l2]∧Sq K t1 H1 l1 xs∧Sq K t2 H1 l2 ys∧R (Itz K t1 t2 l1 l2) H1
section
variable {X:Cx}
theorem yic {a b:Expr} {ta:TA} {p pos tp:Pos} {es:List Expr} {k:Nat} (hg:Gl X "zip") (hm:X.mg "zip" = none) (ha:PA X [a,b] ta) (hs:starEach [a,b] X.env=(false,eval a X.env) :: starEach [b] X.env:=by rfl) (hp:(backTo pos (starEach [b] X.env)).any (·.1)=false:=by rfl) :
    PI X (.Tuple es k tp) (.Call (.Name "zip" p) [a,b] [] pos) (iZip X.K ta):=by
  intro pins s σ H R I h
  refine Call_ (yfx I hg hm yj0 (PyProof.Rows.callWith_type1 (thn (ha pos pins s σ H _ I h) fun us s1 ⟨vs,H1,I1,r1,q1⟩=>?_) hs hp))
  obtain ⟨t1,t2,l1,l2,xs,ys,e,hq1,hq2,q⟩:=q1
  subst e
  cases r1 with
  | cons r rr=>
    cases rr with
    | cons r2 rr=>
      cases rr
      cases r
      cases r2
      obtain ⟨its1,rv1,so1,b1⟩:=I1.sq hq1
      obtain ⟨its2,rv2,so2,b2⟩:=I1.sq hq2
      refine qjr so1 so2 fun h' st kp=>?_
      obtain ⟨x0,y0,gz,gi,go,i1,i2⟩:=id st
      refine wpAny_pyIter_zip gz ⟨_,[s1.heap.objs.size,s1.heap.objs.size + 1,s1.heap.objs.size + 2,s1.heap.objs.size + 3,s1.heap.objs.size + 4],_,Itz X.K t1 t2 l1 l2,H1,rfl,I1.kept (t':=s1.toks) kp,turn_zip l1 l2 s1.heap.objs.size b1 b2,st,fun b hb=>?_,q⟩
      have hb':s1.heap.objs.size≤b:=by
        have hb':b=s1.heap.objs.size∨b=s1.heap.objs.size + 1∨b=s1.heap.objs.size + 2∨b=s1.heap.objs.size + 3∨b=s1.heap.objs.size + 4:=by simpa using hb
        rcases hb' with rfl | rfl | rfl | rfl | rfl
        · exact Nat.le_refl _
        · exact Nat.le_add_right ..
        · exact Nat.le_add_right ..
        · exact Nat.le_add_right ..
        · exact Nat.le_add_right ..
      exact I1.fpOk hb' (I1.hok.fresh hb')
end
end L2
set_option Elab.async false
set_option linter.all false
set_option maxRecDepth 100000
namespace L2
open PySem PySem.Spec PyProof.Rows
theorem qcd:bootBuiltins "sorted" = some (.builtin "sorted"):=by decide +kernel
theorem ygx:∀ {us:List Value} {ns:List Int},IntsAre us ns→Vals (ns.map V.int) us
  | _,_,.nil=>.nil
  | _,_,.cons n t r=>.cons ⟨t,rfl⟩ (ygx r)
end L2
set_option Elab.async false
set_option linter.all false
set_option maxRecDepth 100000
namespace L2
open PySem PySem.Spec PyProof.Rows
theorem ycb:bootBuiltins "all" = some (.builtin "all"):=by decide +kernel
section
variable {X:Cx}
def rAllB:List V→Hp→VK→Prop:=fun xs H Q=>∃ (l:Addr) (bs:List Bool),xs=[.ref l]∧H l=some (.lst (bs.map V.bl))∧Q (.bl (bs.all id)) H
theorem yjn (bs:List Bool):(List.range bs.length).all (fun i=>bs.getD i false)=bs.all id:=by
  rw [Bool.eq_iff_iff,List.all_eq_true,List.all_eq_true]
  constructor
  · intro h b hb
    obtain ⟨i,hi,e⟩:=List.getElem_of_mem hb
    have:=h i (List.mem_range.mpr hi)
    rw [List.getD_eq_getElem?_getD,List.getElem?_eq_getElem hi] at this
    rw [← e]; exact this
  · intro h i hi
    have hi':=List.mem_range.mp hi
    rw [List.getD_eq_getElem?_getD,List.getElem?_eq_getElem hi']
    exact h _ (List.getElem_mem hi')
theorem truth_bs {P:Program} {w:World} {A:Around} (bs:List Bool):TruthOf P w A (fun i v=>(bs.map Value.bool).toArray[i]?=some v) (fun i=>bs.getD i false):=by
  intro i v s Q E hP hQ
  have hP':(bs.map Value.bool)[i]?=some v:=by simpa using hP
  rw [List.getElem?_map] at hP'
  cases e:bs[i]? with
  | none=>rw [e] at hP'; cases hP'
  | some b=>
    rw [e] at hP'
    cases hP'
    have hQ':Q (bs.getD i false) s:=hQ
    rw [List.getD_eq_getElem?_getD,e] at hQ'
    exact wpAny_truthy_bool hQ'
theorem yb9 (hc:X.calm=true):yds X (.builtin "all") rAllB:=by
  intro pins s σ H xs us Q I r h
  obtain ⟨l,bs,rfl,hH,q⟩:=h
  cases r with
  | cons r rr=>
    cases rr
    cases r
    obtain ⟨z,its,n,rv,hl,e⟩:=I.lstM hH
    have hi:=rv.bls
    subst hi
    have hlt:l < s.heap.objs.size:=Heap.lt_size e
    refine call_all_walk (wpAny_pyIter_list (items:=(bs.map Value.bool).toArray) ⟨_,e,rfl,n,rfl⟩ ⟨_,_,_,_,_,_,_,rfl,Walks.list (by simpa using I.ok.hd hc) s.heap.objs.size l (Nat.ne_of_lt hlt) (bs.map Value.bool).toArray,⟨⟨_,Heap.get?_push_size _ rfl,rfl,rfl⟩,⟨_,Heap.get?_push_of_some _ e,rfl,n,rfl⟩⟩,truth_bs bs,fun h' tk hk=>?_⟩)
    rw [List.size_toArray,List.length_map,yjn]
    refine ⟨.bl (bs.all id),H,I.kept fun b o g=>hk b o ?_ (Heap.get?_push_of_some _ g),rfl,q⟩
    intro hb
    rw [List.mem_singleton] at hb
    exact absurd (Heap.lt_size g) (by rw [hb]; exact Nat.lt_irrefl _)
end
end L2
set_option Elab.async false
set_option linter.all false
set_option maxRecDepth 100000
namespace L2
open PySem PySem.Spec PyProof.Rows
section
variable {X:Cx} {a b:Expr} {ta tb:TE} {pos:Pos}
def rCatS (K:PySem.W.Frag):R2:=fun x y H Q=>∃ l b xs zs,x=.ref l∧y=.ref b∧SqL K H l xs∧SqL K H b zs∧xs.length + zs.length≤sizeLine∧∀ p,H p=none→Q (.ref p) (upd H p (.lst (xs++zs)))
theorem op_catS:OpR X (binaryOp .Add) (rCatS X.K):=by
  intro pins s σ H x y v u Q I rx ry h
  obtain ⟨l,b,xs,zs,rfl,rfl,hH,hB,hz,q⟩:=h
  cases rx
  cases ry
  obtain ⟨vs,r,pl,_⟩:=I.list hH
  obtain ⟨ws,r2,pl2,_⟩:=I.list hB
  obtain ⟨⟨cls,dd,data,sl⟩,ho,hc,n,hd⟩:=pl.isList
  obtain ⟨⟨cls2,dd2,data2,sl2⟩,ho2,hc2,n2,hd2⟩:=pl2.isList
  simp only at hc hd hc2 hd2
  subst hc hd hc2 hd2
  have l1:=r.length
  have l2:=r2.length
  refine concat_meets ⟨_,ho,rfl⟩ ⟨_,ho2,rfl⟩ noFill_list_add seq_list_add PySem.F.slot_list_add PySem.F.entry_list_add (PySem.F.args_list_add_2 _ _) (list_addW l b vs.toArray ws.toArray n n2 dd dd2 sl sl2 (by simp; omega)) ⟨ho,ho2,?_⟩
  have ea:vs.toArray++ws.toArray=(vs++ws).toArray:=by simp
  rw [ea]
  exact ⟨.ref _,_,I.lnew (t':=s.toks) (r.append r2) (by rw [List.length_append]; omega),rfl,q _ I.fresh⟩
end
end L2
set_option Elab.async false
set_option linter.all false
set_option maxRecDepth 100000
namespace L2
open PySem PySem.Spec PyProof.Rows
section
variable {κ:Type} [DecidableEq κ]
def valV (kvs:List (κ×V)) (k:κ):Option V:=(kvs.find? fun kv=>decide (kv.1=k)).map (·.2)
def putK (kvs:List (κ×V)) (k:κ) (v:V):List (κ×V):=
  if (kvs.any fun kv=>decide (kv.1=k))=true then kvs.map (fun kv=>if kv.1=k then (kv.1,v) else kv) else kvs++[(k,v)]
theorem ybx {p:κ×V} {r:List (κ×V)} {k:κ} (e:p.1=k):valV (p :: r) k=some p.2:=by simp [valV,List.find?_cons,e]
theorem yby {p:κ×V} {r:List (κ×V)} {k:κ} (e:¬ p.1=k):valV (p :: r) k=valV r k:=by simp [valV,List.find?_cons,e]
theorem ye0 (k:κ):∀ kvs:List (κ×V),(kvs.any fun kv=>decide (kv.1=k))=(valV kvs k).isSome
  | []=>rfl
  | p :: r=>by
    rw [List.any_cons]
    by_cases e:p.1=k
    · simp only [ybx e,decide_eq_true e,Bool.true_or,Option.isSome_some]
    · rw [yby e,decide_eq_false e,Bool.false_or]; exact ye0 k r
theorem qh9 (k j:κ) (y:V):∀ kvs:List (κ×V),valV (kvs.map fun kv=>if kv.1=k then (kv.1,y) else kv) j=(valV kvs j).map fun x=>if j=k then y else x
  | []=>rfl
  | p :: r=>by
    have ih:=qh9 k j y r
    rw [List.map_cons]
    by_cases h:p.1=k
    · rw [if_pos h]
      by_cases e:p.1=j
      · rw [ybx (p:=(p.1,y)) e,ybx e,Option.map_some,if_pos (e.symm.trans h)]
      · rw [yby (p:=(p.1,y)) e,yby e,ih]
    · rw [if_neg h]
      by_cases e:p.1=j
      · rw [ybx (p:=p) e,ybx e,Option.map_some,if_neg (fun z=>h (e.trans z))]
      · rw [yby (p:=p) e,yby e,ih]
theorem qg5 (k j:κ) (y:V):∀ kvs:List (κ×V),valV kvs k=none→valV (kvs++[(k,y)]) j=if j=k then some y else valV kvs j
  | [],_=>by
    by_cases e:k=j
    · rw [if_pos e.symm]; exact ybx (p:=(k,y)) e
    · rw [if_neg (fun z=>e z.symm)]; exact yby (p:=(k,y)) e
  | p :: r,hn=>by
    rw [List.cons_append]
    have hk:¬ p.1=k:=fun z=>by rw [ybx z] at hn; cases hn
    rw [yby hk] at hn
    have ih:=qg5 k j y r hn
    by_cases e:p.1=j
    · rw [ybx e,ybx e,if_neg (fun z=>hk (e.trans z))]
    · rw [yby e,yby e,ih]
theorem valV_put (kvs:List (κ×V)) (k j:κ) (y:V):valV (putK kvs k y) j=if j=k then some y else valV kvs j:=by
  unfold putK
  by_cases a:(kvs.any fun kv=>decide (kv.1=k))=true
  · rw [if_pos a,qh9]
    rw [ye0] at a
    by_cases e:j=k
    · obtain ⟨x,hx⟩:=Option.isSome_iff_exists.mp a
      rw [if_pos e,e,hx,Option.map_some,if_pos rfl]
    · rw [if_neg e]
      cases valV kvs j with
      | none=>rfl
      | some x=>rw [Option.map_some,if_neg e]
  · rw [if_neg a]
    refine qg5 k j y kvs ?_
    rw [ye0] at a
    cases q:valV kvs k with
    | none=>rfl
    | some x=>rw [q] at a; exact (a rfl).elim
theorem qdy (kvs:List (κ×V)) (k:κ) (v:V):(putK kvs k v).length≤kvs.length + 1:=by
  unfold putK
  split
  · rw [List.length_map]; omega
  · rw [List.length_append,List.length_cons,List.length_nil]; omega
theorem RelO.isSome_eq {o:Option V} {u:Option Value} (r:RelO o u):o.isSome=u.isSome:=by
  cases o with
  | none=>cases u with
    | none=>rfl
    | some _=>exact (show False from r).elim
  | some _=>cases u with
    | none=>exact (show False from r).elim
    | some _=>rfl
theorem RelO.getD {o:Option V} {u:Option Value} {d:V} {d':Value} (r:RelO o u) (rd:RelV d d'):RelV (o.getD d) (u.getD d'):=by
  cases o with
  | none=>cases u with
    | none=>exact rd
    | some _=>exact (show False from r).elim
  | some _=>cases u with
    | none=>exact (show False from r).elim
    | some _=>exact r
theorem KV.val {kvs:List (κ×V)} {vs:List (κ×Value)} (r:KV kvs vs) (k:κ):RelO (valV kvs k) (valueAt vs k):=by
  unfold KV at r
  induction r with
  | nil=>exact True.intro
  | @cons p q ps qs h t ih=>
    obtain ⟨h1,h2⟩:=h
    by_cases e:p.1=k
    · have e':q.1=k:=h1.symm.trans e
      have b:valueAt (q :: qs) k=some q.2:=by simp [valueAt,List.find?_cons,e']
      rw [ybx e,b]; exact h2
    · have e':¬ q.1=k:=fun z=>e (h1.trans z)
      have b:valueAt (q :: qs) k=valueAt qs k:=by simp [valueAt,List.find?_cons,e']
      rw [yby e,b]; exact ih
theorem KV.any {kvs:List (κ×V)} {vs:List (κ×Value)} (r:KV kvs vs) (k:κ):(kvs.any fun kv=>decide (kv.1=k))=vs.any fun kv=>decide (kv.1=k):=by
  unfold KV at r
  induction r with
  | nil=>rfl
  | cons h t ih=>rw [List.any_cons,List.any_cons,ih,h.1]
theorem KV.repl {kvs:List (κ×V)} {vs:List (κ×Value)} (r:KV kvs vs) (k:κ) {y:V} {u:Value} (ry:RelV y u) :
    KV (kvs.map fun kv=>if kv.1=k then (kv.1,y) else kv) (vs.map fun kv=>if kv.1=k then (kv.1,u) else kv):=by
  unfold KV at r ⊢
  induction r with
  | nil=>exact .nil
  | @cons p q ps qs h t ih=>
    rw [List.map_cons,List.map_cons]
    refine .cons ?_ ih
    obtain ⟨h1,h2⟩:=h
    by_cases e:p.1=k
    · rw [if_pos e,if_pos (h1.symm.trans e)]; exact ⟨h1,ry⟩
    · rw [if_neg e,if_neg (fun z=>e (h1.trans z))]; exact ⟨h1,h2⟩
theorem KV.put {kvs:List (κ×V)} {vs:List (κ×Value)} (r:KV kvs vs) (k:κ) {y:V} {u:Value} (ry:RelV y u):KV (putK kvs k y) (stored vs k u):=by
  unfold putK stored
  rw [r.any k]
  by_cases e:(vs.any fun kv=>decide (kv.1=k))=true
  · rw [if_pos e,if_pos e]; exact r.repl k ry
  · rw [if_neg e,if_neg e]; exact Paired.snoc r ⟨rfl,ry⟩
theorem KV.length {kvs:List (κ×V)} {vs:List (κ×Value)} (r:KV kvs vs):kvs.length=vs.length:=Paired.length r
end
theorem kV_is {P:Program} {w:World} {k:Key} {u:Value} (r:RelV (kV k) u):(qbq P w).is k u=true:=by
  cases k with
  | inl i=>obtain ⟨t,e⟩:=(show ∃ t,u=Value.int i t from r); subst e; exact yhy P w i t
  | inr x=>obtain ⟨t,e⟩:=(show ∃ t,u=Value.str x t from r); subst e; exact qhj P w x t
theorem qgw {P:Program} {w:World}:∀ {ks:List Key} {us:List Value},Vals (ks.map kV) us→ItemsAre (qbq P w) ks us
  | [],_,r=>by rw [List.map_nil] at r; cases r; exact .nil
  | k :: ks,_,r=>by
    rw [List.map_cons] at r
    cases r with
    | cons h t=>exact .cons (kV_is h) (qgw t)
abbrev KT (H:Hp):List (List Key×V)→List (List Key×Addr×Value)→Prop:=Paired fun p q=>p.1=q.1∧H q.2.1=some (.tup (p.1.map kV))∧RelV p.2 q.2.2
theorem KT.val {H:Hp} {kvs:List (List Key×V)} {xs:List (List Key×Addr×Value)} (r:KT H kvs xs) (k:List Key):RelO (valV kvs k) ((atKey xs k).map (·.2)):=by
  induction r with
  | nil=>exact True.intro
  | @cons p q ps qs h t ih=>
    obtain ⟨h1,_,h2⟩:=h
    by_cases e:p.1=k
    · have e':q.1=k:=h1.symm.trans e
      have b:atKey (q :: qs) k=some q.2:=by simp [atKey,List.find?_cons,e']
      rw [ybx e,b]; exact h2
    · have e':¬ q.1=k:=fun z=>e (h1.trans z)
      have b:atKey (q :: qs) k=atKey qs k:=by simp [atKey,List.find?_cons,e']
      rw [yby e,b]; exact ih
theorem KT.repl {H:Hp} {kvs:List (List Key×V)} {xs:List (List Key×Addr×Value)} (r:KT H kvs xs) (k:List Key) {y:V} {u:Value} (ry:RelV y u) :
    KT H (kvs.map fun kv=>if kv.1=k then (kv.1,y) else kv) (xs.map (putAt k u)):=by
  induction r with
  | nil=>exact .nil
  | @cons p q ps qs h t ih=>
    rw [List.map_cons,List.map_cons]
    refine .cons ?_ ih
    obtain ⟨h1,h2,h3⟩:=h
    unfold putAt
    by_cases e:p.1=k
    · rw [if_pos e,if_pos (h1.symm.trans e)]; exact ⟨h1,h2,ry⟩
    · rw [if_neg e,if_neg (fun z=>e (h1.trans z))]; exact ⟨h1,h2,h3⟩
theorem KT.put {H:Hp} {kvs:List (List Key×V)} {xs:List (List Key×Addr×Value)} (r:KT H kvs xs) (k:List Key) {b:Addr} {y:V} {u:Value} (hb:H b=some (.tup (k.map kV))) (ry:RelV y u) :
    KT H (putK kvs k y) (storedH xs k b u):=by
  have e:(kvs.any fun kv=>decide (kv.1=k))=(atKey xs k).isSome:=by
    rw [ye0,(r.val k).isSome_eq,Option.isSome_map]
  unfold putK storedH
  rw [e]
  by_cases q:(atKey xs k).isSome=true
  · rw [if_pos q,if_pos q]; exact r.repl k ry
  · rw [if_neg q,if_neg q]; exact Paired.snoc r ⟨rfl,hb,ry⟩
theorem KT.keeps {H H':Hp} {kvs:List (List Key×V)} {xs:List (List Key×Addr×Value)} (r:KT H kvs xs) (ht:∀ b ys,H b=some (.tup ys)→H' b=some (.tup ys)):KT H' kvs xs:=
  Paired.mapP r fun _ _ z=>⟨z.1,ht _ _ z.2.1,z.2.2⟩
section
variable {P:Program} {w:World} {H:Hp} {h:Heap} {a:Addr}
theorem rd_of {u:HO} (ok:HOk P w H h) (e:Rd H a u):ybc P w H h a u:=e.ok ok
theorem dk_rd {kvs:List (Key×V)} (ok:HOk P w H h) (e:Rd H a (.dK kvs)):kvs.length≤sizeLine∧(a == sysModules)=false∧∃ vs,KV kvs vs∧h.DictOf (qbq P w) a vs:=
  show ybc P w H h a (.dK kvs) from rd_of ok e
theorem dk_of {kvs:List (Key×V)} (ok:HOk P w H h) (e:H a=some (.dK kvs)):kvs.length≤sizeLine∧(a == sysModules)=false∧∃ vs,KV kvs vs∧h.DictOf (qbq P w) a vs:=dk_rd ok (.inl e)
theorem ykm {ks:List Key} (ok:HOk P w H h) (e:H a=some (.tup (ks.map kV))):(tupleKind (qbq P w)).is h ks a:=by
  obtain ⟨_,its,r,o,h1,h2,n,h3⟩:=(show ybc P w H h a (.tup (ks.map kV)) from ok a _ e)
  exact ⟨o,its.toArray,n,h1,h2,h3,by simpa using qgw r⟩
theorem dt_rd {kvs:List (List Key×V)} (ok:HOk P w H h) (e:Rd H a (.dT kvs)):kvs.length≤sizeLine∧(a == sysModules)=false∧
    ∃ xs,KT H kvs xs∧h.DictOfH (tupleKind (qbq P w)) a xs:=by
  obtain ⟨z,y,xs,r,o,es,ep,h1,h2,h3,h4,h5⟩:=(show ybc P w H h a (.dT kvs) from rd_of ok e)
  refine ⟨z,y,xs,r,o,es,ep,h1,h2,h3,h4,fun x hx=>?_,h5⟩
  have all:∀ {l:List (List Key×V)} {m:List (List Key×Addr×Value)},KT H l m→∀ x∈m,(tupleKind (qbq P w)).is h x.1 x.2.1:=by
    intro l m q
    induction q with
    | nil=>intro x hx; exact nomatch hx
    | @cons p q ps qs hq t ih=>
      intro x hx
      rcases List.mem_cons.mp hx with e | hx
      · subst e
        exact ykm ok (by rw [← hq.1]; exact hq.2.1)
      · exact ih x hx
  exact all r x hx
theorem dt_of {kvs:List (List Key×V)} (ok:HOk P w H h) (e:H a=some (.dT kvs)):kvs.length≤sizeLine∧(a == sysModules)=false∧
    ∃ xs,KT H kvs xs∧h.DictOfH (tupleKind (qbq P w)) a xs:=dt_rd ok (.inl e)
end
def DGet (H:Hp) (a:Addr) (y:V) (r:Option V):Prop:=
  (∃ kvs k,Rd H a (.dK kvs)∧y=kV k∧r=valV kvs k)∨∃ kvs k b,Rd H a (.dT kvs)∧y=.ref b∧H b=some (.tup (k.map kV))∧r=valV kvs k
def DPut (H:Hp) (a:Addr) (y v:V) (H':Hp):Prop:=
  (∃ kvs k,H a=some (.dK kvs)∧y=kV k∧kvs.length < sizeLine∧H'=upd H a (.dK (putK kvs k v)))∨
  ∃ kvs k b,H a=some (.dT kvs)∧y=.ref b∧H b=some (.tup (k.map kV))∧kvs.length < sizeLine∧H'=upd H a (.dT (putK kvs k v))
theorem DGet.k {H:Hp} {a:Addr} {kvs:List (Key×V)} {k:Key} (e:H a=some (.dK kvs)):DGet H a (kV k) (valV kvs k):=.inl ⟨kvs,k,.inl e,rfl,rfl⟩
theorem DPut.k {H:Hp} {a:Addr} {kvs:List (Key×V)} {k:Key} {v:V} (e:H a=some (.dK kvs)) (hl:kvs.length < sizeLine):DPut H a (kV k) v (upd H a (.dK (putK kvs k v))):=.inl ⟨kvs,k,e,rfl,hl,rfl⟩
section
variable {X:Cx} {pins:List (Addr×Obj)} {σ:St} {H:Hp} {s:Shared} {a:Addr} {y v:V} {u r:Value} {o:Option V} {A:Around} {E:Value→Shared→Prop}
theorem Inv.big (I:Inv X pins σ H s):sysModules < s.heap.objs.size:=by
  have h:mainGlobals < s.heap.objs.size:=(I.mod.glob.keeps I.bk).lt
  exact Nat.lt_trans (by decide) h
theorem qki {h':Heap} {t':Nat} {ob:HO} (I:Inv X pins σ H s) (mu:Mut (H a)) (hs:Heap.SameBut a s.heap h') (he:∃ q,h'.get? a=some q) (new:ybc X.prog X.w (upd H a ob) h' a ob) :
    Inv X pins σ (upd H a ob) { s with heap:=h',toks:=t' }:=
  I.write (x:=a) (e:=a) mu (.inl rfl) (fun b q hb z=>(hs.2 b hb).trans z) he new
theorem dk_new {P:Program} {w:World} {H':Hp} {h':Heap} {kvs:List (Key×V)} {vs:List (Key×Value)} (z:kvs.length≤sizeLine) (hd:(a == sysModules)=false) (rel:KV kvs vs) (dd:h'.DictOf (qbq P w) a vs) :
    ybc P w H' h' a (.dK kvs):=⟨z,hd,vs,rel,dd⟩
theorem qjf {H':Hp} {Q:Unit→Shared→Prop} (hu:A.units + 1 < cLine) (I:Inv X pins σ H s) (g:DPut H a y v H') (ry:RelV y u) (rv:RelV v r) (h:∀ s',Inv X pins σ H' s'→Q () s') :
    wpAny (model X.prog X.w) A (setItem (.ref a) u r) Q E s:=by
  rcases g with ⟨kvs,k,e,ey,l,eH⟩ | ⟨kvs,k,b,e,ey,eb,l,eH⟩
  · subst ey eH
    obtain ⟨z,hd,vs,rel,dd⟩:=dk_of I.hok e
    have hz:vs.length≤sizeLine:=by rw [← rel.length]; exact z
    have hl:(putK kvs k v).length≤sizeLine:=by have:=qdy kvs k v; omega
    refine wpAny_setItem_pairs (hsz:=hz) (kV_is ry) dd fun h' dd' hs=>h _ ?_
    have he:∃ q,h'.get? a=some q:=let ⟨q,_,_,hq,_⟩:=dd'; ⟨q,hq⟩
    exact qki I (by rw [e]; exact True.intro) hs he (dk_new hl hd (rel.put k rv) dd')
  · subst ey eH
    cases (show u=Value.ref b from ry)
    obtain ⟨z,hd,xs,rel,dd⟩:=dt_of I.hok e
    have hz:xs.length≤sizeLine:=by rw [← Paired.length rel]; exact z
    have hl:(putK kvs k v).length≤sizeLine:=by have:=qdy kvs k v; omega
    refine wpAny_setItem_heap (hsz:=hz) (tupleKind_room_in1 hu) (ykm I.hok eb) dd fun h' dd' hs=>h _ ?_
    obtain ⟨q,es,ep,hq,h2,h3,h4,_,h5⟩:=dd'
    refine qki I (by rw [e]; exact True.intro) hs ⟨q,hq⟩ ⟨hl,hd,_,(rel.put k eb rv).keeps fun c ys ec=>?_,q,es,ep,hq,h2,h3,h4,h5⟩
    rw [qaf (ne_of ec e (fun z=>nomatch z))]
    exact ec
end
def sDPut (td ty tv:TE):TS:=fun D σ H=>tv σ H fun v H1=>td σ H1 fun x H2=>ty σ H2 fun y H3=>∃ a H4,x=.ref a∧DPut H3 a y v H4∧D.nx σ H4
section
variable {X:Cx} {o i e value:Expr} {pos pos' tpos:Pos} {td ty tv:TE}
theorem ps_dput (hu:X.A.units + 1 < cLine) (ho:PE X o td) (hi:PE X i ty) (hv:PE X value tv) (hs:swapsWith value (some (.Subscript o i pos')) pos.line X.env=pure false) :
    PS X (.Assign [.Subscript o i pos'] value pos) (sDPut td ty tv):=by
  intro pins s σ H D I h
  refine wpAny_Assign_Subscript (thn (hv pins s σ H _ I h) fun r s1 ⟨v,H1,I1,rv,q1⟩=>thn (ho pins s1 σ H1 _ I1 q1) fun u s2 ⟨x,H2,I2,rx,q2⟩=>thn (hi pins s2 σ H2 _ I2 q2) fun iv s3 ⟨y,H3,I3,ry,a,H4,ex,g,q3⟩=>?_) hs
  subst ex
  obtain rfl:u=Value.ref a:=rx
  exact qjf hu I3 g ry rv fun s4 I4=>⟨σ,H4,I4,q3⟩
end
theorem dk_empty {P:Program} {w:World} {H:Hp} (h:Heap) (hb:sysModules < h.objs.size):ybc P w H (h.push { cls:=.type "dict",data:=.dict #[] }) h.objs.size (.dK []):=
  ⟨Nat.zero_le _,beq_eq_false_iff_ne.mpr (Ne.symm (Nat.ne_of_lt hb)),[],.nil,Heap.DictOf.new h⟩
def tDNewK:TE:=fun _ H Q=>∀ p,H p=none→Q (.ref p) (upd H p (.dK []))
section
variable {X:Cx} {pos:Pos}
theorem ye3:PE X (.Dict [] [] pos) tDNewK:=fun pins s σ H Q I h=>
  wpAny_Dict_empty ⟨.ref s.heap.objs.size,_,I.laid (a:=s.heap.objs.size) (o:=.dK []) (t':=s.toks) (fun _ _ q=>Heap.get?_push_of_some _ q) (Nat.le_refl _) (dk_empty s.heap I.big),rfl,h _ (I.hok.fresh (Nat.le_refl _))⟩
end
structure M2 (X:Cx) (o:Expr) (m:Str) (apos:Pos) (e f:Expr) (cpos:Pos):Prop where
  base:attributeBase o m X.env (eval o X.env)=eval o X.env
  few:((backTo cpos (starEach [e,f] X.env)).all (fun x=>!x.1) && (backToKw cpos (keywordEach [] X.env)).all (fun x=>x.1.isSome)
    && decide (([e,f]:List Expr).length + ([]:List Keyword).length + (if ([]:List Keyword).isEmpty then 0 else 1) < 30))=true
  line:(apos.endLine == cpos.line)=true
  trees:backTo cpos (starEach [e,f] X.env)=[(false,eval e X.env),(false,eval f X.env)]
def IsD (H:Hp) (a:Addr):Prop:=(∃ kvs,Rd H a (.dK kvs))∨∃ kvs,Rd H a (.dT kvs)
theorem isD_at {X:Cx} {pins:List (Addr×Obj)} {σ:St} {H:Hp} {s:Shared} {a:Addr} (I:Inv X pins σ H s) (d:IsD H a) :
    s.TypeIs (.ref a) "dict"∧(∀ b,Value.ref a=.ref b→∃ ob,s.heap.get? b=some ob∧ob.dict=none)∧(a == sysModules)=false:=by
  rcases d with ⟨kvs,e⟩ | ⟨kvs,e⟩
  · obtain ⟨_,hd,vs,_,dd⟩:=dk_rd I.hok e
    refine ⟨dd.typeIs,fun b q=>?_,hd⟩
    cases q
    obtain ⟨ob,_,_,h1,h2,_⟩:=dd
    exact ⟨ob,h1,h2.2.1⟩
  · obtain ⟨_,hd,xs,_,dd⟩:=dt_rd I.hok e
    refine ⟨dd.typeIs,fun b q=>?_,hd⟩
    cases q
    obtain ⟨ob,_,_,h1,h2,_⟩:=dd
    exact ⟨ob,h1,h2.2.1⟩
section
variable {X:Cx} {pins:List (Addr×Obj)} {σ:St} {H:Hp} {s:Shared} {a:Addr} {y d:V} {u r:Value} {o:Option V} {A:Around} {E:Value→Shared→Prop}
theorem d_get2 {Q:Value→Shared→Prop} (hu:A.units + 1 < cLine) (I:Inv X pins σ H s) (g:DGet H a y o) (ry:RelV y u) (rd:RelV d r) (h:∀ w' s',Inv X pins σ H s'→RelV (o.getD d) w'→Q w' s') :
    wpAny (model X.prog X.w) A (call (.builtin "dict.get") [.ref a,u,r]) Q E s:=by
  rcases g with ⟨kvs,k,e,ey,l⟩ | ⟨kvs,k,b,e,ey,eb,l⟩
  · subst ey
    obtain ⟨z,hd,vs,rel,dd⟩:=dk_rd I.hok e
    refine call_meetsIn PySem.F.slot_dict_get dd.typeIs PySem.F.entry_dict_get (PySem.F.args_dict_get_3 _ _ _) (meets_dict_get_default (qbq X.prog X.w) a (kV_is ry) hd r) ⟨_,dd.mapOf,h _ _ (I.tok _) ?_⟩
    rw [l]
    exact (rel.val k).getD rd
  · subst ey
    cases (show u=Value.ref b from ry)
    obtain ⟨z,hd,xs,rel,dd⟩:=dt_rd I.hok e
    refine call_meetsIn PySem.F.slot_dict_get dd.typeIs PySem.F.entry_dict_get (PySem.F.args_dict_get_3 _ _ _) (meetsH_dict_get_default (tupleKind (qbq X.prog X.w)) a b hd r) ⟨tupleKind_room_in1 hu,k,xs,ykm I.hok eb,dd,h _ _ (I.tok _) ?_⟩
    rw [l]
    exact (rel.val k).getD rd
end
def tDGet2 (td ty tx:TE):TE:=fun σ H Q=>td σ H fun x H1=>∃ a,x=.ref a∧IsD H1 a∧ty σ H1 fun y H2=>tx σ H2 fun z H3=>∃ o,DGet H3 a y o∧Q (o.getD z) H3
section
variable {X:Cx} {o e f:Expr} {apos cpos:Pos} {td ty tx:TE}
theorem pe_dget2 (hu:X.A.units + 1 < cLine) (ho:PE X o td) (he:PE X e ty) (hf:PE X f tx) (m:M2 X o "get" apos e f cpos):PE X (.Call (.Attribute o "get" apos) [e,f] [] cpos) (tDGet2 td ty tx):=by
  intro pins s σ H Q I h
  refine wpAny_Call_method m.base m.few m.line PySem.F.plainAttrs_dict PySem.F.slot_dict_get PySem.F.type_dict_get (thn (ho pins s σ H _ I h) fun u s1 ⟨x,H1,I1,rx,a,ex,d,q1⟩=>?_)
  subst ex
  obtain rfl:u=Value.ref a:=rx
  obtain ⟨t1,t2,_⟩:=isD_at I1 d
  refine ⟨t1,t2,?_⟩
  rw [m.trees]
  refine Calls.callWith_builtin rfl (Calls.evalArgs_plain (Calls.spliced_cons (thn (he pins s1 σ H1 _ I1 q1) fun iv s2 ⟨y,H2,I2,ry,q2⟩=>
    Calls.spliced_cons (thn (hf pins s2 σ H2 _ I2 q2) fun fv s3 ⟨z,H3,I3,rz,ov,g,q3⟩=>Calls.spliced_nil ?_))))
  exact d_get2 hu I3 g ry rz fun w' s4 I4 rw'=>⟨_,H3,I4,rw',q3⟩
end
end L2
set_option Elab.async false
set_option linter.all false
set_option maxRecDepth 100000
namespace Mx
open PySem L2 PyProof.Rows
structure QE (X:Cx) (e:Expr) (t:TE):Prop where
  of:PE X e t
section
variable {X:Cx} {e o i:Expr} {te td ty:TE} {pos:Pos}
theorem qaa (h:PE X e te):QE X e te:=⟨h⟩
theorem qaw {i:Nat} {x:Str} {pos':Pos} (hN:X.N.Nodup) (hi:X.N[i]?=some x) (hx:Loc X.env.scope x) (he:QE X e te) (hs:swapsWith e (some (.Name x pos')) pos.line X.env=pure false:=by rfl) (hf:X.fn x=true∨X.env.scope.names.lookup x=some .local:=by first | exact .inl rfl | exact .inr rfl | assumption) :
    QS X (.Assign [.Name x pos'] e pos) (tAsg te (yfw i)):=⟨yca hN hi hx he.of hs hf⟩
theorem yao (he:QE X e te):QS X (.Return (some e) pos) (tRet te):=⟨qbc he.of⟩
structure QT (X:Cx) (e:Expr) (t:TT):Prop where
  of:PT X e t
theorem qt_of {t:TT} (h:PT X e t):QT X e t:=⟨h⟩
theorem ya2 {a b:List Stmt} {t u:TS} {c:Expr} {tc:TT} (hc:QT X c tc) (ha:QSs X a t) (hb:QSs X b u):QS X (.If c a b pos) (tIfS tc t u):=⟨ydg hc.of ha.of hb.of⟩
def tTStrs (xs:List Str):TE:=fun _ H Q=>xs.length≤sizeLine∧∀ p,H p=none→Q (.ref p) (upd H p (.tup (xs.map V.str)))
theorem qe_tstrs {es:List Expr} {k} {xs:List Str} (h:yhe es=some xs):QE X (.Tuple es k pos) (tTStrs xs):=⟨by
  intro pins s σ H Q I hq
  refine yh7 (qhi h) pins s σ H Q I ?_
  exact ⟨by rw [List.length_map]; exact hq.1,hq.2⟩⟩
theorem yav {a b:Expr} {ta tb:TE} {op:CmpOp} {r:R2} (ho:OpR X (compareOp op) r) (ha:QE X a ta) (hb:QE X b tb) (hm:behindInMarks op b=false):QT X (.Compare a [op] [b] pos) (tTest (tOp r ta tb)):=⟨qbn ho ha.of hb.of hm⟩
theorem ybu {a b:Expr} {ta tb:TE} {r:R2} (hr:IxR X r) (ha:QE X a ta) (hb:QE X b tb) (hs:ykz b):QE X (.Subscript a b pos) (tOp r ta tb):=⟨ybq hr ha.of hb.of hs⟩
structure QA (X:Cx) (es:List Expr) (t:TA):Prop where
  of:PA X es t
theorem qad:QA X [] tNil:=⟨yac⟩
theorem qdk {es:List Expr} {t:TA} (ha:QE X e te) (hr:QA X es t) (hs:starEach (e :: es) X.env=(false,eval e X.env) :: starEach es X.env:=by rfl):QA X (e :: es) (yc8 te t):=⟨yaa ha.of hr.of hs⟩
theorem yap {es:List Expr} {t:TA} (h:QA X es t):QE X (.List es pos) (tLst t):=⟨qd7 h.of⟩
theorem ycd {es:List Expr} {k} {t:TA} (h:QA X es t):QE X (.Tuple es k pos) (tTup t):=⟨yh7 h.of⟩
end
end Mx
set_option Elab.async false
set_option linter.all false
set_option maxRecDepth 100000
namespace Mx
open PySem L2 PyProof.Rows
section
variable {X:Cx} {e a b c:Expr} {es:List Expr} {te ta tb:TE} {t:TA} {tA tB':TT} {pos p:Pos} {x:Str} {rest:List Expr}
theorem qan {k:Const} {j} (ha:QE X (.Constant k j pos) te) (hr:QA X es t):QA X (.Constant k j pos :: es) (yc8 te t):=⟨pa_cs ha.of hr.of⟩
theorem yaf {x:Str} (ha:QE X (.Name x pos) te) (hr:QA X es t):QA X (.Name x pos :: es) (yc8 te t):=⟨yhm ha.of hr.of⟩
theorem qhz {f xs ks} (ha:QE X (.Call f xs ks pos) te) (hr:QA X es t):QA X (.Call f xs ks pos :: es) (yc8 te t):=⟨pa_cl ha.of hr.of⟩
theorem qew {o i:Expr} (ha:QE X (.Subscript o i pos) te) (hr:QA X es t):QA X (.Subscript o i pos :: es) (yc8 te t):=⟨yaa ha.of hr.of rfl⟩
theorem ycw {o i:Expr} {op} (ha:QE X (.BinOp o op i pos) te) (hr:QA X es t):QA X (.BinOp o op i pos :: es) (yc8 te t):=⟨yaa ha.of hr.of rfl⟩
theorem qdl {xs k} (ha:QE X (.Tuple xs k pos) te) (hr:QA X es t):QA X (.Tuple xs k pos :: es) (yc8 te t):=⟨yaa ha.of hr.of rfl⟩
theorem ycx {xs} (ha:QE X (.List xs pos) te) (hr:QA X es t):QA X (.List xs pos :: es) (yc8 te t):=⟨yaa ha.of hr.of rfl⟩
theorem qa_lc {l o r} (ha:QE X (.ListComp l o r pos) te) (hr:QA X es t):QA X (.ListComp l o r pos :: es) (yc8 te t):=⟨yaa ha.of hr.of rfl⟩
theorem qa3 {op:Operator} {r:R2} (ho:OpR X (binaryOp op) r) (ha:QE X a ta) (hb:QE X b tb):QE X (.BinOp a op b pos) (tOp r ta tb):=⟨ycn ho ha.of hb.of⟩
structure QW (X:Cx) (e:Expr) (t:TT):Prop where
  of:PW X e t
theorem qi9 (ha:QT X a tA):QW X (.BoolOp .And [a] pos) tA:=⟨ye8 ha.of⟩
theorem qcw (ha:QT X a tA):QW X (.BoolOp .Or [a] pos) tA:=⟨qgu ha.of⟩
theorem qw_and (ha:QT X a tA) (hb:QW X (.BoolOp .And (b :: rest) pos) tB'):QW X (.BoolOp .And (a :: b :: rest) pos) (tAnd tA tB'):=⟨qg3 ha.of hb.of⟩
theorem yd2 (ha:QT X a tA) (hb:QW X (.BoolOp .Or (b :: rest) pos) tB'):QW X (.BoolOp .Or (a :: b :: rest) pos) (tOr tA tB'):=⟨qiu ha.of hb.of⟩
theorem QW.pt (h:QW X e tA):QT X e tA:=⟨h.of.pt⟩
theorem ybv (ha:QT X a tA):QT X (.UnaryOp .Not a pos) (tNot tA):=⟨ydt ha.of⟩
theorem yba {f xs ks} (h:QE X (.Call f xs ks pos) te):QT X (.Call f xs ks pos) (tB te):=⟨qdb h.of⟩
variable {id T:String} {r:List V→Hp→VK→Prop}
theorem qa8 (hc:yds X (.builtin id) r) (hg:Gl X x) (hm:X.mg x=none) (hv:bootBuiltins x=some (.builtin id)) (ha:QA X (e :: es) t) (hn:x≠"__name__":=by decide) (hdb:(x == ("__debug__" : Str))=false:=by decide)
    (he:starEach (e :: es) X.env=(false,eval e X.env) :: starEach es X.env:=by rfl) (hpl:(backTo pos (starEach es X.env)).any (·.1)=false:=by rfl):QE X (.Call (.Name x p) (e :: es) [] pos) (tCB r t):=⟨yae hc hg hm hv ha.of hn hdb he hpl⟩
theorem qbi (hc:yds X (.type T) r) (hg:Gl X x) (hm:X.mg x=none) (hv:bootBuiltins x=some (.type T)) (ha:QA X (e :: es) t) (hn:x≠"__name__":=by decide) (hdb:(x == ("__debug__" : Str))=false:=by decide)
    (he:starEach (e :: es) X.env=(false,eval e X.env) :: starEach es X.env:=by rfl) (hpl:(backTo pos (starEach es X.env)).any (·.1)=false:=by rfl):QE X (.Call (.Name x p) (e :: es) [] pos) (tCB r t):=⟨qco hc hg hm hv ha.of hn hdb he hpl⟩
theorem yai {k m:Nat} {ps:List Str} {sp:Sp} (h:Has X.prog X.w X.K X.mg X.base k x ps sp) (hr:Room m X.A) (ha:QA X (e :: es) t) (hk:k≤m:=by decide) (hg:Gl X x:=by rfl)
    (hdb:(x == ("__debug__" : Str))=false:=by decide) (he:starEach (e :: es) X.env=(false,eval e X.env) :: starEach es X.env:=by rfl) (hpl:(backTo pos (starEach es X.env)).any (·.1)=false:=by rfl):QE X (.Call (.Name x p) (e :: es) [] pos) (yi8 sp [] E0 t):=⟨qak h hr ha.of hk hg hdb he hpl⟩
structure QI (X:Cx) (tg iter:Expr) (wi:TI):Prop where
  of:PI X tg iter wi
theorem qkg {tg iter:Expr} {wi:TI} (h:PI X tg iter wi):QI X tg iter wi:=⟨h⟩
theorem qfb {tg l:Expr} {tl:TE} (h:QE X l tl):QI X tg l (iList X.K tl):=⟨ycs h.of⟩
theorem qdw {tg iter:Expr} {body:List Stmt} {wi:TI} {g:TG} {tb:TS} (hp:PassesOwn (model X.prog X.w) X.A X.env X.xe) (hc:X.calm=true) (hi:QI X tg iter wi) (hg:PG X tg g) (hb:QSs X body tb) (hs:∀ x,foldedSetIterable iter X.env x=pure x:=by intro _; rfl):QS X (.For tg iter body [] pos) (tFor wi g tb):=⟨yfh hp hc hi.of hg hb.of hs⟩
theorem ya6 (he:QE X e te) (hs:swapsWith e none pos.line X.env=pure false:=by rfl):QS X (.Expr e pos) (tDrop te):=⟨ydx he.of hs⟩
theorem qs_asg {tg:Expr} {g:TG} (he:QE X e te) (hg:PG X tg g) (hs:swapsWithSole [tg] e pos.line X.env=pure false:=by rfl) (hw:swappedStores [tg] e X.env=pure none:=by rfl) (h1:(assignEach [tg] X.env).map (·.2)=[assign tg X.env]:=by rfl):QS X (.Assign [tg] e pos) (tAsg te g):=⟨qjh he.of hg hs hw h1⟩
end
end Mx
namespace Mx
open PySem L2 PyProof.Rows
theorem qai {X:Cx} {st:Stmt} {rest ss:List Stmt} {t:TS} (h:ss=st :: rest) (p:QSs X (st :: rest) t):QSs X ss t:=h ▸ p
section
variable {P:Program} {w:World} {K:PySem.W.Frag} {mg:Str→Option Value} {base:Heap}
theorem Has.ofQ {x:Str} {st:Stmt} {ps N:List Str} {k:Nat} {sp:Sp} (F:FnAt K mg x st ps) (S:FnScope N ps (yab st)) (len:∀ vs H Q E,sp vs H Q E→vs.length=ps.length)
    (hbody:∀ (f:Addr) (cdv:Value) (A:Around) (outer:List Env) (s:Shared) (H:Hp) (vs:List V) (Q:VK) (E:XK),Room k (A.deeper (envOfC x (yab st) s.heap.objs.size f cdv))→sp vs H Q E→
      ∃ t,QSs (cxOf CX0 P w K mg base N x (yab st) f cdv A outer s H E).nox (qag st) t∧t { nx:=fun _ H'=>Q .non H',rt:=Q } (yd5 N vs) H):Has P w K mg base (k + 1) x ps sp:=
  Has.of F S len fun f cdv A outer s H vs Q E hr h=>by
    obtain ⟨t,h1,h2⟩:=hbody f cdv A outer s H vs Q E hr h
    exact ⟨t,h1.of,h2⟩
theorem Fun.okQ {x qual:Str} {st:Stmt} {f:Addr} {fd:FuncData} {N ps:List Str} {k:Nat} {sp:Sp} (F:Fun K x qual st f fd) (S:FnScope N ps (yab st)) (len:∀ vs H Q E,sp vs H Q E→vs.length=ps.length)
    (hbody:∀ (cdv:Value) (A:Around) (outer:List Env) (s:Shared) (H:Hp) (vs:List V) (Q:VK) (E:XK),Room k (A.deeper (envOfC qual (yab st) s.heap.objs.size f cdv))→sp vs H Q E→
      ∃ t,QSs (cxOf CX0 P w K mg base N qual (yab st) f cdv A outer s H E).nox (qag st) t∧t { nx:=fun _ H'=>Q .non H',rt:=Q } (yd5 N vs) H):FnOk P w K mg base CX0 (k + 1) f fd ps sp:=
  F.ok S len fun cdv A outer s H vs Q E hr h=>by
    obtain ⟨t,h1,h2⟩:=hbody cdv A outer s H vs Q E hr h
    exact ⟨t,h1.of,h2⟩
end
end Mx
set_option Elab.async false
set_option linter.all false
set_option maxRecDepth 100000
namespace Mx
open PySem L2 PyProof.Rows
def yb0 (K:PySem.W.Frag) (C:Addr) (m qual:Str) (st:Stmt) (ps:List Str):Prop:=∃ f fd,Meth K C m f∧Fun K m qual st f fd∧qcv K fd ps []
def HasM (P:Program) (w:World) (K:PySem.W.Frag) (mg:Str→Option Value) (base:Heap) (C:Addr) (k:Nat) (m:Str) (ps:List Str) (sp:Sp):Prop:=
  ∃ f fd,Meth K C m f∧qcv K fd ps []∧FnOk P w K mg base CX0 k f fd ps sp
def HasI (P:Program) (w:World) (K:PySem.W.Frag) (mg:Str→Option Value) (base:Heap) (C:Addr) (k:Nat) (x:Str) (ps:List Str) (sp:Sp):Prop:=
  ∃ f fd,mg x=some (.ref C)∧Mk K C f∧qcv K fd ps []∧FnOk P w K mg base CX0 k f fd ps sp
section
variable {P:Program} {w:World} {K:PySem.W.Frag} {mg:Str→Option Value} {base:Heap} {C:Addr}
theorem HasM.ofQ {m qual:Str} {st:Stmt} {ps N:List Str} {k:Nat} {sp:Sp} (F:yb0 K C m qual st ps) (S:FnScope N ps (yab st)) (len:∀ vs H Q E,sp vs H Q E→vs.length=ps.length)
    (hbody:∀ (f:Addr) (cdv:Value) (A:Around) (outer:List Env) (s:Shared) (H:Hp) (vs:List V) (Q:VK) (E:XK),Room k (A.deeper (envOfC qual (yab st) s.heap.objs.size f cdv))→sp vs H Q E→
      ∃ t,QSs (cxOf CX0 P w K mg base N qual (yab st) f cdv A outer s H E).nox (qag st) t∧t { nx:=fun _ H'=>Q .non H',rt:=Q } (yd5 N vs) H):HasM P w K mg base C (k + 1) m ps sp:=by
  obtain ⟨f,fd,h1,h2,h3⟩:=F
  exact ⟨f,fd,h1,h3,Mx.Fun.okQ h2 S len fun cdv A outer s H vs Q E hr h=>hbody f cdv A outer s H vs Q E hr h⟩
theorem HasI.of {x m:Str} {ps:List Str} {k:Nat} {sp:Sp} {f:Addr} (hm:mg x=some (.ref C)) (M:Mk K C f) (u:∀ g,Meth K C "__init__" g→g=f) (h:HasM P w K mg base C k "__init__" ps sp):HasI P w K mg base C k x ps sp:=by
  obtain ⟨g,fd,h1,h2,h3⟩:=h
  have:=u g h1
  subst this
  exact ⟨g,fd,hm,M,h2,h3⟩
theorem yf7 {m:Str} {f g:Addr} (a:PySem.W.findIn K (.ref C) m=some (some (.ref f))) (b:Meth K C m g):g=f:=by
  have:=b.at_
  rw [a] at this
  cases this
  rfl
end
section
variable {X:Cx} {e o value:Expr} {es:List Expr} {te ta tv:TE} {t:TA} {pos p apos pos':Pos} {C:Addr} {m x f:Str}
theorem qe5 {k n:Nat} {ps:List Str} {sp:Sp} {pl:Sem Bool} (c:Cls X.K C) (h:HasM X.prog X.w X.K X.mg X.base C k m ps sp) (hr:Room n X.A) (he:QE X o ta) (hk:k≤n:=by decide)
    (ht:eval (.Call (.Attribute o m apos) [] [] pos) X.env=(do
      let ov ← eval o X.env
      standAt apos.atName
      let (f,first) ← holding [ov] (getMethod ov m pl)
      callWith pos f first (backTo pos (starEach [] X.env)) (backToKw pos (keywordEach [] X.env))):=by rfl) :
    QE X (.Call (.Attribute o m apos) [] [] pos) (tMeth C m sp [] E0 ta tNil):=by
  obtain ⟨f,fd,h1,h2,h3⟩:=h
  exact ⟨pe_meth0 (pl:=pl) he.of c h1 h3 (hr.mono hk) h2 .nil pass0 ht⟩
theorem yh3 {k n:Nat} {ps:List Str} {sp:Sp} (h:HasI X.prog X.w X.K X.mg X.base C k x ps sp) (hr:Room n X.A) (ha:QA X (e :: es) t) (hk:k + 1≤n:=by decide) (hg:Gl X x:=by rfl)
    (hdb:(x == ("__debug__" : Str))=false:=by decide) (he:starEach (e :: es) X.env=(false,eval e X.env) :: starEach es X.env:=by rfl) (hpl:(backTo pos (starEach es X.env)).any (·.1)=false:=by rfl) :
    QE X (.Call (.Name x p) (e :: es) [] pos) (tMake C sp [] E0 t):=by
  obtain ⟨f,fd,h0,h1,h2,h3⟩:=h
  exact ⟨qkk h1 h3 (hr.mono hk) hg h0 h2 .nil pass0 ha.of hdb he hpl⟩
theorem ydk (he:QE X e ta) (hb:attributeBase e f X.env (eval e X.env)=eval e X.env):QE X (.Attribute e f pos) (tFld X.K ta f):=⟨pe_fld he.of hb⟩
theorem yfi (ha:QE X o ta) (hv:QE X value tv) (hs:swapsWith value (some (.Attribute o f pos')) pos.line X.env=pure false):QS X (.Assign [.Attribute o f pos'] value pos) (sFld X.K ta tv f):=⟨ps_fld ha.of hv.of hs⟩
theorem qir {b:Expr} {g:Str} (ha:QE X (.Attribute b g pos) te) (hr:QA X es t):QA X (.Attribute b g pos :: es) (yc8 te t):=⟨yaa ha.of hr.of rfl⟩
end
end Mx
set_option Elab.async false
set_option linter.all false
set_option maxRecDepth 100000
set_option Elab.async false
set_option linter.all false
set_option maxRecDepth 100000
set_option maxHeartbeats 2000000
namespace L2
open PySem PySem.Spec PyProof.Rows PySem.W
structure Fly (h:Heap) (H:Hp) (a T:Addr):Prop where
  ob:∃ o vs,h.get? a=some o∧o.data=.fields vs∧vs[1]?=some (.ref T)
  ne:T≠a
  fr:H T=none
  tb:∃ oT ts,h.get? T=some oT∧oT.data=.fields ts∧ts[3]?=some .none
def CX1 (P:Program) (w:World):CXT:=fun outer H s E e s'=>∃ a T C dx H',e=.ref a∧s'.os=s.os∧AllBare s'.gens∧Un (frs outer) [] H H' s.heap s'.heap∧HOk P w H' s'.heap∧
  H' a=some (.ext (qch a C dx))∧Fly s'.heap H' a T∧E (.ref a) none H'
def Raw (h:Heap) (a:Addr):Prop:=∃ o vs,h.get? a=some o∧o.data=.fields vs∧vs[1]?=some .none
theorem setSame {ts:Array Value} {i:Nat} {v:Value} (h:ts[i]?=some v):ts.setIfInBounds i v=ts:=by
  apply Array.ext_getElem?
  intro j
  by_cases e:i=j
  · subst e
    rw [Array.getElem?_setIfInBounds_self_of_lt (Array.getElem?_eq_some_iff.mp h).1,h]
  · rw [Array.getElem?_setIfInBounds_ne e]
theorem qjx {o:Obj} {ts:Array Value} {i:Nat} {v:Value} (hd:o.data=.fields ts) (h:ts[i]?=some v):Obj.mapFields (·.setIfInBounds i v) o=o:=by
  obtain ⟨c,d,dt,sl⟩:=o
  simp only at hd
  subst hd
  unfold Obj.mapFields
  simp only [setSame h]
theorem mapDict (f:Array Value→Array Value) (o:Obj):(Obj.mapFields f o).dict=o.dict:=by
  obtain ⟨c,d,dt,sl⟩:=o
  cases dt <;> rfl
section
variable {X:Cx} {pins:List (Addr×Obj)} {σ:St} {H:Hp} {s:Shared} {a C:Addr} {dx:Option Addr}
theorem fly_un {h1 h':Heap} {T':Addr} (I:Inv X pins σ H s) (ha:H a=some (.ext (qch a C dx))) (h1s:Heap.SlotsOnly (frs X.stack) s.heap h1) (hT:T'=h1.objs.size)
    (keep:∀ b o,b≠a→h1.get? b=some o→h'.get? b=some o) (hx:qch a C dx h'):Un (frs X.stack) [] H H s.heap h'∧HOk X.prog X.w H h'∧H T'=none∧s.heap.get? T'=none:=by
  have na:∀ b,H b=none→b≠a:=fun b n z=>by subst z; rw [ha] at n; cases n
  have hz:s.heap.objs.size=T':=by rw [hT,h1s.1]
  refine ⟨⟨fun b o e n hb _=>keep b o (na b n) ((h1s.2.1 b hb).trans e),fun b o e n hb _=>?_,fun _ _ _ n _=>n,fun b o e _=>?_,fun _ _ q=>q,fun _ _ _ q=>q,fun b ps q=>⟨#[],by rw [q]; simp⟩⟩,fun b u e=>?_,I.hok.fresh (by omega),Heap.get?_none_of_le (by omega)⟩
  · obtain ⟨sl,q⟩:=h1s.2.2 b o e
    exact ⟨sl,keep b _ (na b n) q⟩
  · by_cases hb:b=a
    · subst hb; obtain ⟨o,_,q,_⟩:=hx; exact ⟨o,q⟩
    · obtain ⟨sl,q⟩:=h1s.2.2 b o e
      exact ⟨_,keep b _ hb q⟩
  · by_cases hb:b=a
    · subst hb
      rw [ha] at e; cases e
      exact yik hx
    · refine (I.hok b u e).stay (fun c v hc q=>?_) (fun _ q=>q) fun _ _ q=>q
      have hcH:H c≠none:=by
        rcases hc with z | z
        · rw [z,e]; simp
        · rw [z]; simp
      have hca:c≠a:=by
        rcases hc with z | z
        · rw [z]; exact hb
        · intro z2; rw [z2,ha] at z; cases z
      exact keep c v hca ((h1s.2.1 c fun z=>hcH (I.stkFree c z)).trans q)
theorem qie {M:Model} {E:Value→Shared→Prop} {Q:Unit→Shared→Prop} (I:Inv X pins σ H s) (hs:X.stack=X.env :: X.outer) (hf:X.env.frame=some X.env.locals) (ha:H a=some (.ext (qch a C dx)))
    (st:Raw s.heap a∨∃ T,Fly s.heap H a T)
    (k:∀ h' T',Inv X pins σ H { s with heap:=h' }→Fly h' H a T'→s.heap.get? T'=none→Q () { s with heap:=h' }) :
    wpAny M X.A (noteFrame (.ref a) X.env) (fun _ s1=>wpAny M X.A (setFlight (.ref a) none) Q E s1) E s:=by
  have hfr:X.A.frames=some (X.env :: X.outer):=by rw [← hs]; exact I.ok.frames
  have hl:s.heap.FunFrames X.base (X.env :: X.outer):=by rw [← hs]; exact I.stack
  obtain ⟨⟨o0,vs0,e0,c0,d0,dt0⟩,_⟩:=I.hok a _ ha
  have main:∀ (h:Heap) (head:Value) (vs:Array Value) (o:Obj) (hadNext:Bool),(∀ b,h.get? b=s.heap.get? b)→h.objs.size=s.heap.objs.size→s.heap.get? a=some o→o.data=.fields vs→1 < vs.size→
      wpAny M X.A (do let x ← frameOf X.env; let pl ← entryPlaceOf X.env.locals hadNext; let b ← EntryCells.newEntry head x .none (rawInt X.env.locals) .none pl; setField (.ref a) 1 b) (fun _ s'=>wpAny M X.A (setFlight (.ref a) none) Q E s') E { s with heap:=h }:=by
    intro h head vs o hadNext hg hsz he hd hvs
    have hl':h.FunFrames X.base (X.env :: X.outer):=hl.of_keeps fun b o q _=>⟨o,(hg b).trans q,rfl⟩
    have hene:a∉(X.env :: X.outer).filterMap (·.frame):=fun hm=>by
      have:=I.stkFree a (by rw [hs]; exact hm)
      rw [ha] at this; cases this
    refine wpAny_bind (wpAny_frameOf_fun (s:={ s with heap:=h }) hfr hl' hf fun h₁ hs₁=>?_)
    have hs₁':Heap.SlotsOnly (frs X.stack) s.heap h₁:=by
      rw [hs]
      exact ⟨hs₁.1.trans hsz,fun b hb=>(hs₁.2.1 b hb).trans (hg b),fun b o q=>hs₁.2.2 b o ((hg b).trans q)⟩
    refine wpAny_bind (wpAny_entryPlaceOf fun pl hpl=>?_)
    unfold EntryCells.newEntry newFields
    refine wpAny_bind (wpAny_newObj_type ?_ (hpl.sizeOk5 _ _ _ _ _))
    have he₁:h₁.get? a=some o:=(hs₁.2.1 a hene).trans ((hg a).trans he)
    have he₂:=Heap.get?_push_of_some (h:=h₁) { cls:=.type "traceback",dict:=none,data:=.fields ([head,.ref X.env.locals,.none,rawInt X.env.locals,.none]++(if pl.isEmpty then List.replicate 6 Value.none else pl)).toArray } he₁
    refine wpAny_setField he₂ hd hvs ?_
    have hTe:h₁.objs.size≠a:=Nat.ne_of_gt (Heap.lt_size he₁)
    have hd₃:=Obj.data_mapFields hd (·.setIfInBounds 1 (Value.ref h₁.objs.size))
    have he₃:=Heap.get?_update_self (Obj.mapFields (·.setIfInBounds 1 (Value.ref h₁.objs.size))) he₂ (Obj.isFreed_of_fields hd₃)
    have hT₃:=(Heap.get?_update_other (h₁.push { cls:=.type "traceback",dict:=none,data:=.fields ([head,.ref X.env.locals,.none,rawInt X.env.locals,.none]++(if pl.isEmpty then List.replicate 6 Value.none else pl)).toArray })
      (Obj.mapFields (·.setIfInBounds 1 (Value.ref h₁.objs.size))) (Ne.symm hTe)).trans (Heap.get?_push_size h₁ rfl)
    unfold setFlight
    refine wpAny_bind (wpAny_field he₃ hd₃ (x:=.ref h₁.objs.size) (by simp [hvs]) ?_)
    rw [if_pos (show (Value.ref h₁.objs.size != Value.none)=true from by simp)]
    refine wpAny_setField hT₃ rfl (by simp only [List.size_toArray,List.length_append,List.length_cons,List.length_nil] <;> omega) ?_
    have keep:∀ b ob,b≠a→h₁.get? b=some ob→
        (((h₁.push { cls:=.type "traceback",dict:=none,data:=.fields ([head,.ref X.env.locals,.none,rawInt X.env.locals,.none]++(if pl.isEmpty then List.replicate 6 Value.none else pl)).toArray }).update a (Obj.mapFields (·.setIfInBounds 1 (Value.ref h₁.objs.size)))).update h₁.objs.size
          (Obj.mapFields (·.setIfInBounds 3 ((none:Option Addr).elim Value.none fun f=>rawInt f)))).get? b=some ob:=fun b ob hbe hb=>by
      have hbT:h₁.objs.size≠b:=Nat.ne_of_gt (Heap.lt_size hb)
      rw [Heap.get?_update_other _ _ hbT,Heap.get?_update_other _ _ (Ne.symm hbe)]
      exact Heap.get?_push_of_some _ hb
    have hea:=he₃
    have hT4:=Heap.get?_update_self (Obj.mapFields (·.setIfInBounds 3 ((none:Option Addr).elim Value.none fun f=>rawInt f))) hT₃ (Obj.isFreed_of_fields (Obj.data_mapFields rfl _))
    rw [← Heap.get?_update_other _ (Obj.mapFields (·.setIfInBounds 3 ((none:Option Addr).elim Value.none fun f=>rawInt f))) hTe] at hea
    revert keep hea hT4
    generalize ((h₁.push { cls:=.type "traceback",dict:=none,data:=.fields ([head,.ref X.env.locals,.none,rawInt X.env.locals,.none]++(if pl.isEmpty then List.replicate 6 Value.none else pl)).toArray }).update a (Obj.mapFields (·.setIfInBounds 1 (Value.ref h₁.objs.size)))).update h₁.objs.size
          (Obj.mapFields (·.setIfInBounds 3 ((none:Option Addr).elim Value.none fun f=>rawInt f)))=h'
    intro keep hea hT4
    rw [he] at e0; cases e0
    have hx:qch a C dx h':=⟨_,_,hea,(Obj.cls_mapFields _ _).trans c0,(mapDict _ _).trans d0,hd₃⟩
    obtain ⟨un,ho,fr,nw⟩:=fly_un (T':=h₁.objs.size) I ha hs₁' rfl keep hx
    refine k h' h₁.objs.size (I.call' (s':={ s with heap:=h' }) (ch:=[]) rfl un ho I.bare fun b z=>absurd z (by simp)) ⟨⟨_,_,hea,hd₃,by simp [hvs]⟩,hTe,fr,⟨_,_,hT4,Obj.data_mapFields rfl _,?_⟩⟩ nw
    first | (simp; done) | (rcases hpl with rfl | ⟨_,_,_,_,_,_,_,rfl⟩ <;> simp)
  rcases st with ⟨o,vs,he,hd,h1⟩ | ⟨T,⟨⟨o,vs,he,hd,h1⟩,hTa,hTn,oT,ts,hT,hdT,h3⟩⟩
  · unfold noteFrame
    simp only [hf]
    refine wpAny_bind (wpAny_field he hd h1 ?_)
    rw [if_neg (by decide)]
    exact main s.heap _ vs o _ (fun _=>rfl) rfl he hd (Array.getElem?_eq_some_iff.mp h1).1
  · unfold noteFrame
    simp only [hf]
    refine wpAny_bind (wpAny_field he hd h1 ?_)
    rw [if_pos (show (Value.ref T != Value.none)=true from by simp)]
    refine wpAny_bind (wpAny_field hT hdT h3 ?_)
    rw [if_neg (show ¬ ((Value.none == rawInt X.env.locals)=true) from by simp [rawInt])]
    refine wpAny_bind (wpAny_setField hT hdT (Array.getElem?_eq_some_iff.mp h3).1 ?_)
    refine main (s.heap.update T (Obj.mapFields (·.setIfInBounds 3 Value.none))) _ vs o _ (fun b=>?_) (Heap.size_after_update ..) he hd (Array.getElem?_eq_some_iff.mp h1).1
    by_cases hb:b=T
    · subst hb
      rw [hT]
      have:=Heap.get?_update_self (Obj.mapFields (·.setIfInBounds 3 Value.none)) hT (Obj.isFreed_of_fields (Obj.data_mapFields hdT _))
      rw [qjx hdT h3] at this
      exact this
    · exact Heap.get?_update_other _ _ (Ne.symm hb)
end
end L2
set_option Elab.async false
set_option linter.all false
set_option maxRecDepth 100000
set_option maxHeartbeats 2000000
namespace L2
open PySem PySem.Spec PyProof.Rows PySem.W
section
variable {X:Cx} {pins:List (Addr×Obj)} {σ:St} {H:Hp} {s:Shared} {a C:Addr} {dx:Option Addr}
theorem Inv.xq (I:Inv X pins σ H s) (ha:H a=some (.ext (yce a C dx))):Inv X pins σ (upd H a (.ext (qch a C dx))) s:=by
  have o:=(I.hok a _ ha)
  have w:=I.write (x:=a) (e:=a) (o:=.ext (qch a C dx)) (h':=s.heap) (t':=s.toks) (by rw [ha]; exact True.intro) (.inl rfl) (fun _ _ _ e=>e) o.2.1 (yik o.1.q)
  exact w
theorem raw_of {P:Program} {w:World} {h:Heap} (ok:HOk P w H h) (ha:H a=some (.ext (yce a C dx))):Raw h a:=by
  obtain ⟨⟨o,vs,e,_,_,dt,r⟩,_⟩:=ok a _ ha
  exact ⟨o,vs,e,dt,r⟩
end
section
variable {P:Program} {w:World} {K:PySem.W.Frag} {mg:Str→Option Value} {base:Heap} {N:List Str} {qual:Str} {scope:Scope} {f:Addr} {cd:Value} {A:Around} {outer:List Env} {s0:Shared} {H0:Hp} {E:XK}
abbrev cxX (P:Program) (w:World) (K:PySem.W.Frag) (mg:Str→Option Value) (base:Heap) (N:List Str) (qual:Str) (scope:Scope) (f:Addr) (cd:Value) (A:Around) (outer:List Env) (s0:Shared) (H0:Hp) (E:XK):Cx:=
  cxOf (CX1 P w) P w K mg base N qual scope f cd A outer s0 H0 E
theorem leaves {pins:List (Addr×Obj)} {σ:St} {H:Hp} {s:Shared} {a C:Addr} {dx:Option Addr} (I:Inv (cxX P w K mg base N qual scope f cd A outer s0 H0 E) pins σ H s) (ha:H a=some (.ext (qch a C dx))) (st:Raw s.heap a∨∃ T,Fly s.heap H a T)
    (hE:E (.ref a) none H):(cxX P w K mg base N qual scope f cd A outer s0 H0 E).xe (.ref a) s:=by
  show wpAny _ _ (leaving _ _) _ _ _
  unfold leaving
  exact wpAny_bind (qie (X:=cxX P w K mg base N qual scope f cd A outer s0 H0 E) I rfl rfl ha st fun h' T' I' fl _=>⟨a,T',C,dx,H,rfl,I'.os,I'.bare,I'.base,I'.hok,ha,fl,hE⟩)
theorem qfc:ydl (CX1 P w) (cxX P w K mg base N qual scope f cd A outer s0 H0 E) E:=by
  intro pins σ H s e s' I h
  obtain ⟨a,T,C,dx,H',rfl,ho,hb,un,hok,ha,fl,hE⟩:=h
  exact leaves (I.call' (ch:=[]) ho un hok hb fun b z=>absurd z (by simp)) ha (.inr ⟨T,fl⟩) hE
theorem yh6:PassesOwn (model P w) (cxX P w K mg base N qual scope f cd A outer s0 H0 E).A (cxX P w K mg base N qual scope f cd A outer s0 H0 E).env (cxX P w K mg base N qual scope f cd A outer s0 H0 E).xe:=PassesOwn.leaving
def tRaise (K:PySem.W.Frag) (E:XK) (te:TE):TS:=fun _ σ H=>te σ H fun v H1=>∃ a C dx,v=.ref a∧XTy K C∧H1 a=some (.ext (yce a C dx))∧E (.ref a) none (upd H1 a (.ext (qch a C dx)))
theorem yj7 {M:Model} {A:Around} {E:Value→Shared→Prop} {env:Env} {s:Shared} {a C:Addr} {o:Obj} {vs:Array Value} {Q:Flow→Shared→Prop} (X:K.In s.heap) (cx:qey K C=true) (hh:A.handled=none) (hx:s.heap.get? a=some o) (hc:o.cls=.ref C) (hd:o.data=.fields vs) (h1:vs[1]?=some .none)
    {x:Sem Value} {s₀:Shared} (hE:E (.ref a) s) (h:∀ {R:Value→Shared→Prop},R (.ref a) s→wpAny M A x R E s₀):wpAny M A (raiseStmt env (some x) none) Q E s₀:=by
  obtain ⟨nm,qn,N,bs,bm,sn,sub,ab,col,dd,k0,k1,k2,k3,k5,cC,T⟩:=yeg X cx
  have hob:(Value.ref C :: bm).contains (.type "BaseException")=true:=by rw [List.contains_cons,T.hasType PySem.F.excBase_ValueError.hasBase]; rfl
  unfold raiseStmt
  refine wpAny_bind (h ?_)
  obtain ⟨hp,g,d,tk,os⟩:=s
  have cC:hp.get? C=_:=cC
  have hx:hp.get? a=some o:=hx
  have hnt:(match o.data with | .cls _=>true | _=>false)=false:=by rw [hd]
  unfold excFromValue isExcClass isInstance
  repeat (first | (with_reducible refine wpAny_loadPart_at hx ?_; first | rw [hc] | (dsimp only; rw [hd])) | (with_reducible refine wpAny_loadPart_at cC ?_) | (with_reducible refine wpAny_isSubtype_exc cC ?_; rw [hob]) | wp_step)
  rw [hd]
  refine wpAny_pure ?_
  rw [h1]
  refine wpAny_pure ?_
  rw [if_neg (by decide)]
  exact wpAny_pure (wpAny_raiseNew_none hh hE)
theorem qb8 {x:Expr} {te:TE} {pos:Pos} (he:PE (cxX P w K mg base N qual scope f cd A outer s0 H0 E) x te):PS (cxX P w K mg base N qual scope f cd A outer s0 H0 E) (.Raise (some x) none pos) (tRaise K E te):=by
  intro pins s σ H D I h
  rw [arm_exec_Raise]
  refine wpAny_bind (wpAny_standAt ?_)
  have hx:=he pins s σ H _ I h
  show wpAny _ _ (raiseStmt _ (some (do let v ← eval x _; standAt pos; pure v)) none) _ _ _
  unfold raiseStmt
  refine wpAny_bind (wpAny_bind (thn hx fun v s1 ⟨y,H1,I1,r,a,C,dx,ey,ty,ha,q⟩=>?_))
  subst ey
  obtain rfl:v=Value.ref a:=r
  refine wpAny_bind (wpAny_standAt (wpAny_pure ?_))
  obtain ⟨⟨o,vs,e1,e2,e3,e4,e5⟩,_⟩:=I1.hok a _ ha
  have lv:=leaves (I1.xq ha) qab (.inl (raw_of I1.hok ha)) q
  have:=yj7 (A:=(cxX P w K mg base N qual scope f cd A outer s0 H0 E).A) (env:=(cxX P w K mg base N qual scope f cd A outer s0 H0 E).env) (M:=model P w) (Q:=SP (cxX P w K mg base N qual scope f cd A outer s0 H0 E) pins D) (x:=pure (.ref a)) (s₀:=s1) I1.kIn ty.cx (I1.ok.hd rfl) e1 e2 e4 e5 lv (fun {R} hR=>wpAny_pure hR)
  unfold raiseStmt at this
  exact this
end
def HasX (P:Program) (w:World) (K:PySem.W.Frag) (mg:Str→Option Value) (base:Heap) (k:Nat) (x:Str) (ps:List Str) (sp:Sp):Prop:=
  ∃ f fd,mg x=some (.ref f)∧PySem.W.keepIn K (.ref f)=true∧qcv K fd ps []∧FnOk P w K mg base (CX1 P w) k f fd ps sp
section
variable {P:Program} {w:World} {K:PySem.W.Frag} {mg:Str→Option Value} {base:Heap}
theorem FnOk.x {k:Nat} {f:Addr} {fd:FuncData} {ps:List Str} {sp:Sp} (F:FnOk P w K mg base CX0 k f fd ps sp):FnOk P w K mg base (CX1 P w) k f fd ps sp:=
  ⟨F.len,fun A outer s H args us vs Q E hr he hb hv hs=>codeAny_mono (F.run A outer s H args us vs Q E hr he hb hv hs) fun r s' h=>by
    cases r with
    | error e=>exact h.elim
    | ok fl=>cases fl <;> exact h⟩
theorem FnOk.ofX {x qual:Str} {st:Stmt} {f:Addr} {fd:FuncData} {N ps:List Str} {k:Nat} {sp:Sp} (F:Fun K x qual st f fd) (S:FnScope N ps (yab st)) (len:∀ vs H Q E,sp vs H Q E→vs.length=ps.length)
    (hbody:∀ (cdv:Value) (A:Around) (outer:List Env) (s:Shared) (H:Hp) (vs:List V) (Q:VK) (E:XK),Room k (A.deeper (envOfC qual (yab st) s.heap.objs.size f cdv))→sp vs H Q E→
      ∃ t,Mx.QSs (cxX P w K mg base N qual (yab st) f cdv A outer s H E) (qag st) t∧t { nx:=fun _ H'=>Q .non H',rt:=Q } (yd5 N vs) H):FnOk P w K mg base (CX1 P w) (k + 1) f fd ps sp:=by
  obtain ⟨oc,od,kV,doc,pm,an,cdv,ct,osl,rfl,lk,hcd⟩:=F.ex
  refine fn_of lk hcd S len fun A outer s H vs Q E hr hsp=>?_
  obtain ⟨t,h,q⟩:=hbody cdv A outer s H vs Q E hr hsp
  exact ⟨t,h.of,q⟩
theorem HasX.of {x:Str} {st:Stmt} {ps N:List Str} {k:Nat} {sp:Sp} (F:FnAt K mg x st ps) (S:FnScope N ps (yab st)) (len:∀ vs H Q E,sp vs H Q E→vs.length=ps.length)
    (hbody:∀ (f:Addr) (cdv:Value) (A:Around) (outer:List Env) (s:Shared) (H:Hp) (vs:List V) (Q:VK) (E:XK),Room k (A.deeper (envOfC x (yab st) s.heap.objs.size f cdv))→sp vs H Q E→
      ∃ t,Mx.QSs (cxX P w K mg base N x (yab st) f cdv A outer s H E) (qag st) t∧t { nx:=fun _ H'=>Q .non H',rt:=Q } (yd5 N vs) H):HasX P w K mg base (k + 1) x ps sp:=by
  obtain ⟨f,fd,h1,h2,h3⟩:=F
  exact ⟨f,fd,h1,h2.kp,h3,FnOk.ofX h2 S len fun cdv A outer s H vs Q E hr h=>hbody f cdv A outer s H vs Q E hr h⟩
end
section
variable {X:Cx} {e o:Expr} {es:List Expr} {ta:TE} {t:TA} {p pos apos:Pos} {x m:Str} {C:Addr} {E:XK}
theorem yc7 {k n:Nat} {ps:List Str} {sp:Sp} (h:HasX X.prog X.w X.K X.mg X.base k x ps sp) (hx:ydl (CX1 X.prog X.w) X E) (hr:Room n X.A) (ha:PA X (e :: es) t) (hk:k≤n:=by decide) (hg:Gl X x:=by rfl)
    (hdb:(x == ("__debug__" : Str))=false:=by decide) (he:starEach (e :: es) X.env=(false,eval e X.env) :: starEach es X.env:=by rfl) (hpl:(backTo pos (starEach es X.env)).any (·.1)=false:=by rfl) :
    PE X (.Call (.Name x p) (e :: es) [] pos) (yi8 sp [] E t):=by
  obtain ⟨f,fd,h1,h2,h3,h4⟩:=h
  exact qky h4 (hr.mono hk) hg h1 h2 h3 .nil hx ha hdb he hpl
end
end L2
set_option Elab.async false
set_option linter.all false
set_option maxRecDepth 100000
set_option maxHeartbeats 2000000
namespace L2
open PySem PySem.Spec PyProof.Rows PySem.W
abbrev Cx.sui (X:Cx) (e:Value):Cx:={ X with A:=X.A.mark (some e),calm:=false }
section
variable {X:Cx} {pins:List (Addr×Obj)} {σ:St} {H:Hp} {s:Shared} {v:Value}
theorem Cx.Ok.sui (ok:X.Ok) (v:Value):(X.sui v).Ok:=
  ⟨ok.mod,ok.kind,ok.glob,ok.blt,ok.above,ok.inj,ok.has,ok.cab,(fun h=>nomatch h),ok.frames,ok.stk,ok.exf,ok.bs,ok.bsz,ok.noex,ok.exfs,ok.funs,ok.frf⟩
theorem Inv.sui (I:Inv X pins σ H s) (v:Value):Inv (X.sui v) pins σ H s:=⟨I.ok.sui v,I.os,I.bare,I.base,I.loc,I.cell,I.free,I.freeC,I.pin,I.hok,I.len⟩
theorem Inv.unsui (ok:X.Ok) (I:Inv (X.sui v) pins σ H s):Inv X pins σ H s:=⟨ok,I.os,I.bare,I.base,I.loc,I.cell,I.free,I.freeC,I.pin,I.hok,I.len⟩
theorem goes_ok {M:Model} {A:Around} {E:Value→Shared→Prop} {i:Nat} {x:Str} {pos:Pos} {Q:Unit→Shared→Prop} (I:Inv X pins σ H s) (hN:X.N.Nodup) (hi:X.N[i]?=some x) (hk:X.env.scope.names.lookup x=some .local)
    (h:∀ s',Inv X pins (σ.set i none) H s'→Q () s'):wpAny M A (do bindName X.env x .none; unbindBehindTheSuite X.env x pos) Q E s:=by
  obtain ⟨m,hn,hl⟩:=id I.loc
  have hcls:(X.env.scope.kind == .class || (X.env.scope.kind == .module && X.env.locals != X.env.globals))=false:=by rw [I.ok.kind]; rfl
  have cne:=I.cne
  refine wpAny_nameGoes_keeps hk hn hcls fun h' v hn' hs=>?_
  obtain ⟨oL,_,_,hoL,_⟩:=id hn
  have tracked:HOk X.prog X.w H h':=fun b ob e=>by
    refine (I.hok b ob e).stay (fun c w' hc q=>(hs.2 c ?_).trans q) (fun _ q=>q) fun _ _ q=>q
    rintro rfl
    rcases hc with rfl | hc
    · rw [I.free] at e; cases e
    · rw [I.free] at hc; cases hc
  refine h _ ⟨I.ok,I.os,I.bare,⟨fun b o e n hb hx=>?_,fun b o e n hb hx=>?_,I.base.free,fun b o e hx=>?_,I.base.tups,I.base.frzs,I.base.tbls⟩,⟨_,hn',fun j y v' e1 e2 e3=>?_⟩,fun y c e=>?_,I.free,I.freeC,fun p hp=>?_,tracked,by simpa using I.len⟩
  · exact (hs.2 b (Nat.ne_of_lt (Nat.lt_of_lt_of_le (Heap.lt_size e) I.ok.above))).trans (I.base.keep b o e n hb hx)
  · obtain ⟨sl,e1⟩:=I.base.slot b o e n hb hx
    exact ⟨sl,(hs.2 b (Nat.ne_of_lt (Nat.lt_of_lt_of_le (Heap.lt_size e) I.ok.above))).trans e1⟩
  · obtain ⟨o',e1⟩:=I.base.there b o e hx
    exact ⟨o',(hs.2 b (Nat.ne_of_lt (Nat.lt_of_lt_of_le (Heap.lt_size e) I.ok.above))).trans e1⟩
  · by_cases hj:i=j
    · subst hj
      rw [List.getElem?_set_self (by have:=(List.getElem?_eq_some_iff.mp hi).1; rw [I.len]; exact this)] at e2
      cases e2
    · rw [List.getElem?_set_ne hj] at e2
      obtain ⟨u',r',q⟩:=hl j y v' e1 e2 e3
      refine ⟨u',r',?_⟩
      rcases q with ⟨k,e⟩ | ⟨k,c,e,z⟩
      · refine .inl ⟨k,?_⟩
        have:y≠x:=fun e=>hj (ygh hN hi (e ▸ e1))
        simp [this,e]
      · exact .inr ⟨k,c,e,z.sameBut hs (cne y c e)⟩
  · obtain ⟨w',z⟩:=I.cell y c e
    exact ⟨w',z.sameBut hs (cne y c e)⟩
  · obtain ⟨e,n,ne,nf,d⟩:=I.pin p hp
    exact ⟨(hs.2 p.1 ne).trans e,n,ne,nf,d⟩
theorem yhs {M:Model} {A:Around} {E:Value→Shared→Prop} {a T:Addr} {Q:Unit→Shared→Prop} (I:Inv X pins σ H s) (fl:Fly s.heap H a T) (h:∀ s',Inv X pins σ H s'→Fly s'.heap H a T→Q () s'):wpAny M A (setFlight (.ref a) none) Q E s:=by
  obtain ⟨⟨o,vs,he,hd,h1⟩,hTa,hTn,oT,ts,hT,hdT,h3⟩:=fl
  refine wpAny_setFlight_none he hd h1 hT hdT (Array.getElem?_eq_some_iff.mp h3).1 ?_
  have same:∀ b u,s.heap.get? b=some u→(s.heap.update T (Obj.mapFields (·.setIfInBounds 3 Value.none))).get? b=some u:=fun b u e=>by
    by_cases hb:b=T
    · subst hb
      have:=Heap.get?_update_self (Obj.mapFields (·.setIfInBounds 3 Value.none)) hT (Obj.isFreed_of_fields (Obj.data_mapFields hdT _))
      rw [qjx hdT h3] at this
      rw [hT] at e; cases e
      exact this
    · exact (Heap.get?_update_other _ _ (Ne.symm hb)).trans e
  exact h _ (I.kept (t':=s.toks) same) ⟨⟨o,vs,same _ _ he,hd,h1⟩,hTa,hTn,oT,ts,same _ _ hT,hdT,h3⟩
def XP (X:Cx) (pins:List (Addr×Obj)) (R:St→V→Hp→Prop) (e:Value) (s':Shared):Prop:=∃ a T C dx σ' H',e=.ref a∧Inv X pins σ' H' s'∧H' a=some (.ext (qch a C dx))∧Fly s'.heap H' a T∧R σ' (.ref a) H'
def PSx (X:Cx) (sts:List Stmt) (t:(St→V→Hp→Prop)→TS):Prop:=
  ∀ (pins:List (Addr×Obj)) (s:Shared) (σ:St) (H:Hp) (D:Ends) (R:St→V→Hp→Prop),Inv X pins σ H s→t R D σ H→wpAny (model X.prog X.w) X.A (execs sts X.env) (SP X pins D) (XP X pins R) s
def PEx (X:Cx) (e:Expr) (t:(V→Hp→Prop)→TE):Prop:=
  ∀ (pins:List (Addr×Obj)) (s:Shared) (σ:St) (H:Hp) (Q:VK) (R:V→Hp→Prop),Inv X pins σ H s→t R σ H Q→wpAny (model X.prog X.w) X.A (eval e X.env) (EP X pins σ Q) (XP X pins fun σ' v H'=>σ'=σ∧R v H') s
def rxE (R:V→Hp→Prop):XK:=fun e _ H'=>∃ a,e=.ref a∧R (.ref a) H'
variable {e:Expr} {es:List Expr} {p pos apos:Pos} {x m:Str} {C:Addr} {t:TA} {te ta:TE}
theorem run_fnx {k:Nat} {f:Addr} {fd:FuncData} {ps:List Str} {sp:Sp} {Q:VK} {R:V→Hp→Prop} {us:List Value} {vs:List V} (F:FnOk X.prog X.w X.K X.mg X.base (CX1 X.prog X.w) k f fd ps sp) (hr:Room k X.A) (hb:qcv X.K fd ps [])
    (I:Inv X pins σ H s) (r:Vals vs us) (h:sp vs H Q (rxE R)):wpAny (model X.prog X.w) X.A (call (.ref f) us) (EP X pins σ Q) (XP X pins fun σ' v H'=>σ'=σ∧R v H') s:=by
  have hl:us.length=ps.length:=by rw [← r.length]; exact F.len _ _ _ _ h
  have bb:=hb s us I.kIn (by rw [List.append_nil]; exact hl)
  rw [List.append_nil] at bb
  refine wpAny_call (codeAny_mono (F.run X.A X.stack s H ⟨us,[]⟩ us vs Q (rxE R) hr I.env0 bb r h) fun r s' hq=>?_)
  cases r with
  | error e=>
    obtain ⟨a,T,C,dx,H',rfl,ho,hba,un,hok,ha,fl,a',ea,hR⟩:=hq
    cases ea
    exact ⟨a,T,C,dx,σ,H',rfl,I.call' (ch:=[]) ho un hok hba fun b z=>absurd z (by simp),ha,fl,rfl,hR⟩
  | ok fl=>
    cases fl with
    | ret u=>exact I.after hq
    | next=>exact False.elim hq
    | brk=>exact False.elim hq
    | cont=>exact False.elim hq
def sDropx (te:(V→Hp→Prop)→TE) (R:St→V→Hp→Prop):TS:=fun D σ H=>te (R σ) σ H fun _ H1=>D.nx σ H1
theorem ygd {te:(V→Hp→Prop)→TE} (he:PEx X e te) (hs:swapsWith e none pos.line X.env=pure false:=by rfl):PSx X [.Expr e pos] (sDropx te):=by
  intro pins s σ H D R I h
  refine wpAny_execs_cons ?_
  exact wpAny_Expr_any (wpAny_mono (he pins s σ H _ (R σ) I h) (fun u s1 ⟨y,H1,I1,ry,q⟩=>wpAny_execs_nil ⟨_,_,I1,q⟩) fun e s' ⟨a,T,C,dx,σ',H',r1,r2,r3,r4,e1,r5⟩=>⟨a,T,C,dx,σ',H',r1,r2,r3,r4,by rw [e1]; exact r5⟩) I.quiet hs
def sIfx (tc:TT) (t u:(St→V→Hp→Prop)→TS) (R:St→V→Hp→Prop):TS:=fun D σ H=>tc σ H fun b H1=>if b=true then t R D σ H1 else u R D σ H1
theorem psx_if {c:Expr} {a b:List Stmt} {tc:TT} {t u:(St→V→Hp→Prop)→TS} (hx:∀ e s,¬ X.xe e s) (hc:PT X c tc) (ha:PSx X a t) (hb:PSx X b u):PSx X [.If c a b pos] (sIfx tc t u):=by
  intro pins s σ H D R I h
  refine wpAny_execs_cons ?_
  refine wpAny_If (wpAny_mono (hc pins s σ H _ I h) (fun d s1 ⟨H1,I1,q1⟩=>?_) fun e s z=>(hx e s z).elim)
  have fin:∀ (f:Flow) (s':Shared),SP X pins D f s'→(match f with | .next=>wpAny (model X.prog X.w) X.A (execs [] X.env) (SP X pins D) (XP X pins R) s' | f=>SP X pins D f s'):=fun f s' z=>by
    cases f <;> first | exact z | exact wpAny_execs_nil z
  cases d with
  | true=>exact wpAny_mono (ha pins s1 σ H1 D R I1 q1) (fun f s' z=>by cases f <;> first | exact z | exact wpAny_execs_nil z) fun _ _ z=>z
  | false=>exact wpAny_mono (hb pins s1 σ H1 D R I1 q1) (fun f s' z=>by cases f <;> first | exact z | exact wpAny_execs_nil z) fun _ _ z=>z
def sTry (K:PySem.W.Frag) (M:Addr) (iy jn:Nat) (tb:(St→V→Hp→Prop)→TS):TS:=fun D σ H=>tb (fun σ' v H'=>∃ a C fs,v=.ref a∧XAt H' a C fs∧PySem.W.exmOne K (.ref C) (.ref M)=some true∧D.nx (((σ'.set jn (some v)).set iy (some v)).set jn none) H') D σ H
theorem ps_try {body:List Stmt} {cx n y:Str} {M:Addr} {iy jn:Nat} {tb:(St→V→Hp→Prop)→TS} {p1 p2 p3 p4 p5:Pos} (hx:∀ e s,¬ X.xe e s) (hst:X.stack=X.env :: X.outer) (hfr:X.env.frame=some X.env.locals) (hb:PSx X body tb)
    (hN:X.N.Nodup) (hj:X.N[jn]?=some n) (hn:X.env.scope.names.lookup n=some .local) (hi:X.N[iy]?=some y) (hy:Loc X.env.scope y) (hne:jn≠iy) (hg:Gl X cx) (hm:X.mg cx=some (.ref M)) (hdb:(cx == ("__debug__" : Str))=false:=by decide) (hdn:(n == ("__debug__" : Str))=false:=by decide) (hcn:(n == ("__classdict__" : Str))=false:=by decide)
    (hf:X.fn y=true∨X.env.scope.names.lookup y=some .local:=by first | exact .inl rfl | exact .inr rfl | assumption)
    (hs:swapsWith (.Name n p3) (some (.Name y p2)) p4.line X.env=pure false:=by rfl) :
    PS X (.Try body [.ExceptHandler (some (.Name cx p1)) (some n) [.Assign [.Name y p2] (.Name n p3) p4] p5] [] [] pos) (sTry X.K M iy jn tb):=by
  intro pins s σ H D I h
  refine wpAny_Try_except (wpAny_mono (hb pins s σ H D _ I h) (fun f s' z=>by cases f <;> first | exact z | exact wpAny_execs_nil z) ?_)
  rintro e s1 ⟨a,T,C,dx,σ',H',rfl,I1,ha,fl,a',C',fs,ea,xa,em,q⟩
  cases ea
  refine qie I1 hst hfr ha (.inr ⟨T,fl⟩) fun h' T' I2 fl2 _=>?_
  have I2m:=I2.sui (.ref a)
  refine wpAny_handleBy_cons (codeAny_handlers_test ?_) (by intro q; cases q)
  refine qdz (X:=X.sui (.ref a)) I2m hg hm ?_ hdb
  obtain ⟨ox,od,ia⟩:=xa.at I2
  refine (exm_one (M:=model X.prog X.w) I2.kIn ia.type em).here ?_
  refine codeAny_handlers_suite_as ?_
  refine yhs I2 fl2 fun s3 I3 fl3=>?_
  refine ygc (i:=jn) (x:=n) (v:=.ref a) I3 hN hj (.inl hn) rfl (fun s4 I4=>?_) (.inr hn)
  have hp:=yaj (yca (X:=(X.sui (.ref a)).nox) (pos:=p4) (i:=iy) (x:=y) (pos':=p2) hN hi hy (pe_var (i:=jn) (pos:=p3) hj (.inl hn) hdn hcn) hs hf)
  refine wpAny_mono (hp pins s4 _ H' { nx:=fun σ2 H2=>σ2=((σ'.set jn (some (.ref a))).set iy (some (.ref a)))∧H2=H',rt:=fun _ _=>False } ((I4.sui (.ref a)).wish _) ⟨_,?_,rfl,rfl⟩) (fun f s5 z=>?_) fun _ _ z=>z.elim
  · rw [List.getElem?_set_self]
    have:=(List.getElem?_eq_some_iff.mp hj).1
    rw [I3.len]; exact this
  · cases f with
    | next=>
      obtain ⟨σ5,H5,I5,rfl,rfl⟩:=z
      have I6:Inv X pins _ H5 s5:=Inv.unsui I2.ok I5.unwish
      exact goes_ok I6 hN hj hn fun s7 I7=>⟨_,_,I7,q⟩
    | brk=>obtain ⟨_,_,_,z⟩:=z; exact z.elim
    | cont=>obtain ⟨_,_,_,z⟩:=z; exact z.elim
    | ret u=>obtain ⟨_,_,_,_,_,z⟩:=z; exact z.elim
end
end L2
set_option Elab.async false
set_option linter.all false
set_option maxRecDepth 100000
set_option maxHeartbeats 2000000
namespace L2
open PySem PySem.Spec PyProof.Rows PySem.W
def XInit (P:Program) (w:World) (K:PySem.W.Frag) (mg:Str→Option Value) (base:Heap) (x:Str) (C:Addr) (ps:List Str) (sp:Sp):Prop:=
  mg x=some (.ref C)∧PySem.W.keepIn K (.ref C)=true∧XOk K C∧∃ f fd,PySem.W.findIn K (.ref C) "__init__" = some (some (.ref f))∧PySem.W.isFn K (.ref f)=true∧qcv K fd ps []∧FnOk P w K mg base CX0 1 f fd ps sp
def qfu (K:PySem.W.Frag) (mg:Str→Option Value) (x:Str) (C:Addr):Prop:=
  mg x=some (.ref C)∧PySem.W.keepIn K (.ref C)=true∧XTy K C∧PySem.W.excIn K C bmV "ValueError.__new__" = true
def sp_x1 (C:Addr) (f:Str):Sp:=fun vs H Q _=>∃ a v,vs=[.ref a,v]∧XD H a C none []∧∀ d H',XD H' a C (some d) [(f,v)]→SetX a d none H H'→Q .non H'
theorem SetX.sm {a d:Addr} {H H1 H':Hp} {o:HO} (hn:H a=none) (e:H1=upd H a o) (x:SetX a d none H1 H'):Same H H':=by
  subst e
  intro b o hb
  refine x.kp b o (by rw [qaf (qah hb hn)]; exact hb) (qah hb hn) ?_
  rcases x.dd with z | ⟨_,z⟩
  · cases z
  · intro q
    subst q
    rw [qaf (qah hb hn),hb] at z
    cases z
section
variable {X:Cx} {e o:Expr} {es:List Expr} {t:TA} {ta:TE} {p pos apos:Pos} {x m:Str} {C:Addr}
theorem pe_xI {n:Nat} {ps:List Str} {sp:Sp} (h:XInit X.prog X.w X.K X.mg X.base x C ps sp) (hr:Room n X.A) (ha:PA X (e :: es) t) (hk:2≤n:=by decide) (hg:Gl X x:=by rfl) (hdb:(x == ("__debug__" : Str))=false:=by decide)
    (he:starEach (e :: es) X.env=(false,eval e X.env) :: starEach es X.env:=by rfl) (hpl:(backTo pos (starEach es X.env)).any (·.1)=false:=by rfl):PE X (.Call (.Name x p) (e :: es) [] pos) (tXMake C sp t):=by
  obtain ⟨h1,h2,h3,f,fd,h4,h5,h6,h7⟩:=h
  exact pe_xmake h3 h4 h5 h7 (hr.mono hk) h6 h2 hg h1 ha hdb he hpl
theorem qhp (h:qfu X.K X.mg x C) (ha:PA X (e :: es) t) (hg:Gl X x:=by rfl) (hdb:(x == ("__debug__" : Str))=false:=by decide)
    (he:starEach (e :: es) X.env=(false,eval e X.env) :: starEach es X.env:=by rfl) (hpl:(backTo pos (starEach es X.env)).any (·.1)=false:=by rfl):PE X (.Call (.Name x p) (e :: es) [] pos) (yjd C t):=by
  obtain ⟨h1,h2,h3,h4⟩:=h
  exact qkm h4 h2 hg h1 ha hdb he hpl
end
def ydc (P:Program) (w:World) (K:PySem.W.Frag) (mg:Str→Option Value) (base:Heap) (C:Addr) (k:Nat) (m:Str) (ps:List Str) (sp:Sp):Prop:=
  ∃ f fd,Meth K C m f∧qcv K fd ps []∧FnOk P w K mg base (CX1 P w) k f fd ps sp
def yf6 (P:Program) (w:World) (K:PySem.W.Frag) (mg:Str→Option Value) (base:Heap) (C:Addr) (k:Nat) (x:Str) (ps:List Str) (sp:Sp):Prop:=
  ∃ f fd,mg x=some (.ref C)∧Mk K C f∧qcv K fd ps []∧FnOk P w K mg base (CX1 P w) k f fd ps sp
section
variable {P:Program} {w:World} {K:PySem.W.Frag} {mg:Str→Option Value} {base:Heap} {C:Addr}
theorem ydc.of {m qual:Str} {st:Stmt} {ps N:List Str} {k:Nat} {sp:Sp} (F:Mx.yb0 K C m qual st ps) (S:FnScope N ps (yab st)) (len:∀ vs H Q E,sp vs H Q E→vs.length=ps.length)
    (hbody:∀ (f:Addr) (cdv:Value) (A:Around) (outer:List Env) (s:Shared) (H:Hp) (vs:List V) (Q:VK) (E:XK),Room k (A.deeper (envOfC qual (yab st) s.heap.objs.size f cdv))→sp vs H Q E→
      ∃ t,Mx.QSs (cxX P w K mg base N qual (yab st) f cdv A outer s H E) (qag st) t∧t { nx:=fun _ H'=>Q .non H',rt:=Q } (yd5 N vs) H):ydc P w K mg base C (k + 1) m ps sp:=by
  obtain ⟨f,fd,h1,h2,h3⟩:=F
  exact ⟨f,fd,h1,h3,FnOk.ofX h2 S len fun cdv A outer s H vs Q E hr h=>hbody f cdv A outer s H vs Q E hr h⟩
theorem yf6.of {x m:Str} {ps:List Str} {k:Nat} {sp:Sp} {f:Addr} (hm:mg x=some (.ref C)) (M:Mk K C f) (u:∀ g,Meth K C "__init__" g→g=f) (h:ydc P w K mg base C k "__init__" ps sp):yf6 P w K mg base C k x ps sp:=by
  obtain ⟨g,fd,h1,h2,h3⟩:=h
  have:=u g h1
  subst this
  exact ⟨g,fd,hm,M,h2,h3⟩
end
section
variable {X:Cx} {pins:List (Addr×Obj)} {σ:St} {H:Hp} {s:Shared} {e o:Expr} {es:List Expr} {t:TA} {ta:TE} {p pos apos:Pos} {x m:Str} {C:Addr}
theorem yj1 {k:Nat} {f:Addr} {fd:FuncData} {ps:List Str} {sp:Sp} {Q:VK} {R:V→Hp→Prop} {us:List Value} {vs:List V} (M:Mk X.K C f) (F:FnOk X.prog X.w X.K X.mg X.base (CX1 X.prog X.w) k f fd ps sp) (hr:Room (k + 1) X.A) (hb:qcv X.K fd ps [])
    (I:Inv X pins σ H s) (r:Vals vs us) (h:∀ x dx,H x=none→H dx=none→dx≠x→sp (.ref x :: vs) (upd (upd H dx (.own x)) x (.ins C dx [])) (fun v H2=>v=.non∧Q (.ref x) H2) (rxE R)) :
    wpAny (model X.prog X.w) X.A (call (.ref C) us) (EP X pins σ Q) (XP X pins fun σ' v H'=>σ'=σ∧R v H') s:=by
  have hq:=h (s.heap.objs.size + 1) s.heap.objs.size (I.hok.fresh (Nat.le_succ _)) (I.hok.fresh (Nat.le_refl _)) (Nat.ne_of_lt (Nat.lt_succ_self _))
  have I2:=Inv.made (C:=C) I
  have r2:Vals (V.ref (s.heap.objs.size + 1) :: vs) (Value.ref (s.heap.objs.size + 1) :: us):=.cons rfl r
  have hl:(Value.ref (s.heap.objs.size + 1) :: us).length=ps.length:=by
    have e:=r2.length
    rw [F.len _ _ _ _ hq] at e
    exact e.symm
  have bb:=hb _ (Value.ref (s.heap.objs.size + 1) :: us) I2.kIn (by rw [List.append_nil]; exact hl)
  rw [List.append_nil] at bb
  refine wpAny_call (qh5 (f:=f) I.kIn M.makes M.init (beq_iff_eq.mp M.fn) (codeAny_mono (F.run _ X.stack _ _ ⟨Value.ref (s.heap.objs.size + 1) :: us,[]⟩ (Value.ref (s.heap.objs.size + 1) :: us) _ _ (rxE R) (hr.make C us [])
    (I2.env0.make C us []) bb r2 hq) fun r s' hq'=>?_))
  cases r with
  | error e=>
    obtain ⟨a,T,C,dx,H',rfl,ho,hba,un,hok,ha,fl,a',ea,hR⟩:=hq'
    cases ea
    exact ⟨a,T,C,dx,σ,H',rfl,I2.call' (ch:=[]) ho un hok hba fun b z=>absurd z (by simp),ha,fl,rfl,hR⟩
  | ok fl=>
    cases fl with
    | ret u=>
      obtain ⟨v,H',I3,rv,ev,q3⟩:=I2.after hq'
      subst ev
      exact ⟨rv,⟨V.ref (s.heap.objs.size + 1),H',I3,rfl,q3⟩⟩
    | next=>exact False.elim hq'
    | brk=>exact False.elim hq'
    | cont=>exact False.elim hq'
def tMakex (C:Addr) (sp:Sp) (t:TA) (R:V→Hp→Prop):TE:=fun σ H Q=>t σ H fun vs H1=>∀ x dx,H1 x=none→H1 dx=none→dx≠x→sp (.ref x :: vs) (upd (upd H1 dx (.own x)) x (.ins C dx [])) (fun v H2=>v=.non∧Q (.ref x) H2) (rxE R)
theorem pex_make {k n:Nat} {ps:List Str} {sp:Sp} (hx:∀ e s,¬ X.xe e s) (h:yf6 X.prog X.w X.K X.mg X.base C k x ps sp) (hr:Room n X.A) (ha:PA X (e :: es) t) (hk:k + 1≤n:=by decide) (hg:Gl X x:=by rfl)
    (hdb:(x == ("__debug__" : Str))=false:=by decide) (he:starEach (e :: es) X.env=(false,eval e X.env) :: starEach es X.env:=by rfl) (hpl:(backTo pos (starEach es X.env)).any (·.1)=false:=by rfl) :
    PEx X (.Call (.Name x p) (e :: es) [] pos) (tMakex C sp t):=by
  intro pins s σ H Q R I h'
  obtain ⟨f,fd,h1,h2,h3,h4⟩:=h
  refine wpAny_Call_Name_kw (qdz I hg h1 ?_ hdb)
  refine PySem.W.callWith_K (h₀:=X.base) I.ok.mod.kin h2.kp (wpAny_mono (ha pos pins s σ H _ I h') (fun us s1 ⟨vs,H1,I1,r,q⟩=>⟨I1.kIn,?_⟩) fun e s z=>(hx e s z).elim) he hpl
  exact yj1 h2 h4 (hr.mono hk) h3 I1 r q
def tMethx (C:Addr) (m:Str) (sp:Sp) (ta:TE) (t:TA) (R:V→Hp→Prop):TE:=fun σ H Q=>ta σ H fun x H1=>∃ a dx fs,x=.ref a∧H1 a=some (.ins C dx fs)∧fs.lookup m=none∧t σ H1 fun vs H2=>sp (x :: vs) H2 Q (rxE R)
theorem qib {k n:Nat} {ps:List Str} {sp:Sp} {pl:Sem Bool} (hx:∀ e s,¬ X.xe e s) (c:Cls X.K C) (h:ydc X.prog X.w X.K X.mg X.base C k m ps sp) (hr:Room n X.A) (he:PE X o ta) (ha:PA X (e :: es) t) (hk:k≤n:=by decide)
    (hst:starEach (e :: es) X.env=(false,eval e X.env) :: starEach es X.env:=by rfl) (hpl:(backTo pos (starEach es X.env)).any (·.1)=false:=by rfl)
    (ht:eval (.Call (.Attribute o m apos) (e :: es) [] pos) X.env=(do
      let ov ← eval o X.env
      standAt apos.atName
      let (f,first) ← holding [ov] (getMethod ov m pl)
      callWith pos f first (backTo pos (starEach (e :: es) X.env)) (backToKw pos (keywordEach [] X.env))):=by rfl) :
    PEx X (.Call (.Attribute o m apos) (e :: es) [] pos) (tMethx C m sp ta t):=by
  intro pins s σ H Q R I h'
  obtain ⟨f,fd,h1,h3,h4⟩:=h
  refine PySem.W.methodCall_KW (pl:=pl) (wpAny_mono (he pins s σ H _ I h') (fun u s1 ⟨x,H1,I1,rx,a,dx,fs,ex,ea,l,q⟩=>?_) fun e s z=>(hx e s z).elim) ht
  subst ex
  obtain rfl:u=Value.ref a:=rx
  refine qei I1 ea c h1 l ?_
  refine PySem.W.callWith_K (first:=[.ref a]) (h₀:=X.base) I.ok.mod.kin h1.kp (wpAny_mono (ha pos pins s1 σ H1 _ I1 q) (fun us s2 ⟨vs,H2,I2,r,q2⟩=>⟨I2.kIn,?_⟩) fun e s z=>(hx e s z).elim) hst hpl
  exact run_fnx (us:=.ref a :: us) (vs:=.ref a :: vs) h4 (hr.mono hk) h3 I2 (.cons rfl r) q2
end
end L2
set_option Elab.async false
set_option linter.all false
set_option maxRecDepth 100000
set_option maxHeartbeats 2000000
namespace L2
open PySem PySem.Spec PyProof.Rows PySem.W
theorem raised_x {H H':Hp} {a d C:Addr} {fs:List (Str×V)} (hn:H a=none) (x:XD H' a C (some d) fs) (sx:SetX a d none (upd H a (.ext (yce a C none))) H') :
    H' a=some (.ext (yce a C (some d)))∧Same H (upd H' a (.ext (qch a C (some d))))∧XAt (upd H' a (.ext (qch a C (some d)))) a C fs:=by
  rcases x with ⟨e,_⟩ | ⟨d',e,h1,h2⟩
  · cases e
  cases e
  have nd:d≠a:=by
    rcases sx.dd with z | ⟨_,z⟩
    · cases z
    · intro q
      subst q
      rw [qab] at z
      cases z
  refine ⟨h1,(SetX.sm hn rfl sx).at hn,.inr (.inr (.inr ⟨d,qab,?_⟩))⟩
  rw [qaf nd]
  exact h2
end L2
set_option Elab.async false
set_option linter.all false
set_option maxRecDepth 100000
set_option maxHeartbeats 2000000
namespace Mx
open PySem L2 PyProof.Rows
section
variable {X:Cx} {o e:Expr} {es:List Expr} {te to:TE} {t:TA} {pos p2:Pos}
theorem yg3 {lo hi:Option Expr} {tl th:TO} {r:V→Option Int→Option Int→Hp→VK→Prop} (hr:SlR X r) (he:QE X e te) (hl:PO X lo tl) (hu:PO X hi th):QE X (.Subscript e (.Slice lo hi none p2) pos) (tSl r te tl th):=⟨ydr hr he.of hl hu⟩
theorem qe_bm {name:Str} {apos cpos:Pos} {T id:String} {r:V→List V→Hp→VK→Prop} (pa:PlainAttrs T) (slot:Slot T name id) (hty:typeOf (.builtin id)=pure (.type "method_descriptor")) (hm:MtR X id r) (ho:QE X o to) (ha:QA X (e :: es) t)
    (hbase:attributeBase o name X.env (eval o X.env)=eval o X.env:=by rfl)
    (hfew:((backTo cpos (starEach (e :: es) X.env)).all (fun x=>!x.1) && (backToKw cpos (keywordEach [] X.env)).all (fun x=>x.1.isSome)
      && decide ((e :: es).length + ([]:List Keyword).length + (if ([]:List Keyword).isEmpty then 0 else 1) < 30))=true:=by rfl)
    (hline:(apos.endLine == cpos.line)=true:=by rfl) (hs:starEach (e :: es) X.env=(false,eval e X.env) :: starEach es X.env:=by rfl) (hplain:(backTo cpos (starEach es X.env)).any (·.1)=false:=by rfl) :
    QE X (.Call (.Attribute o name apos) (e :: es) [] cpos) (tBM X.K T r to t):=⟨qgj pa slot hty hm ho.of ha.of hbase hfew hline hs hplain⟩
end
end Mx
set_option Elab.async false
set_option linter.all false
set_option maxRecDepth 100000
set_option maxHeartbeats 2000000
namespace L2
open PySem PySem.Spec PyProof.Rows PySem.W
def AtX (H:Hp) (v:V) (d:PyData):Prop:=At H v d∨(d=.dict []∧∃ a,v=.ref a∧H a=some (.dK []))
theorem AtX.same {H H':Hp} {v:V} {d:PyData} (h:AtX H v d) (s:Same H H'):AtX H' v d:=by
  rcases h with h | ⟨e,a,ea,h⟩
  · exact .inl (h.same s)
  · exact .inr ⟨e,a,ea,s _ _ h⟩
def tyD:PyData→Value
  | .none=>.type "NoneType"
  | .bool _=>.type "bool"
  | .int _=>.type "int"
  | .str _=>.type "str"
  | .list _=>.type "list"
  | .tuple _=>.type "tuple"
  | .dict _=>.type "dict"
theorem AtX.ty {K:PySem.W.Frag} {H:Hp} {v:V} {d:PyData} (h:AtX H v d):TyOf K H v (tyD d):=by
  rcases h with h | ⟨e,a,ea,h⟩
  · cases h with
    | non=>exact .non
    | bl b=>exact .bl b
    | int i=>exact .int i
    | str x=>exact .str x
    | lst e _=>exact .lst e
    | tup e _=>exact .tup e
  · subst e ea
    exact .dK h
def isTup:PyData→Bool | .tuple _=>true | _=>false
def isLst:PyData→Bool | .list _=>true | _=>false
def isStr:PyData→Bool | .str _=>true | _=>false
def isInt:PyData→Bool | .int _=>true | .bool _=>true | _=>false
def isBl:PyData→Bool | .bool _=>true | _=>false
theorem kit_tup {K:PySem.W.Frag} (d:PyData):PySem.W.kitOne K (tyD d) (.type "tuple")=some (isTup d):=by cases d <;> rfl
theorem yhp {K:PySem.W.Frag} (d:PyData):PySem.W.kitOne K (tyD d) (.type "list")=some (isLst d):=by cases d <;> rfl
theorem qjj {K:PySem.W.Frag} (d:PyData):PySem.W.kitOne K (tyD d) (.type "str")=some (isStr d):=by cases d <;> rfl
theorem kit_int {K:PySem.W.Frag} (d:PyData):PySem.W.kitOne K (tyD d) (.type "int")=some (isInt d):=by cases d <;> rfl
theorem kit_bl {K:PySem.W.Frag} (d:PyData):PySem.W.kitOne K (tyD d) (.type "bool")=some (isBl d):=by cases d <;> rfl
end L2
set_option Elab.async false
set_option linter.all false
set_option maxRecDepth 100000
set_option maxHeartbeats 2000000
set_option Elab.async false
set_option linter.all false
set_option maxRecDepth 100000
set_option maxHeartbeats 4000000
namespace L2
open PySem PyProof.Rows
def Lay (L:List Addr) (te:TE) (σ:L2.St) (d:PyData) (H:Hp):Prop:=(∀ b∈L,H b≠none)→∀ H1,Same H H1→∀ Q:VK,(∀ v H',Same H1 H'→At (qba H' L) v d→Q v H')→te σ H1 Q
def LayA (L:List Addr) (ta:TA) (σ:L2.St) (ds:List PyData) (H:Hp):Prop:=(∀ b∈L,H b≠none)→∀ H1,Same H H1→∀ Q:List V→Hp→Prop,(∀ vs H',Same H1 H'→AtAll (qba H' L) vs ds→Q vs H')→ta σ H1 Q
theorem qfq {L:List Addr} {H H1:Hp} {p:Addr} (hL:∀ b∈L,H b≠none) (s:Same H H1) (hp:H1 p=none):p∉L:=fun z=>by
  cases e:H p with
  | none=>exact hL p z e
  | some o=>rw [s _ _ e] at hp; cases hp
section
variable {K:PySem.W.Frag} {σ:L2.St} {H:Hp} {te tf:TE} {ta:TA} {d:PyData} {ds es:List PyData} {L:List Addr}
theorem qay:LayA L tNil σ [] H:=fun hL H1 s Q k=>k [] H1 (Same.refl H1) .nil
theorem yag (h:Lay L te σ d H) (r:LayA L ta σ ds H):LayA L (yc8 te ta) σ (d :: ds) H:=fun hL H1 s Q k=>
  h hL H1 s _ fun v H2 s2 a2=>r hL H2 (s.trans s2) _ fun vs H3 s3 a3=>k (v :: vs) H3 (s2.trans s3) (.cons (a2.same (qau s3 L)) a3)
theorem qjb {H0 H2:Hp} {p:Addr} {vs:List V} (hL:∀ b∈L,H0 b≠none) (s:Same H0 H2) (hp:H2 p=none) (a:AtAll (qba H2 L) vs ds):At (qba (upd H2 p (.tup vs)) L) (.ref p) (.tuple ds):=
  .tup (by rw [qb9 (qfq hL s hp)]; exact qab) (a.same (qau ((Same.refl H2).upd hp) L))
theorem yen {H0 H2:Hp} {p:Addr} {vs:List V} (hL:∀ b∈L,H0 b≠none) (s:Same H0 H2) (hp:H2 p=none) (a:AtAll (qba H2 L) vs ds):At (qba (upd H2 p (.lst vs)) L) (.ref p) (.list ds):=
  .lst (by rw [qb9 (qfq hL s hp)]; exact qab) (a.same (qau ((Same.refl H2).upd hp) L))
theorem yck (h:LayA L ta σ ds H) (z:ds.length≤1000:=by exact Nat.le_of_ble_eq_true rfl):Lay L (tTup ta) σ (.tuple ds) H:=fun hL H1 s Q k=>
  h hL H1 s _ fun vs H2 s2 a2=>⟨by rw [a2.length]; exact Nat.le_trans z (by decide),fun p hp=>k _ _ (s2.upd hp) (qjb hL (s.trans s2) hp a2)⟩
theorem qax (h:LayA L ta σ ds H) (z:ds.length≤1000:=by exact Nat.le_of_ble_eq_true rfl):Lay L (tLst ta) σ (.list ds) H:=fun hL H1 s Q k=>
  h hL H1 s _ fun vs H2 s2 a2=>⟨by rw [a2.length]; exact Nat.le_trans z (by decide),fun p hp=>k _ _ (s2.upd hp) (yen hL (s.trans s2) hp a2)⟩
theorem qcg:Lay L (tC .non) σ .none H:=fun hL H1 s Q k=>k _ H1 (Same.refl H1) .non
theorem ydv {b:Bool}:Lay L (tC (.bl b)) σ (.bool b) H:=fun hL H1 s Q k=>k _ H1 (Same.refl H1) (.bl b)
theorem ybm {i:Int}:Lay L (tC (.int i)) σ (.int i) H:=fun hL H1 s Q k=>k _ H1 (Same.refl H1) (.int i)
theorem qcf {x:Str}:Lay L (tC (.str x)) σ (.str x) H:=fun hL H1 s Q k=>k _ H1 (Same.refl H1) (.str x)
theorem qda {i:Int}:Lay L (tUn (rU fun i=>V.int (-i)) (tC (.int i))) σ (.int (-i)) H:=fun hL H1 s Q k=>⟨i,rfl,k _ H1 (Same.refl H1) (.int _)⟩
theorem qj3 {i j:Int} (h:CPow i j):Lay L (tOp (rI CPow fun i j=>V.int (i ^ j.toNat)) (tC (.int i)) (tC (.int j))) σ (.int (i ^ j.toNat)) H:=fun hL H1 s Q k=>⟨i,j,rfl,rfl,h,k _ H1 (Same.refl H1) (.int _)⟩
theorem yct {i:Nat} {v:V} (hσ:σ[i]?=some (some v)) (h:At (qba H L) v d):Lay L (tVar i) σ d H:=fun hL H1 s Q k=>⟨v,hσ,k v H1 (Same.refl H1) (h.same (qau s L))⟩
theorem qcs (h1:Lay L te σ (.list ds) H) (h2:Lay L tf σ (.list es) H) (z:ds.length + es.length≤1000):Lay L (tOp rCat te tf) σ (.list (ds++es)) H:=fun hL H1 s Q k=>
  h1 hL H1 s _ fun v H2 s2 a2=>h2 hL H2 (s.trans s2) _ fun u H3 s3 a3=>by
    obtain ⟨a,vs,rfl,ha,hw⟩:=(a2.same (qau s3 L)).lstEq
    obtain ⟨b,us,rfl,hb,hu⟩:=a3.lstEq
    exact ⟨a,b,vs,us,rfl,rfl,yat _ _ _ _ ha,yat _ _ _ _ hb,by rw [hw.length,hu.length]; exact Nat.le_trans z (by decide),fun p hp=>k _ _ ((s2.trans s3).upd hp) (yen hL ((s.trans s2).trans s3) hp (hw.append hu))⟩
theorem yfn {H:Hp} {vs:List V} {ds:List PyData} (h:AtAll H vs ds):∀ n,AtAll H (List.replicate n vs).flatten (List.replicate n ds).flatten
  | 0=>.nil
  | n + 1=>by
    rw [List.replicate_succ,List.replicate_succ,List.flatten_cons,List.flatten_cons]
    exact h.append (yfn h n)
theorem qks {n:Nat} (h1:Lay L te σ (.list ds) H) (hn:n≤1000) (z:ds.length * n≤1000):Lay L (tOp rRep te (tC (.int n))) σ (.list (List.replicate n ds).flatten) H:=fun hL H1 s Q k=>
  h1 hL H1 s _ fun v H2 s2 a2=>by
    obtain ⟨a,vs,rfl,ha,hw⟩:=a2.lstEq
    refine ⟨a,n,vs,rfl,rfl,yat _ _ _ _ ha,by omega,by omega,by rw [hw.length,Int.toNat_natCast]; exact Nat.le_trans z (by decide),fun p hp=>k _ _ (s2.upd hp) ?_⟩
    rw [Int.toNat_natCast]
    exact yen hL (s.trans s2) hp (yfn hw n)
def LayN (t:TE) (σ:L2.St) (n:Nat):Prop:=∀ H1 (Q:VK),Q (.int n) H1→t σ H1 Q
theorem qiv {n:Nat}:LayN (tC (.int n)) σ n:=fun H1 Q k=>k
theorem lay_take {t:TE} {n:Nat} (h1:Lay L te σ (.list ds) H) (hn:LayN t σ n):Lay L (tSl (rSlL K) te qhn (tPart t)) σ (.list (ds.take n)) H:=fun hL H1 s Q k=>
  h1 hL H1 s _ fun v H2 s2 a2=>hn H2 _ ⟨n,rfl,by
    obtain ⟨a,vs,rfl,ha,hw⟩:=a2.lstEq
    refine ⟨a,vs,rfl,SqL.of (yat _ _ _ _ ha),fun p hp=>k _ _ (s2.upd hp) ?_⟩
    rw [qh4]
    exact yen hL (s.trans s2) hp (hw.take n)⟩
theorem qef {t:TE} {n:Nat} (h1:Lay L te σ (.list ds) H) (hn:LayN t σ n):Lay L (tSl (rSlL K) te (tPart t) qhn) σ (.list (ds.drop n)) H:=fun hL H1 s Q k=>
  h1 hL H1 s _ fun v H2 s2 a2=>hn H2 _ ⟨n,rfl,by
    obtain ⟨a,vs,rfl,ha,hw⟩:=a2.lstEq
    refine ⟨a,vs,rfl,SqL.of (yat _ _ _ _ ha),fun p hp=>k _ _ (s2.upd hp) ?_⟩
    rw [qe2]
    exact yen hL (s.trans s2) hp (hw.drop n)⟩
def rTupOf (K:PySem.W.Frag):List V→Hp→VK→Prop:=fun xs H Q=>∃ p ys,xs=[.ref p]∧((SqL K H p ys∧∀ l,H l=none→Q (.ref l) (upd H l (.tup ys)))∨(SqT K H p ys∧Q (.ref p) H))
theorem ygn (h1:Lay L te σ (.list ds) H):Lay L (tCB (rTupOf K) (yc8 te tNil)) σ (.tuple ds) H:=fun hL H1 s Q k=>
  h1 hL H1 s _ fun v H2 s2 a2=>by
    obtain ⟨a,vs,rfl,ha,hw⟩:=a2.lstEq
    exact ⟨a,vs,rfl,.inl ⟨SqL.of (yat _ _ _ _ ha),fun p hp=>k _ _ (s2.upd hp) (qjb hL (s.trans s2) hp hw)⟩⟩
theorem gn {i:Nat} {v:V} {σ:L2.St} {H:Hp} {Q:L2.St→Hp→Prop} (h:Q (σ.set i (some v)) H):yfw i v σ H Q:=h
theorem hid0 {H:Hp} {v:V} {d:PyData} (h:At H v d):At (qba H []) v d:=h.same fun b o e=>by rw [qb9 (by simp)]; exact e
theorem yjy {Q:VK} (h:Lay L te σ d H) (hL:∀ b∈L,H b≠none) (k:∀ v H',Same H H'→At (qba H' L) v d→Q v H'):te σ H Q:=h hL H (Same.refl H) Q k
theorem qh0 {i:Nat} {rest:TS} {KK:Ends} (h:Lay [] te σ d H) (k:∀ v H',Same H H'→At H' v d→rest KK (σ.set i (some v)) H'):tSeq (tAsg te (yfw i)) rest KK σ H:=
  h (fun b hb=>by cases hb) H (Same.refl H) _ fun v H' s a=>k v H' s (a.same (yat _ _))
def Sm (D B:Nat) (d:PyData):Prop:=d.showable=true∧d.depth≤D∧d.leavesShort 40=true∧d.bulk≤B
theorem Sm.mono {D B D' B':Nat} {d:PyData} (h:Sm D B d) (h1:D≤D':=by decide) (h2:B≤B':=by decide):Sm D' B' d:=⟨h.1,Nat.le_trans h.2.1 h1,h.2.2.1,Nat.le_trans h.2.2.2 h2⟩
theorem Sm.list {D B n:Nat} {xs:List PyData} (h:∀ x∈xs,Sm D B x) (hl:xs.length≤n):Sm (D + 1) ((B + 1) * n) (.list xs):=by
  refine ⟨?_,?_,?_,?_⟩
  · simp only [PyData.showable]
    exact Spec.showableAll_of fun x hx=>(h x hx).1
  · have:=yc6 (n:=D) (xs:=xs) fun x hx=>(h x hx).2.1
    simp only [PyData.depth]
    omega
  · unfold PyData.leavesShort
    exact qd2 fun x hx=>(h x hx).2.2.1
  · have:=yeo (n:=B) (xs:=xs) fun x hx=>(h x hx).2.2.2
    simp only [PyData.bulk]
    exact Nat.le_trans this (Nat.mul_le_mul_left _ hl)
theorem Sm.tuple {D B n:Nat} {xs:List PyData} (h:∀ x∈xs,Sm D B x) (hl:xs.length≤n):Sm (D + 1) ((B + 1) * n) (.tuple xs):=by
  refine ⟨?_,?_,?_,?_⟩
  · simp only [PyData.showable]
    exact Spec.showableAll_of fun x hx=>(h x hx).1
  · have:=yc6 (n:=D) (xs:=xs) fun x hx=>(h x hx).2.1
    simp only [PyData.depth]
    omega
  · unfold PyData.leavesShort
    exact qd2 fun x hx=>(h x hx).2.2.1
  · have:=yeo (n:=B) (xs:=xs) fun x hx=>(h x hx).2.2.2
    simp only [PyData.bulk]
    exact Nat.le_trans this (Nat.mul_le_mul_left _ hl)
theorem Sm.shown {D B:Nat} {d:PyData} (h:Sm D B d) (hD:D≤60:=by decide) (hB:B≤100000:=by decide):d.showable=true∧d.depth≤60∧d.shown.length≤sizeLine:=by
  refine ⟨h.1,Nat.le_trans h.2.1 hD,?_⟩
  have h1:=PyData.shown_le_bulk 40 (by decide) d h.2.2.1
  have h2:=h.2.2.2
  have hsl:(sizeLine:Nat)=16777216:=rfl
  omega
end
end L2
set_option Elab.async false
set_option linter.all false
set_option maxRecDepth 100000
set_option maxHeartbeats 2000000
namespace L2
open PySem PySem.Spec PyProof.Rows PySem.W Mx
section
variable {X:Cx} {o e:Expr} {es:List Expr} {ta:TE} {t:TA} {C:Addr} {m:Str} {pos apos:Pos} {E:XK}
theorem qgk {k n:Nat} {ps:List Str} {sp:Sp} {pl:Sem Bool} (c:Cls X.K C) (h:ydc X.prog X.w X.K X.mg X.base C k m ps sp) (hx:ydl (CX1 X.prog X.w) X E) (hr:Room n X.A) (he:QE X o ta) (ha:QA X (e :: es) t) (hk:k≤n:=by decide)
    (hst:starEach (e :: es) X.env=(false,eval e X.env) :: starEach es X.env:=by rfl) (hpl:(backTo pos (starEach es X.env)).any (·.1)=false:=by rfl)
    (ht:eval (.Call (.Attribute o m apos) (e :: es) [] pos) X.env=(do
      let ov ← eval o X.env
      standAt apos.atName
      let (f,first) ← holding [ov] (getMethod ov m pl)
      callWith pos f first (backTo pos (starEach (e :: es) X.env)) (backToKw pos (keywordEach [] X.env))):=by rfl) :
    QE X (.Call (.Attribute o m apos) (e :: es) [] pos) (tMeth C m sp [] E ta t):=by
  obtain ⟨f,fd,h1,h2,h3⟩:=h
  exact ⟨pe_meth (pl:=pl) he.of c h1 h3 (hr.mono hk) h2 .nil hx ha.of hst hpl ht⟩
end
end L2
set_option Elab.async false
set_option linter.all false
set_option maxRecDepth 100000
set_option maxHeartbeats 2000000
namespace L2
open PySem PySem.Spec PyProof.Rows PySem.W
inductive AllX (H:Hp):List V→List PyData→Prop
  | nil:AllX H [] []
  | cons {v:V} {d:PyData} {vs:List V} {ds:List PyData}:AtX H v d→AllX H vs ds→AllX H (v :: vs) (d :: ds)
theorem AllX.same {H H':Hp} (s:Same H H'):∀ {vs:List V} {ds:List PyData},AllX H vs ds→AllX H' vs ds
  | _,_,.nil=>.nil
  | _,_,.cons a r=>.cons (a.same s) (r.same s)
theorem AtX.readsX {P:Program} {w:World} {H:Hp} {h:Heap} {v:V} {d:PyData} {u:Value} (ok:HOk P w H h) (a:AtX H v d) (r:RelV v u):∃ as,Reads h u d as∧(d.hasDict=true→sysModules∉as):=by
  rcases a with a | ⟨e,p,ea,hp⟩
  · obtain ⟨as,q⟩:=a.reads ok r
    exact ⟨as,q,fun z=>by rw [a.noDict] at z; cases z⟩
  · subst e ea
    cases r
    obtain ⟨_,hm,vs,kv,o,es,ep,e1,e2,e3,e4,e5,_⟩:=ok p _ hp
    cases kv
    have hes:es.toList=[]:=by
      revert e5
      generalize es.toList=l
      intro e5
      cases e5
      rfl
    refine ⟨p :: []++[],.dict e1 e2.1 e3 (by rw [hes]; exact .nil) (by rw [hes]; exact .nil),fun _ hmem=>?_⟩
    have:sysModules=p:=by simpa using hmem
    rw [this] at hm
    simp at hm
theorem AllX.repr {P:Program} {w:World} {H:Hp} {h:Heap} (ok:HOk P w H h):∀ {vs:List V} {ds:List PyData} {us:List Value},AllX H vs ds→Vals vs us→PyData.showableAll ds=true→(∀ t∈PyData.shownAll ds,t.length≤sizeLine)→
    ∃ as bs,ReadsAll h us ds as∧ReadAtMost h (PyData.depthAll ds) bs∧ReprAllK P w bs h (PyData.depthAll ds) us (PyData.shownAll ds)
  | _,_,_,.nil,.nil,_,_=>⟨_,[],.nil,(fun _ h=>nomatch h),by simp only [PyData.shownAll]; exact .nil⟩
  | _,_,_,.cons (d:=d) (ds:=ds) a x,.cons r rs,hs,hz=>by
    have hs':d.showable=true∧PyData.showableAll ds=true:=by simpa [PyData.showableAll] using hs
    obtain ⟨as,rd,hsm⟩:=a.readsX ok r
    obtain ⟨b1,hb1,k1⟩:=ReprK.of_reads (prog:=P) (w:=w) rd hs'.1 hsm (hz _ (by simp only [PyData.shownAll]; exact List.mem_cons_self ..))
    obtain ⟨as2,b2,rd2,hb2,k2⟩:=AllX.repr ok x rs hs'.2 (fun t ht=>hz t (by simp only [PyData.shownAll]; exact List.mem_cons_of_mem _ ht))
    refine ⟨_,b1++b2,.cons rd rd2,?_,?_⟩
    · intro b hm
      simp only [PyData.depthAll]
      rcases List.mem_append.mp hm with hm | hm
      · obtain ⟨d',as',r',hd'⟩:=hb1 b hm
        exact ⟨d',as',r',Nat.le_trans hd' (Nat.le_max_left _ _)⟩
      · obtain ⟨d',as',r',hd'⟩:=hb2 b hm
        exact ⟨d',as',r',Nat.le_trans hd' (Nat.le_max_right _ _)⟩
    · simp only [PyData.depthAll,PyData.shownAll]
      exact .cons ((k1.more fun b hb=>List.mem_append_left _ hb).level_le (Nat.le_max_left _ _)) (k2.more_le (fun b hb=>List.mem_append_right _ hb) (Nat.le_max_right _ _))
section
variable {X:Cx}
def rReprXL:List V→Hp→VK→Prop:=fun xs H Q=>∃ a vs ds,xs=[.ref a]∧H a=some (.lst vs)∧vs≠[]∧AllX H vs ds∧(PyData.list ds).showable=true∧(PyData.list ds).depth≤60∧(PyData.list ds).shown.length≤sizeLine∧Q (.str (PyData.list ds).shown) H
theorem ye7 {k:Nat} (hr:Room k X.A):yds X (.builtin "repr") rReprXL:=by
  intro pins s σ H xs us Q I r h
  obtain ⟨a,vs,ds,rfl,hL,hne,hx,hs,hd,hz,q⟩:=h
  cases r with
  | cons r rr=>
    cases rr
    cases r
    obtain ⟨z,its,n,rv,ho⟩:=I.hok _ _ hL
    have hz':(listText (PyData.shownAll ds)).length≤sizeLine:=by simpa only [PyData.shown] using hz
    obtain ⟨as,bs,rd,hb,hk⟩:=AllX.repr I.hok hx rv (by simpa [PyData.showable] using hs) (fun t ht=>Nat.le_trans (listText_mem_le ht) hz')
    have hna:a∉bs:=not_mem_of_deeper (.list ho rfl rfl (by simpa using rd)) (by simp only [PyData.depth]; omega) hb
    have hu:=hr.units
    simp only [PyData.depth] at hd
    cases hits:its with
    | nil=>subst hits; cases rv; exact absurd rfl hne
    | cons x l=>
      subst hits
      refine call_repr_slot (by omega) ⟨_,ho,rfl⟩ F.slot_list_repr.toG ?_
      refine call_list_reprK ho rfl rfl hna (by simpa using hk.length_eq) (fun i y e=>hk.item i y (by simpa using e)) hr.gd (fun b _=>Clear.nil b) (by show X.A.units + 1 + (PyData.depthAll ds + 1) < cLine; omega) (fun _ _ z=>z) (fun h' u tk hkp=>⟨_,_,rfl,?_⟩) hz'
      refine ⟨.str _,H,I.kept hkp,⟨_,rfl⟩,?_⟩
      simp only [PyData.shown] at q
      exact q
end
end L2
set_option Elab.async false
set_option linter.all false
set_option maxRecDepth 100000
set_option maxHeartbeats 2000000
set_option Elab.async false
set_option linter.all false
set_option maxRecDepth 100000
set_option maxHeartbeats 2000000
namespace L2
open PySem PyProof.Rows
theorem AllX.length {H:Hp}:∀ {vs:List V} {ds:List PyData},AllX H vs ds→vs.length=ds.length
  | _,_,.nil=>rfl
  | _,_,.cons _ r=>by rw [List.length_cons,List.length_cons,r.length]
theorem AllX.append {H:Hp}:∀ {vs ws:List V} {ds es:List PyData},AllX H vs ds→AllX H ws es→AllX H (vs++ws) (ds++es)
  | _,_,_,_,.nil,y=>y
  | _,_,_,_,.cons a r,y=>.cons a (r.append y)
theorem AtAll.allX {H:Hp}:∀ {vs:List V} {ds:List PyData},AtAll H vs ds→AllX H vs ds
  | _,_,.nil=>.nil
  | _,_,.cons a r=>.cons (.inl a) (AtAll.allX r)
theorem AllX.getD {H:Hp}:∀ {vs:List V} {ds:List PyData} {i:Nat} {d:PyData},AllX H vs ds→ds[i]?=some d→∃ v,vs[i]?=some v∧AtX H v d
  | _,_,0,_,.cons a _,h=>by cases h; exact ⟨_,rfl,a⟩
  | _,_,i + 1,_,.cons _ r,h=>r.getD (i:=i) h
theorem AllX.mem {H:Hp} {vs:List V} {ds:List PyData} {i:Int} (h:AllX H vs ds) (h0:0≤i) (h1:i < ds.length):∃ v d,atI vs i=some v∧ds[i.toNat]?=some d∧AtX H v d:=by
  obtain ⟨v,hv,ha⟩:=h.getD (List.getElem?_eq_getElem (l:=ds) (i:=i.toNat) (by omega))
  exact ⟨v,_,qj2 h0 hv,List.getElem?_eq_getElem (by omega),ha⟩
def LayX (L:List Addr) (te:TE) (σ:L2.St) (d:PyData) (H:Hp):Prop:=(∀ b∈L,H b≠none)→∀ H1,Same H H1→∀ Q:VK,(∀ v H',Same H1 H'→AtX (qba H' L) v d→Q v H')→te σ H1 Q
def LayXA (L:List Addr) (ta:TA) (σ:L2.St) (ds:List PyData) (H:Hp):Prop:=(∀ b∈L,H b≠none)→∀ H1,Same H H1→∀ Q:List V→Hp→Prop,(∀ vs H',Same H1 H'→AllX (qba H' L) vs ds→Q vs H')→ta σ H1 Q
def LayL (L:List Addr) (te:TE) (σ:L2.St) (ds:List PyData) (H:Hp):Prop:=(∀ b∈L,H b≠none)→∀ H1,Same H H1→∀ Q:VK,(∀ a vs H',Same H1 H'→qba H' L a=some (.lst vs)→AllX (qba H' L) vs ds→Q (.ref a) H')→te σ H1 Q
section
variable {K:PySem.W.Frag} {σ:L2.St} {H:Hp} {te tf:TE} {ta:TA} {d:PyData} {ds es:List PyData} {L:List Addr}
theorem qgg (h:Lay L te σ d H):LayX L te σ d H:=fun hL H1 s Q k=>h hL H1 s Q fun v H' s' a=>k v H' s' (.inl a)
theorem qfm:LayX L tDNewK σ (.dict []) H:=fun hL H1 s Q k=>fun p hp=>k (.ref p) _ ((Same.refl H1).upd hp) (.inr ⟨rfl,p,rfl,by rw [qb9 (qfq hL s hp)]; exact qab⟩)
theorem qe9:LayXA L tNil σ [] H:=fun hL H1 s Q k=>k [] H1 (Same.refl H1) .nil
theorem qcj (h:LayX L te σ d H) (r:LayXA L ta σ ds H):LayXA L (yc8 te ta) σ (d :: ds) H:=fun hL H1 s Q k=>
  h hL H1 s _ fun v H2 s2 a2=>r hL H2 (s.trans s2) _ fun vs H3 s3 a3=>k (v :: vs) H3 (s2.trans s3) (.cons (a2.same (qau s3 L)) a3)
theorem qga (h:LayXA L ta σ ds H) (z:ds.length≤1000:=by exact Nat.le_of_ble_eq_true rfl):LayL L (tLst ta) σ ds H:=fun hL H1 s Q k=>
  h hL H1 s _ fun vs H2 s2 a2=>⟨by rw [a2.length]; exact Nat.le_trans z (by decide),fun p hp=>k p vs _ (s2.upd hp) (by rw [qb9 (qfq hL (s.trans s2) hp)]; exact qab) (a2.same (qau ((Same.refl H2).upd hp) L))⟩
theorem qhk (h:Lay L te σ (.list ds) H):LayL L te σ ds H:=fun hL H1 s Q k=>h hL H1 s Q fun v H' s' a=>by
  obtain ⟨p,vs,rfl,hp,hw⟩:=a.lstEq
  exact k p vs H' s' hp (AtAll.allX hw)
theorem yh5 {i:Nat} {a:Addr} {vs:List V} (hσ:σ[i]?=some (some (.ref a))) (h:qba H L a=some (.lst vs)) (hx:AllX (qba H L) vs ds):LayL L (tVar i) σ ds H:=fun hL H1 s Q k=>⟨_,hσ,k a vs H1 (Same.refl H1) (qau s L _ _ h) (hx.same (qau s L))⟩
theorem qio (h1:LayL L te σ ds H) (h2:LayL L tf σ es H) (z:ds.length + es.length≤1000):LayL L (tOp rCat te tf) σ (ds++es) H:=fun hL H1 s Q k=>
  h1 hL H1 s _ fun a vs H2 s2 e2 a2=>h2 hL H2 (s.trans s2) _ fun b us H3 s3 e3 a3=>
    ⟨a,b,vs,us,rfl,rfl,s3 _ _ (yat _ _ _ _ e2),yat _ _ _ _ e3,by rw [a2.length,a3.length]; exact Nat.le_trans z (by decide),fun p hp=>k p _ _ ((s2.trans s3).upd hp) (by rw [qb9 (qfq hL ((s.trans s2).trans s3) hp)]; exact qab) (((a2.same (qau s3 L)).append a3).same (qau ((Same.refl H3).upd hp) L))⟩
theorem ygb {tb:TE} {i:Int} (h:LayL L te σ ds H) (hb:∀ H1,Same H H1→∀ Q:VK,Q (.int i) H1→tb σ H1 Q) (h0:0≤i) (h1:i < ds.length) {d:PyData} (hd:ds[i.toNat]?=some d):LayX L (tOp (rIxL K) te tb) σ d H:=fun hL H1 s Q k=>
  h hL H1 s _ fun a vs H2 s2 e2 a2=>hb H2 (s.trans s2) _ (by
    obtain ⟨v,d',hv,hd',ha⟩:=a2.mem h0 h1
    rw [hd] at hd'
    cases hd'
    exact ⟨a,vs,i,v,rfl,rfl,SqL.of (yat _ _ _ _ e2),hv,k v H2 s2 ha⟩)
end
end L2
set_option Elab.async false
set_option linter.all false
set_option maxRecDepth 100000
set_option Elab.async false
set_option linter.all false
set_option maxRecDepth 100000
set_option Elab.async false
set_option linter.all false
set_option maxRecDepth 100000
set_option Elab.async false
set_option linter.all false
set_option maxRecDepth 100000
set_option Elab.async false
set_option linter.all false
set_option maxRecDepth 100000
namespace L2
open PySem PySem.Spec PyProof.Rows
theorem yg5 {a b:List Int} (p:a.Perm b) (ha:a.Pairwise (·≤·)) (hb:b.Pairwise (·≤·)):a=b:=p.eq_of_pairwise (fun x y _ _ h1 h2=>Int.le_antisymm h1 h2) ha hb
end L2
set_option Elab.async false
set_option linter.all false
set_option maxRecDepth 100000
namespace L2
open PySem PySem.Spec PyProof.Rows
section
variable {X:Cx} {e:Expr} {ta:TE} {pos:Pos} {f:Str}
theorem pe_fldK {K:PySem.W.Frag} (hK:X.K=K) (he:PE X e ta) (hb:attributeBase e f X.env (eval e X.env)=eval e X.env):PE X (.Attribute e f pos) (tFld K ta f):=hK ▸ pe_fld he hb
end
end L2
set_option Elab.async false
set_option linter.all false
set_option maxRecDepth 100000
namespace L2
open PySem PySem.Spec PyProof.Rows
theorem yiz {x y:Int} (h0:0 < y) (h1:y≤18446744073709551616):Builtin.divisionGoesByPylong x y=false:=by
  have hl:y.natAbs.log2 < 65:=(Nat.log2_lt (by omega)).mpr (by omega)
  unfold Builtin.divisionGoesByPylong
  have e:decide ((if (y == 0)=true then 0 else y.natAbs.log2 / 30 + 1) > 300)=false:=by
    refine decide_eq_false ?_
    rw [if_neg (by simp; omega)]
    omega
  show (decide ((if (y == 0)=true then 0 else y.natAbs.log2 / 30 + 1) > 300) && _)=false
  rw [e]
  rfl
section
variable {X:Cx}
def CDivB (_ j:Int):Prop:=0 < j∧j≤18446744073709551616
theorem op_fdivB:OpR X (binaryOp .FloorDiv) (rI CDivB fun i j=>.int (i / j)):=opI fun i j _ _ _ _ _ hc q=>by
  have h1:(0:Int) < j:=hc.1
  exact floordiv_int (by omega) (by rw [Int.fdiv_eq_ediv_of_nonneg i (by omega)]; exact q) (.inl (yiz hc.1 hc.2))
end
end L2
set_option Elab.async false
set_option linter.all false
set_option maxRecDepth 100000
set_option Elab.async false
set_option linter.all false
set_option maxRecDepth 100000
set_option Elab.async false
set_option linter.all false
set_option maxRecDepth 100000
namespace L2
open PySem PySem.Spec PyProof.Rows
def Srt (xs:Array Nat):Prop:=∀ (i j:Nat) (x y:Nat),i < j→xs[i]?=some x→xs[j]?=some y→x < y
theorem qgc (xs:Array Nat) (j:Nat) (hs:Srt xs):∀ (fuel lo hi:Nat),hi - lo≤fuel→lo≤hi→hi≤xs.size→(∀ k x,k < lo→xs[k]?=some x→x < j)→(∀ k x,hi≤k→xs[k]?=some x→j≤x)→
    (∀ k x,k < SetTable.below.go xs j fuel lo hi→xs[k]?=some x→x < j)∧(∀ k x,SetTable.below.go xs j fuel lo hi≤k→xs[k]?=some x→j≤x)∧SetTable.below.go xs j fuel lo hi≤xs.size
  | 0,lo,hi,hf,h1,h2,ha,hb=>by
    have e:lo=hi:=by omega
    subst e
    exact ⟨ha,hb,h2⟩
  | fuel + 1,lo,hi,hf,h1,h2,ha,hb=>by
    unfold SetTable.below.go
    by_cases hlt:lo < hi
    · rw [if_pos hlt]
      have hm:(lo + hi) / 2 < xs.size:=by omega
      have hg:xs[(lo + hi) / 2]?=some (xs.getD ((lo + hi) / 2) j):=by
        rw [Array.getD_eq_getD_getElem?,Array.getElem?_eq_getElem hm]; rfl
      dsimp only
      by_cases hc:xs.getD ((lo + hi) / 2) j < j
      · rw [if_pos hc]
        refine qgc xs j hs fuel _ hi (by omega) (by omega) h2 (fun k x hk hx=>?_) hb
        by_cases he:k=(lo + hi) / 2
        · subst he; rw [hg] at hx; cases hx; exact hc
        · have:=hs k ((lo + hi) / 2) x _ (by omega) hx hg
          omega
      · rw [if_neg hc]
        refine qgc xs j hs fuel lo _ (by omega) (by omega) (by omega) ha (fun k x hk hx=>?_)
        by_cases he:k=(lo + hi) / 2
        · subst he; rw [hg] at hx; cases hx; omega
        · have:=hs ((lo + hi) / 2) k _ x (by omega) hg hx
          omega
    · rw [if_neg hlt]
      have e:lo=hi:=by omega
      subst e
      exact ⟨ha,hb,h2⟩
theorem qh2 {xs:Array Nat} (j:Nat) (hs:Srt xs):(∀ k x,k < SetTable.below xs j→xs[k]?=some x→x < j)∧(∀ k x,SetTable.below xs j≤k→xs[k]?=some x→j≤x)∧SetTable.below xs j≤xs.size:=by
  unfold SetTable.below
  refine qgc xs j hs xs.size 0 xs.size (by omega) (Nat.zero_le _) (Nat.le_refl _) (fun k x h=>absurd h (Nat.not_lt_zero _)) (fun k x h hx=>?_)
  rw [Array.getElem?_eq_none h] at hx; cases hx
theorem yil {xs:Array Nat} {j n:Nat} (hs:Srt xs) (hn:n≤xs.size) (h1:∀ k x,k < n→xs[k]?=some x→x < j) (h2:∀ k x,n≤k→xs[k]?=some x→j≤x):SetTable.below xs j=n:=by
  obtain ⟨b1,b2,b3⟩:=qh2 j hs
  rcases Nat.lt_trichotomy (SetTable.below xs j) n with h | h | h
  · have hlt:SetTable.below xs j < xs.size:=by omega
    have g:=Array.getElem?_eq_getElem hlt
    have:=h1 _ _ h g
    have:=b2 _ _ (Nat.le_refl _) g
    omega
  · exact h
  · have hlt:n < xs.size:=by omega
    have g:=Array.getElem?_eq_getElem hlt
    have:=h2 _ _ (Nat.le_refl _) g
    have:=b1 _ _ h g
    omega
theorem qgv {α:Type} (xs:Array α) (p:Nat) (x:α) (hp:p≤xs.size) (i:Nat):(SetTable.insertAt xs p x)[i]?=if i < p then xs[i]? else if i=p then some x else xs[i - 1]?:=by
  unfold SetTable.insertAt
  have e1:((xs.extract 0 p).push x++xs.extract p xs.size).toList=xs.toList.take p++x :: xs.toList.drop p:=by
    simp
    exact List.take_of_length_le (by simp)
  rw [← Array.getElem?_toList,e1]
  have hl:(xs.toList.take p).length=p:=by rw [List.length_take,Array.length_toList]; omega
  by_cases h1:i < p
  · rw [if_pos h1,List.getElem?_append_left (by omega),List.getElem?_take_of_lt h1,Array.getElem?_toList]
  · rw [if_neg h1,List.getElem?_append_right (by omega),hl]
    by_cases h2:i=p
    · rw [if_pos h2,h2,Nat.sub_self]; rfl
    · rw [if_neg h2]
      obtain ⟨d,hd⟩:∃ d,i - p=d + 1:=⟨i - p - 1,by omega⟩
      rw [hd,List.getElem?_cons_succ,List.getElem?_drop,Array.getElem?_toList]
      congr 1
      omega
theorem qi4 {xs:Array Nat} {j:Nat} (hs:Srt xs) (hj:xs[SetTable.below xs j]?≠some j):Srt (SetTable.insertAt xs (SetTable.below xs j) j):=by
  obtain ⟨b1,b2,b3⟩:=qh2 j hs
  have hgt:∀ k x,SetTable.below xs j≤k→xs[k]?=some x→j < x:=fun k x hk hx=>by
    have h1:=b2 k x hk hx
    by_cases he:x=j
    · subst he
      by_cases hk2:k=SetTable.below xs x
      · subst hk2; exact absurd hx hj
      · have hlt:SetTable.below xs x < xs.size:=by
          have:=(Array.getElem?_eq_some_iff.mp hx).1
          omega
        have g:=Array.getElem?_eq_getElem hlt
        have h2:=hs _ k _ x (by omega) g hx
        have h3:=b2 _ _ (Nat.le_refl _) g
        omega
    · omega
  intro a b x y hab hx hy
  rw [qgv _ _ _ b3] at hx hy
  by_cases ha:a < SetTable.below xs j
  · rw [if_pos ha] at hx
    by_cases hb:b < SetTable.below xs j
    · rw [if_pos hb] at hy
      exact hs a b x y hab hx hy
    · rw [if_neg hb] at hy
      have hxj:=b1 a x ha hx
      by_cases hb2:b=SetTable.below xs j
      · rw [if_pos hb2] at hy; cases hy; exact hxj
      · rw [if_neg hb2] at hy
        have:=hgt (b - 1) y (by omega) hy
        omega
  · rw [if_neg ha] at hx
    have hb:¬ b < SetTable.below xs j:=by omega
    rw [if_neg hb] at hy
    by_cases ha2:a=SetTable.below xs j
    · rw [if_pos ha2] at hx
      cases hx
      rw [if_neg (by omega)] at hy
      exact hgt (b - 1) y (by omega) hy
    · rw [if_neg ha2] at hx
      rw [if_neg (by omega)] at hy
      exact hs (a - 1) (b - 1) x y (by omega) hx hy
theorem yjk (n:Nat):Srt (Array.range n):=by
  intro i j x y hij hx hy
  have h1:=(Array.getElem?_eq_some_iff.mp hx).2
  have h2:=(Array.getElem?_eq_some_iff.mp hy).2
  simp at h1 h2
  omega
theorem srt_of {l:List Nat} (h:l.Pairwise (· < ·)):Srt l.toArray:=by
  intro i j x y hij hx hy
  have hx':l[i]?=some x:=by simpa using hx
  have hy':l[j]?=some y:=by simpa using hy
  obtain ⟨hi,e1⟩:=List.getElem?_eq_some_iff.mp hx'
  obtain ⟨hj,e2⟩:=List.getElem?_eq_some_iff.mp hy'
  have:=List.pairwise_iff_getElem.mp h i j hi hj hij
  rw [e1,e2] at this
  exact this
end L2
set_option Elab.async false
set_option linter.all false
set_option maxRecDepth 100000
namespace L2
open PySem PySem.Spec PyProof.Rows
def TOk (t:SetTable):Prop:=Srt t.place∧t.dummies=#[]
theorem qik (j:Nat):SetTable.has #[] j=false:=by
  unfold SetTable.has
  simp
theorem slot_no {t:SetTable} (h:TOk t) (j:Nat):t.slot j≠.dummy:=by
  unfold SetTable.slot
  rw [h.2,qik]
  dsimp only
  split
  · intro z; cases z
  · simp
theorem qi1 {t:SetTable} {j:Nat} (h:t.slot j=.empty):t.place[SetTable.below t.place j]?≠some j:=by
  intro e
  unfold SetTable.slot at h
  dsimp only at h
  rw [if_pos (by rw [e]; simp)] at h
  cases h
theorem qgf (t:SetTable) (p:SetTable.Probe):(t.advance p).dummy=p.dummy:=by
  unfold SetTable.advance
  split <;> rfl
theorem qfn {t:SetTable} (ht:TOk t) (f:Nat→Int) (h:Int):∀ (fuel:Nat) (p:SetTable.Probe) (j:Nat) (d:Option Nat),p.dummy=none→SetTable.probe.go t f h fuel p=some (.empty j d)→t.slot j=.empty∧d=none
  | 0,p,j,d,hp,e=>by
    unfold SetTable.probe.go at e
    cases e
  | fuel + 1,p,j,d,hp,e=>by
    unfold SetTable.probe.go at e
    split at e
    · rename_i hs
      cases e
      exact ⟨hs,hp⟩
    · rename_i hs
      exact absurd hs (slot_no ht _)
    · split at e
      · cases e
      · exact qfn ht f h fuel _ j d (by rw [qgf]; exact hp) e
theorem yhq {t:SetTable} (ht:TOk t) {h:Int} {j:Nat} {b:Bool} (e:t.freeSlot h=some (j,b)):t.slot j=.empty:=by
  unfold SetTable.freeSlot at e
  split at e
  · rename_i j' d hp
    have hq:SetTable.probe.go t (fun _=>h + 1) h (10 * SetTable.turns t.mask) (t.probeStart h)=some (.empty j' d):=hp
    obtain ⟨h1,h2⟩:=qfn ht _ _ _ _ _ _ rfl hq
    subst h2
    cases e
    exact h1
  · cases e
theorem put_ok {t:SetTable} (ht:TOk t) {j:Nat} (h:t.slot j=.empty):TOk (t.put j).1∧(t.put j).1.led=t.led:=by
  refine ⟨⟨qi4 ht.1 (qi1 h),?_⟩,rfl⟩
  show (if SetTable.has t.dummies j then SetTable.eraseAt t.dummies (SetTable.below t.dummies j) else t.dummies)=#[]
  rw [ht.2,qik]
  rfl
theorem ydp (t:SetTable) (n:Nat):TOk (t.standIn n)∧(t.standIn n).led=t.led:=⟨⟨yjk n,rfl⟩,rfl⟩
theorem qhc {t:SetTable} (ht:TOk t) (n:Nat):TOk (t.orStandIn n)∧(t.orStandIn n).led=t.led:=by
  unfold SetTable.orStandIn
  split
  · exact ⟨ht,rfl⟩
  · exact ydp t n
theorem qkd {t:SetTable} (ht:TOk t) (es:Array (Int×Value)) (h:Int) (x:Value):TOk (layNew t es h x).2.1∧(layNew t es h x).2.1.led=t.led:=by
  unfold layNew
  split
  · rename_i j b e
    have hp:=put_ok ht (yhq ht e)
    have ho:=qhc hp.1 (SetTable.insertAt es (t.put j).2 (h,x)).size
    exact ⟨ho.1,ho.2.trans hp.2⟩
  · exact ydp t _
theorem qd8 {α:Type} (f:Nat→Option α):∀ (l:List Nat),l.Pairwise (· < ·)→((l.filterMap fun j=>(f j).map (j,·)).map (·.1)).Pairwise (· < ·):=by
  intro l hl
  have hsub:((l.filterMap fun j=>(f j).map (j,·)).map (·.1)).Sublist l:=by
    induction l with
    | nil=>exact .slnil
    | cons a l ih=>
      rw [List.filterMap_cons]
      have:=ih (List.pairwise_cons.mp hl).2
      cases f a with
      | none=>exact .cons _ this
      | some b=>exact .cons₂ _ this
  exact hl.sublist hsub
theorem ykh {t t':SetTable} {hs:Array Int} {n:Nat} {o:Array Nat} (e:t.relaid hs n=some (t',o)):TOk t'∧t'.led=t.led:=by
  unfold SetTable.relaid SetTable.laid at e
  cases ho:SetTable.layClean (SetTable.sizeAbove n - 1) hs with
  | none=>rw [ho] at e; cases e
  | some owner=>
    rw [ho] at e
    cases e
    refine ⟨⟨srt_of ?_,rfl⟩,rfl⟩
    exact qd8 (fun j=>owner.getD j none) _ List.pairwise_lt_range
theorem yho {t:SetTable} (es:Array (Int×Value)) (n:Nat):TOk (relayAll t es n).2.1∧(relayAll t es n).2.1.led=t.led:=by
  unfold relayAll
  split
  · rename_i t' o e
    dsimp only
    split
    · exact ykh e
    · exact ydp t _
  · exact ydp t _
def byTx (w:World):Bool:=w.params.followText "set-order"
def SetL (P:Program) (w:World) (h:Heap) (a:Addr) (ks:List Int):Prop:=
  ∃ o es ep t,h.get? a=some o∧o.ExactSet∧o.data=.set es ep t∧ElemsOf (intKind P w) es.toList∧(∃ ns,IntsAre (es.toList.map (·.2)) ns∧ns.Perm ks)∧es.size < scanBound∧t.fits es.size=true∧TOk t∧(byTx w=true∨t.led=true)
end L2
set_option Elab.async false
set_option linter.all false
set_option maxRecDepth 100000
namespace L2
open PySem PySem.Spec PyProof.Rows
theorem yd7 {vs' vs:List Value} (p:vs'.Perm vs):∀ {ns:List Int},IntsAre vs ns→∃ ns',IntsAre vs' ns'∧ns'.Perm ns:=by
  induction p with
  | nil=>intro ns h; exact ⟨ns,h,List.Perm.refl _⟩
  | cons x _ ih=>
    intro ns h
    cases h with
    | cons n t r=>
      obtain ⟨ns',h1,h2⟩:=ih r
      exact ⟨n :: ns',.cons n t h1,h2.cons n⟩
  | swap x y l=>
    intro ns h
    cases h with
    | cons n t r=>
      cases r with
      | cons m u r=>exact ⟨m :: n :: _,.cons m u (.cons n t r),List.Perm.swap ..⟩
  | trans _ _ ih1 ih2=>
    intro ns h
    obtain ⟨n1,a1,b1⟩:=ih2 h
    obtain ⟨n2,a2,b2⟩:=ih1 a1
    exact ⟨n2,a2,b2.trans b1⟩
theorem yge:∀ {vs:List Value} {ns:List Int},IntsAre vs ns→(∀ v∈vs,∃ n t,v=.int n t∧n∈ns)∧∀ n∈ns,∃ t,Value.int n t∈vs
  | _,_,.nil=>⟨fun v h=>by simp at h,fun n h=>by simp at h⟩
  | _,_,.cons n t r=>by
    obtain ⟨h1,h2⟩:=yge r
    refine ⟨fun v hv=>?_,fun m hm=>?_⟩
    · rcases List.mem_cons.mp hv with rfl | hv
      · exact ⟨n,t,rfl,List.mem_cons_self ..⟩
      · obtain ⟨m,u,e,hm⟩:=h1 v hv
        exact ⟨m,u,e,List.mem_cons_of_mem _ hm⟩
    · rcases List.mem_cons.mp hm with rfl | hm
      · exact ⟨t,List.mem_cons_self ..⟩
      · obtain ⟨u,hu⟩:=h2 m hm
        exact ⟨u,List.mem_cons_of_mem _ hu⟩
theorem ygu:∀ {vs:List Value} {ns:List Int} (k:Int) (t:Tok),IntsAre vs ns→IntsAre (vs++[.int k t]) (ns++[k])
  | _,_,k,t,.nil=>.cons k t .nil
  | _,_,k,t,.cons n u r=>.cons n u (ygu k t r)
section
variable {P:Program} {w:World} {A:Around} {E:Value→Shared→Prop} {s:Shared} {a:Addr} {ks:List Int}
theorem storeL {o:Obj} {es:Array (Int×Value)} {ep:Nat} {t:SetTable} {es':Array (Int×Value)} {t':SetTable} {ks':List Int} {h:Heap} (g:h.get? a=some o) (gx:o.ExactSet) (gd:o.data=.set es ep t)
    (el:ElemsOf (intKind P w) es'.toList) (hv:∃ ns,IntsAre (es'.toList.map (·.2)) ns∧ns.Perm ks') (hb:es'.size < scanBound) (hf:t'.fits es'.size=true) (ht:TOk t') (hl:byTx w=true∨t'.led=true) :
    (h.update a (Obj.putSet es' t')).get? a=some { o with data:=.set es' (ep + 1) t' }∧SetL P w (h.update a (Obj.putSet es' t')) a ks':=by
  have hg:(h.update a (Obj.putSet es' t')).get? a=some { o with data:=.set es' (ep + 1) t' }:=by
    have z:=Heap.get?_update_self (Obj.putSet es' t') g (by rw [putSet_of es' t' gd]; rfl)
    rw [putSet_of es' t' gd] at z
    exact z
  exact ⟨hg,_,es',ep + 1,t',hg,gx,rfl,el,hv,hb,hf,ht,hl⟩
theorem addL {k:Int} {tk:Tok} {Q:Bool→Shared→Prop} (hS:SetL P w s.heap a ks) (hroom:ks.length + 1 < scanBound)
    (h:∀ b h',Heap.SameBut a s.heap h'→SetL P w h' a (if k∈ks then ks else ks++[k])→Q b { s with heap:=h' }) :
    wpAny (model P w) A (setAddHashed a (.int k tk) ((intKind P w).hash k)) Q E s:=by
  obtain ⟨o,es,ep,t,g,gx,gd,el,⟨ns,hi,hp⟩,hb,hf,ht,hl⟩:=hS
  have hlen:es.size=ks.length:=by
    have h1:=IntsAre.length hi
    rw [List.length_map,Array.length_toList] at h1
    rw [h1,hp.length_eq]
  have kk:(intKind P w).is k (.int k tk)=true:=intKind_is _ _ _ _
  unfold setAddHashed setAddHashedIn
  refine wpAny_holding (wpAny_bind (wpAny_setState_of g gd hf ?_))
  dsimp only
  rw [byScan_of (knd:=intKind P w) rfl hb el]
  simp only [↓reduceIte]
  unfold setAddByScan
  refine wpAny_bind ?_
  refine wpAny_bind (wpAny_rule ?_)
  refine wpAny_bind (wpAny_setScan_of kk g gd hf el ?_)
  have same:∀ m u,(intKind P w).is k (.int m u)=true→m=k:=fun m u z=>(intKind P w).inj _ m k (intKind_is _ _ _ _) z
  cases hr:List.findIdx? (fun e=>(intKind P w).is k e.2) es.toList with
  | some j=>
    dsimp only
    obtain ⟨hj,hpj,_⟩:=List.findIdx?_eq_some_iff_getElem.mp hr
    have hin:k∈ks:=by
      obtain ⟨m,u,e,hm⟩:=(yge hi).1 (es.toList[j]).2 (List.mem_map.mpr ⟨_,List.getElem_mem hj,rfl⟩)
      rw [e] at hpj
      have:=same m u hpj
      subst this
      exact hp.mem_iff.mp hm
    refine wpAny_pure (wpAny_pure ?_)
    have e:s={ s with heap:=s.heap }:=by cases s; rfl
    have z:=h false s.heap (Heap.SameBut.refl a s.heap) (by rw [if_pos hin]; exact ⟨o,es,ep,t,g,gx,gd,el,⟨ns,hi,hp⟩,hb,hf,ht,hl⟩)
    rw [e]
    exact z
  | none=>
    dsimp only
    have hout:k∉ks:=fun hin=>by
      obtain ⟨u,hu⟩:=(yge hi).2 k (hp.mem_iff.mpr hin)
      obtain ⟨e,he,e2⟩:=List.mem_map.mp hu
      have z:=List.findIdx?_eq_none_iff.mp hr e he
      rw [e2] at z
      rw [show (intKind P w).is k (.int k u)=true from intKind_is _ _ _ _] at z
      cases z
    rw [if_neg hout] at h
    have gw:∀ (b:Bool) {s1:Shared} {Q':Unit→Shared→Prop},Q' () s1→wpAny (model P w) A (match b with | true=>rule "set.scan.the-table-gave-way" | false=>pure ()) Q' E s1:=fun b s1 Q' z=>by cases b <;> first | exact wpAny_pure z | exact wpAny_rule z
    have pm:=layNew_perm t es ((intKind P w).hash k) (.int k tk)
    have fm:=layNew_fits t es ((intKind P w).hash k) (.int k tk)
    have tm:=qkd ht es ((intKind P w).hash k) (.int k tk)
    generalize hL:layNew t es ((intKind P w).hash k) (.int k tk)=L at pm fm tm ⊢
    obtain ⟨es1,t1,wasDummy,gave⟩:=L
    dsimp only at pm fm tm ⊢
    rw [Array.toList_push] at pm
    have el1:ElemsOf (intKind P w) es1.toList:=(el.push kk rfl).perm pm
    have hv1:∃ ns,IntsAre (es1.toList.map (·.2)) ns∧ns.Perm (ks++[k]):=by
      have q:=pm.map (·.2)
      rw [List.map_append] at q
      obtain ⟨n1,i1,p1⟩:=yd7 q (ygu k tk hi)
      exact ⟨n1,i1,p1.trans (hp.append_right [k])⟩
    have sz1:es1.size=ks.length + 1:=by
      rw [← Array.length_toList,pm.length_eq,List.length_append,Array.length_toList,hlen]; rfl
    have hb1:es1.size < scanBound:=by rw [sz1]; exact hroom
    refine wpAny_bind (gw _ ?_)
    have tail:∀ (t2:SetTable),t2.fits es1.size=true→TOk t2→(byTx w=true∨t2.led=true)→wpAny (model P w) A (do
        storeSet a es1 t2
        if (!wasDummy && t2.tooFull)=true then do
            (match (relayAll t2 es1 (SetTable.grown es1.size)).2.2 with | true=>rule "set.scan.the-table-gave-way" | false=>pure ())
            storeSet a (relayAll t2 es1 (SetTable.grown es1.size)).1 (relayAll t2 es1 (SetTable.grown es1.size)).2.1
            pure (some true)
          else pure (some true)) (fun r s1=>wpAny (model P w) A (match r with | some added=>pure added | none=>setAddHashedIn a (.int k tk) ((intKind P w).hash k) 99999) Q E s1) E s:=by
      intro t2 f2 k2 l2
      refine wpAny_bind (wpAny_storeSet_of g gd ?_ (fits_of_scanBound hb1))
      obtain ⟨g1,S1⟩:=storeL (P:=P) (w:=w) g gx gd el1 hv1 hb1 f2 k2 l2
      have sb1:=Heap.SameBut.update s.heap a (Obj.putSet es1 t2)
      split
      · have pr:=relayAll_perm t2 es1 (SetTable.grown es1.size)
        have fr:=relayAll_fits t2 es1 (SetTable.grown es1.size)
        have tr:=yho (t:=t2) es1 (SetTable.grown es1.size)
        generalize hR:relayAll t2 es1 (SetTable.grown es1.size)=R at pr fr tr ⊢
        obtain ⟨es2,t3,gave2⟩:=R
        dsimp only at pr fr tr ⊢
        have sz2:es2.size=es1.size:=by rw [← Array.length_toList,pr.length_eq,Array.length_toList]
        have hb2:es2.size < scanBound:=by rw [sz2]; exact hb1
        refine wpAny_bind (gw _ ?_)
        refine wpAny_bind (wpAny_storeSet_of g1 rfl ?_ (fits_of_scanBound hb2))
        have hv2:∃ ns,IntsAre (es2.toList.map (·.2)) ns∧ns.Perm (ks++[k]):=by
          obtain ⟨n1,i1,p1⟩:=hv1
          obtain ⟨n2,i2,p2⟩:=yd7 (pr.map (·.2)) i1
          exact ⟨n2,i2,p2.trans p1⟩
        obtain ⟨_,S2⟩:=storeL (P:=P) (w:=w) g1 gx rfl (el1.perm pr) hv2 hb2 fr tr.1 (l2.imp id fun z=>tr.2.trans z)
        exact wpAny_pure (wpAny_pure (h true _ (sb1.trans (Heap.SameBut.update _ a _)) S2))
      · exact wpAny_pure (wpAny_pure (h true _ sb1 S1))
    have l1:byTx w=true∨t1.led=true:=hl.imp id fun z=>tm.2.trans z
    split
    · refine wpAny_bind ?_
      rw [hashByValue_scannable 8 (rfl:(Value.int k tk).scannable=true)]
      refine wpAny_pure ?_
      split
      · exact tail t1 fm tm.1 l1
      · exact tail { t1 with plain:=false } (SetTable.fits_plain_off fm) tm.1 l1
    · refine wpAny_bind (wpAny_pure ?_)
      simp only [↓reduceIte]
      exact tail t1 fm tm.1 l1
end
end L2
set_option Elab.async false
set_option linter.all false
set_option maxRecDepth 100000
namespace L2
open PySem PySem.Spec PyProof.Rows
def ya5 (f:Nat→Int):Nat→List Int
  | 0=>[]
  | i + 1=>if f i∈ya5 f i then ya5 f i else ya5 f i++[f i]
theorem yep (f:Nat→Int):∀ i,(ya5 f i).length≤i
  | 0=>Nat.le_refl _
  | i + 1=>by
    have ih:=yep f i
    unfold ya5
    split
    · omega
    · rw [List.length_append]; show _ + 1≤_; omega
theorem SetL.at {P:Program} {w:World} {h h':Heap} {a:Addr} {ks:List Int} (x:SetL P w h a ks) (k:∀ o,h.get? a=some o→h'.get? a=some o):SetL P w h' a ks:=by
  obtain ⟨o,es,ep,t,g,r⟩:=x
  exact ⟨o,es,ep,t,k o g,r⟩
section
variable {P:Program} {w:World} {A:Around} {R:Result→Shared→Prop} {I:Addr} {fp wr:List Addr} {G:Array GenState→Array GenState→Prop} {n:Nat} {Pv:Nat→Value→Prop} {St:Nat→Shared→Prop}
theorem loopL (W:WalksS P w A.in1 I fp wr G n Pv St) (d:Addr) (hd:d∉fp) (f:Nat→Int) (hf:∀ i v,Pv i v→∃ t,v=.int (f i) t) (hb:n + 1 < scanBound):∀ (k i:Nat) (s:Shared),n - i=k→i≤n→St i s→SetL P w s.heap d (ya5 f i)→
      (∀ s',Moved (d :: wr) G s s'→SetL P w s'.heap d (ya5 f n)→R (.ok (.ret .none)) s')→codeAny (model P w) A (.builtin "set.update.loop" ⟨[.ref d,.ref I],[]⟩) R s:=by
  have hw:d∉wr:=fun z=>hd (W.sub _ z)
  have up:∀ b∈wr,b∈d :: wr:=fun b z=>List.mem_cons_of_mem _ z
  intro k
  induction k with
  | zero=>
    intro i s hk hi st hS hR
    have e:i=n:=by omega
    subst e
    refine codeAny_builtin F.entry_set_update_loop ?_
    rw [Around.under_plainId F.plain_set_update_loop _]
    show wpAny _ A.in1 (pyNext (.ref I) >>= _) _ _ _
    refine wpAny_bind (W.done s _ _ st fun s' m=>?_)
    show wpAny _ A.in1 (ret Value.none) _ _ _
    exact wpAny_pure (hR s' (m.mono up) (hS.at fun o g=>m.heap d o hw g))
  | succ k ih=>
    intro i s hk hi st hS hR
    have hlt:i < n:=by omega
    refine codeAny_builtin F.entry_set_update_loop ?_
    rw [Around.under_plainId F.plain_set_update_loop _]
    show wpAny _ A.in1 (pyNext (.ref I) >>= _) _ _ _
    refine wpAny_bind (W.item i s _ _ hlt st fun v s' hP st' m=>?_)
    obtain ⟨t,rfl⟩:=hf i v hP
    have hS':SetL P w s'.heap d (ya5 f i):=hS.at fun o g=>m.heap d o hw g
    show wpAny _ A.in1 (holding [Value.int (f i) t] (setAdd d (.int (f i) t)) >>= _) _ _ _
    refine wpAny_bind (wpAny_holding ?_)
    unfold setAdd
    refine wpAny_holding ?_
    refine wpAny_bind ((intKind P w).pyHash (k:=f i) (intKind_is _ _ _ _) ?_)
    have room:(ya5 f i).length + 1 < scanBound:=by have:=yep f i; omega
    refine addL (s:={ s' with toks:=s'.toks + 1 }) hS' room fun b h' sb S2=>?_
    have S3:SetL P w h' d (ya5 f (i + 1)):=S2
    refine wpAny_pure ⟨plainId_quiet F.plain_set_update_loop _,?_⟩
    refine ih (i + 1) _ (by omega) hlt (W.frame _ s' _ _ st' (Nat.le_succ _) fun b hb o g=>?_) S3 fun s2 m2 S4=>?_
    · rw [sb.2 b (fun z:b=d=>hd (by rw [← z]; exact hb))]; exact g
    · refine hR s2 (Moved.trans W.gtrans ((m.mono up).then_heap (Nat.le_succ _) fun b o hb g=>?_) m2) S4
      rw [sb.2 b (fun z:b=d=>hb (by rw [z]; exact List.mem_cons_self))]; exact g
end
section
variable {P:Program} {w:World} {A:Around} {E:Value→Shared→Prop} {s:Shared}
theorem newL (v:Value) {Q1:Value→Shared→Prop} (h:Q1 (.ref s.heap.objs.size) { s with heap:=s.heap.push { cls:=.type "set",dict:=none,data:=.set #[] 0 (.fresh 0 0 (!byTx w)) } }) :
    codeAny (model P w) A (.call (.builtin "set.__new__") ⟨[.type "set",v],[]⟩) (wants Q1 E) s:=by
  refine codeAny_of_tree ?_
  show wpAny _ A.in1 (do checkBuiltinCall "set.__new__" ⟨[.type "set",v],[]⟩; again (.builtin "set.__new__" ⟨[.type "set",v],[]⟩)) _ _ s
  refine wpAny_bind (wpAny_of_eq (F.newCall_set_1 v) (wpAny_pure ⟨plainId_quiet F.plain_set_new _,?_⟩))
  refine codeAny_builtin F.entry_set_new ?_
  rw [Around.under_plainId F.plain_set_new _]
  unfold Builtin.«set.__new__» Builtin.Frozenset.newClass
  have hsub:=sub_set_self
  obtain ⟨hp,g,d,tk,os⟩:=s
  dsimp only
  wp_walk
  refine wpAny_askSetting ?_
  refine wpAny_pure ?_
  dsimp only
  simp only [newObj]
  refine wpAny_bind (wpAny_alloc ?_)
  exact wpAny_pure (wpAny_pure h)
theorem SetL.new {h:Heap} {a:Addr} (g:h.get? a=some { cls:=.type "set",dict:=none,data:=.set #[] 0 (.fresh 0 0 (!byTx w)) }):SetL P w h a []:=by
  refine ⟨_,#[],0,_,g,⟨rfl,rfl,rfl⟩,rfl,fun e he=>by simp at he,⟨[],.nil,List.Perm.refl _⟩,by decide,rfl,⟨fun i j x y _ hx=>by simp [SetTable.fresh] at hx,rfl⟩,?_⟩
  cases byTx w
  · exact .inr rfl
  · exact .inl rfl
set_option maxHeartbeats 6400000 in
theorem yks {l:Addr} {its:Array Value} {ns:List Int} {Q:Value→Shared→Prop} (hh:A.handled=none) (hl:s.heap.IsList l its) (hi:IntsAre its.toList ns) (hb:its.size + 1 < scanBound)
    (k:∀ (h':Heap) (tk:Nat),SetL P w h' s.heap.objs.size (ya5 (fun i=>ns.getD i 0) its.size)→(∀ b o,b < s.heap.objs.size→s.heap.get? b=some o→h'.get? b=some o)→Q (.ref s.heap.objs.size) { s with heap:=h',toks:=tk }) :
    wpAny (model P w) A (call (.type "set") [.ref l]) Q E s:=by
  obtain ⟨c0,tl0,c1⟩:=F.called_set.mro
  have c2:=F.called_set.made
  have c3:=F.called_set.sub
  refine wpAny_call (codeAny_of_tree ?_)
  show wpAny _ _ (callAny (.type "set") _) _ _ s
  refine wpAny_pure ⟨?_,?_⟩
  · exact Code.quiet_builtin _ (by decide +kernel)
  refine codeAny_builtin F.entry_type_call ?_
  rw [Around.under_plain (weight_type_call_type "set" [.ref l] []) rfl]
  have c4:=F.called_set.notType
  have c5:=F.called_set.canCreate
  have c6:=F.typeCall_set_1 (.ref l)
  repeat (any_goals first | assumption | wp_step)
  refine codeAny_mono (newL (.ref l) (E:=E) (Q1:=fun v s1=>v=.ref s.heap.objs.size∧s1={ s with heap:=s.heap.push { cls:=.type "set",dict:=none,data:=.set #[] 0 (.fresh 0 0 (!byTx w)) } }) ⟨rfl,rfl⟩) fun r s1 hr=>?_
  cases r with
  | error e=>exact hr
  | ok fl=>
    cases fl with
    | ret v=>
      obtain ⟨rfl,rfl⟩:=hr
      have g1:(s.heap.push { cls:=.type "set",dict:=none,data:=.set #[] 0 (.fresh 0 0 (!byTx w)) }).get? s.heap.objs.size=some { cls:=.type "set",dict:=none,data:=.set #[] 0 (.fresh 0 0 (!byTx w)) }:=Heap.get?_push_size _ rfl
      have c7:Shared.TypeIs { s with heap:=s.heap.push { cls:=.type "set",dict:=none,data:=.set #[] 0 (.fresh 0 0 (!byTx w)) } } (.ref s.heap.objs.size) "set":=⟨_,g1,rfl⟩
      have c8:=F.called_set.init.lookup
      have c9:=F.called_set.init.bind (.ref s.heap.objs.size)
      repeat (any_goals first | assumption | wp_step)
      refine codeAny_mono (codeAny_call_builtin (R:=wants (fun r s2=>r=.none∧∃ h' tk,s2={ s with heap:=h',toks:=tk }∧SetL P w h' s.heap.objs.size (ya5 (fun i=>ns.getD i 0) its.size)∧
          (∀ b o,b < s.heap.objs.size→s.heap.get? b=some o→h'.get? b=some o)) E) F.called_set.init.plain F.entry_set_init (check_set_init_1 c7 ?_)) fun r2 s2 hr2=>?_
      · obtain ⟨ol,gl,cl,nl,dl⟩:=hl
        obtain ⟨qc,qd,qa,qs⟩:=ol
        simp only at cl dl
        subst cl
        subst dl
        have gl':(s.heap.push { cls:=.type "set",dict:=none,data:=.set #[] 0 (.fresh 0 0 (!byTx w)) }).get? l=some { cls:=.type "list",dict:=qd,data:=.seq its nl,slots:=qs }:=Heap.get?_push_of_some _ gl
        have d1:=F.sub_list_set
        have d2:=F.sub_list_frozenset
        have d3:(Value.type "list" == Value.type "dict")=false:=by decide
        have hl1:(s.heap.push { cls:=.type "set",dict:=none,data:=.set #[] 0 (.fresh 0 0 (!byTx w)) }).IsList l its:=⟨_,gl',rfl,nl,rfl⟩
        unfold Builtin.«set.__init__» noKeywords Builtin.Frozenset.updateFrom
        generalize hPI:pyIter=PI
        wp_walk
        subst hPI
        refine wpAny_pyIter_list hl1 ?_
        refine wpAny_bind (wpAny_runValue ?_)
        have lt:l < s.heap.objs.size:=Heap.lt_size gl
        have h3:A.in1.in1.in1.handled=none:=by simp [hh]
        have nI:l≠(s.heap.push { cls:=.type "set",dict:=none,data:=.set #[] 0 (.fresh 0 0 (!byTx w)) }).objs.size:=by
          rw [Heap.size_push]; exact Nat.ne_of_lt (Nat.lt_succ_of_lt lt)
        have nf:s.heap.objs.size∉[(s.heap.push { cls:=.type "set",dict:=none,data:=.set #[] 0 (.fresh 0 0 (!byTx w)) }).objs.size,l]:=by
          rw [Heap.size_push]; simp only [List.mem_cons,List.mem_singleton,List.not_mem_nil,or_false,not_or]
          exact ⟨Nat.ne_of_lt (Nat.lt_succ_self _),Nat.ne_of_gt lt⟩
        have hv:∀ (i:Nat) (v:Value),its[i]?=some v→∃ t,v=.int ((fun i=>ns.getD i 0) i) t:=fun i v z=>PyProof.Rows.IntsAre.int_at hi i v (by rw [Array.getElem?_toList]; exact z)
        refine loopL ((Walks.list h3 _ l nI its).toS) s.heap.objs.size nf (fun i=>ns.getD i 0) hv hb (its.size - 0) 0 _ (by omega) (Nat.zero_le _) ⟨⟨_,Heap.get?_push_size _ rfl,rfl,rfl⟩,(hl1.push _)⟩ ?S0 ?R0
        case S0=>exact SetL.new (Heap.get?_push_of_some _ g1)
        case R0=>
          intro s' m S'
          obtain ⟨h',g',d',tk',os'⟩:=s'
          have eg:g'=s.gens:=m.gens
          have ed:d'=s.drawn:=m.drawn
          have eo:os'=s.os:=m.os
          subst eg
          subst ed
          subst eo
          show wpAny _ _ _ _ _ _
          refine wpAny_pure ?_
          show wpAny _ _ (ret Value.none) _ _ _
          refine wpAny_pure ⟨rfl,h',tk',rfl,S',fun b o lb g=>?_⟩
          have b1:b≠s.heap.objs.size:=Nat.ne_of_lt lb
          have b2:b≠(s.heap.push { cls:=.type "set",dict:=none,data:=.set #[] 0 (.fresh 0 0 (!byTx w)) }).objs.size:=by
            rw [Heap.size_push]; exact Nat.ne_of_lt (Nat.lt_succ_of_lt lb)
          exact m.heap b o (by simp only [List.mem_cons,List.mem_singleton,List.not_mem_nil,or_false,not_or]; exact ⟨b1,b2⟩) (Heap.get?_push_of_some _ (Heap.get?_push_of_some _ g))
      · cases r2 with
        | error e=>exact hr2
        | ok fl2=>
          cases fl2 with
          | ret r=>
            obtain ⟨rfl,h',tk,rfl,S',kp⟩:=hr2
            repeat (any_goals first | assumption | wp_step)
            exact k _ _ S' kp
          | _=>exact hr2.elim
    | _=>exact hr.elim
end
end L2
set_option Elab.async false
set_option linter.all false
set_option maxRecDepth 100000
namespace L2
open PySem PySem.Spec PyProof.Rows
theorem yas:Slot "set_iterator" "__next__" "set_iterator.__next__":=
  .of (owner:="set_iterator") (n:="__next__") (by rw [typeLookup_type,builtinLookup_eq_fast]; kernel_rfl) (by decide +kernel) (by decide +kernel) (by decide +kernel) (by first | exact .inl (by decide +kernel) | exact .inr (by decide +kernel)) (by rw [isSubtype_type]; kernel_rfl)
theorem qbp:entryFor table "set_iterator.__next__" = some Builtin.«set_iterator.__next__»:=entryFor_of_tree (by kernel_rfl)
theorem qbx (v:Value):argsOk "set_iterator.__next__" ⟨[v],[]⟩:=by unfold argsOk; kernel_rfl
theorem yft:entryFor table "set.__iter__" = some Builtin.«frozenset.__iter__»:=
  entryFor_alias (id':="frozenset.__iter__") (by kernel_rfl) (by first | rfl | decide +kernel | (unfold String.splitOn; simp +decide [String.splitOnAux])) (by decide +kernel) (by kernel_rfl)
end L2
set_option Elab.async false
set_option linter.all false
set_option maxRecDepth 100000
namespace L2
open PySem PySem.Spec PyProof.Rows
theorem qf8 {M:Model} {A:Around} {E:Value→Shared→Prop} {s:Shared} {n:Nat} {Q:Nat→Shared→Prop} (hn:n≠0) (h:∀ i d,i < n→Q i { s with drawn:=d }):wpAny M A (choose .order n) Q E s:=
  fun Γ p hΓ=>⟨hn,h _ _ (Nat.mod_lt _ (Nat.pos_of_ne_zero hn))⟩
theorem yej {α:Type}:∀ (xs:List α) (i:Nat) (x:α),xs[i]?=some x→(x :: xs.eraseIdx i).Perm xs
  | [],i,x,h=>by simp at h
  | a :: xs,0,x,h=>by
    have e:a=x:=by simpa using h
    subst e
    exact List.Perm.refl _
  | a :: xs,i + 1,x,h=>by
    have ih:=yej xs i x (by simpa using h)
    show (x :: a :: xs.eraseIdx i).Perm (a :: xs)
    exact (List.Perm.swap a x _).trans (ih.cons a)
theorem qev {α:Type} {M:Model} {A:Around} {E:Value→Shared→Prop}:∀ (n:Nat) (xs:List α) (s:Shared) (Q:List α→Shared→Prop),xs.length=n→(∀ ys d,ys.Perm xs→Q ys { s with drawn:=d })→wpAny M A (drawOrder n xs) Q E s
  | 0,xs,s,Q,hl,h=>by
    unfold drawOrder
    have e:xs=[]:=List.length_eq_zero_iff.mp hl
    subst e
    exact wpAny_pure (h [] s.drawn (List.Perm.refl _))
  | n + 1,[],s,Q,hl,h=>by simp at hl
  | n + 1,x :: xs,s,Q,hl,h=>by
    unfold drawOrder
    refine wpAny_bind (qf8 (by simp) fun i d hi=>?_)
    have hg:(x :: xs)[i]?=some (x :: xs)[i]:=List.getElem?_eq_getElem hi
    rw [hg]
    dsimp only
    refine wpAny_bind (qev n _ _ _ (by rw [List.length_eraseIdx]; simp only [if_pos hi]; omega) fun ys d' hp=>?_)
    exact wpAny_pure (h _ d' ((hp.cons _).trans (yej _ i _ hg)))
theorem qjs {α:Type} (f:Nat→Nat):∀ (n k:Nat) (xs:List α) (out:Array α),xs.length=n→∃ ys:List α,ys.Perm xs∧(pickOrder.go f n k xs out).toList=out.toList++ys
  | 0,k,xs,out,hl=>⟨[],by rw [List.length_eq_zero_iff.mp hl],by unfold pickOrder.go; simp⟩
  | n + 1,k,xs,out,hl=>by
    have hlt:f k % xs.length < xs.length:=Nat.mod_lt _ (by omega)
    have hg:xs[f k % xs.length]?=some xs[f k % xs.length]:=List.getElem?_eq_getElem hlt
    unfold pickOrder.go
    rw [hg]
    dsimp only
    obtain ⟨ys,hp,e⟩:=qjs f n (k + 1) (xs.eraseIdx (f k % xs.length)) (out.push xs[f k % xs.length]) (by rw [List.length_eraseIdx,if_pos hlt]; omega)
    refine ⟨xs[f k % xs.length] :: ys,(hp.cons _).trans (yej _ _ _ hg),?_⟩
    rw [e]
    simp
theorem qfv {α:Type} (f:Nat→Nat) (xs:Array α):(pickOrder f xs).toList.Perm xs.toList:=by
  obtain ⟨ys,hp,e⟩:=qjs f xs.size 0 xs.toList #[] (by simp)
  unfold pickOrder
  rw [e]
  simpa using hp
section
variable {P:Program} {w:World} {A:Around} {E:Value→Shared→Prop} {s:Shared} {a:Addr} {o:Obj} {es:Array (Int×Value)} {ep:Nat} {t:SetTable}
theorem yjp {Q:Option (Value×Nat)→Shared→Prop} {slot i:Nat} (hb:byTx w=true) (g:s.heap.get? a=some o) (gd:o.data=.set es ep t) (hf:t.fits es.size=true)
    (h:Q (((pickOrder (w.params.setOrder a ep) es).toList.map (·.2))[i]?.map fun v=>(v,slot)) s):wpAny (model P w) A (setNext a slot i ep) Q E s:=by
  unfold setNext
  refine wpAny_bind (wpAny_setState_of g gd hf ?_)
  dsimp only
  unfold setsByText
  refine wpAny_bind (wpAny_bind (wpAny_askSetting (wpAny_pure ?_)))
  have hb':w.params.followText "set-order" = true:=hb
  show wpAny _ _ (if w.params.followText "set-order" = true then _ else _) _ _ _
  rw [if_pos hb',if_neg (by simp)]
  unfold setWalk
  refine wpAny_bind (wpAny_bind (wpAny_setState_of g gd hf ?_))
  dsimp only
  unfold setsByText
  refine wpAny_bind (wpAny_bind (wpAny_askSetting (wpAny_pure ?_)))
  show wpAny _ _ (if w.params.followText "set-order" = true then _ else _) _ _ _
  rw [if_pos hb']
  refine wpAny_bind (wpAny_askSetting (wpAny_pure ?_))
  refine wpAny_pure ?_
  rw [List.getElem?_map,Array.getElem?_toList,Option.map_map] at h
  exact h
theorem next_led {Q:Option (Value×Nat)→Shared→Prop} {slot i:Nat} (hb:byTx w=false) (g:s.heap.get? a=some o) (gd:o.data=.set es ep t) (hf:t.fits es.size=true) (hl:t.led=true) (hp:t.plain=true∨es.size≤1)
    (h:Q (match es[SetTable.below t.place slot]?,t.place[SetTable.below t.place slot]? with | some (_,x),some j=>some (x,j + 1) | _,_=>none) s):wpAny (model P w) A (setNext a slot i ep) Q E s:=by
  unfold setNext
  refine wpAny_bind (wpAny_setState_of g gd hf ?_)
  dsimp only
  unfold setsByText
  refine wpAny_bind (wpAny_bind (wpAny_askSetting (wpAny_pure ?_)))
  have hb':w.params.followText "set-order" = false:=hb
  show wpAny _ _ (if w.params.followText "set-order" = true then _ else _) _ _ _
  rw [if_neg (by rw [hb']; exact Bool.false_ne_true)]
  refine wpAny_ite_split (fun hd=>?_) fun _=>?_
  · exfalso
    have hd':(!t.plain && decide (es.size > 1))=true:=hd
    rw [Bool.and_eq_true,decide_eq_true_eq] at hd'
    rcases hp with hp | hp
    · rw [hp] at hd'; exact absurd hd'.1 (by decide)
    · omega
  · refine wpAny_bind ?_
    refine wpAny_ite_split (fun hd=>?_) fun _=>?_
    · exfalso
      have hd':(!t.led && !es.isEmpty)=true:=hd
      rw [hl] at hd'
      exact absurd hd' (by simp)
    · exact wpAny_pure (wpAny_pure h)
end
end L2
set_option Elab.async false
set_option linter.all false
set_option maxRecDepth 100000
namespace L2
open PySem PySem.Spec PyProof.Rows
theorem qdn:Slot "set_iterator" "__iter__" "set_iterator.__iter__":=
  .of (owner:="set_iterator") (n:="__iter__") (by rw [typeLookup_type,builtinLookup_eq_fast]; kernel_rfl) (by decide +kernel) (by decide +kernel) (by decide +kernel) (by first | exact .inl (by decide +kernel) | exact .inr (by decide +kernel)) (by rw [isSubtype_type]; kernel_rfl)
theorem yex:entryFor table "set_iterator.__iter__" = some Builtin.«dict_keyiterator.__iter__»:=
  entryFor_alias (id':="dict_keyiterator.__iter__") (by kernel_rfl) (by first | rfl | decide +kernel | (unfold String.splitOn; simp +decide [String.splitOnAux])) (by decide +kernel) (by kernel_rfl)
theorem qfp (v:Value):argsOk "set_iterator.__iter__" ⟨[v],[]⟩:=by unfold argsOk; kernel_rfl
def SI (h:Heap) (I:Addr) (f:Value) (i:Nat) (a:Addr) (n ep:Nat):Prop:=h.get? I=some { cls:=.type "set_iterator",dict:=none,data:=.fields #[f,rawInt i,.ref a,rawInt n,rawInt ep],slots:=#[] }
section
variable {P:Program} {w:World} {A:Around} {E:Value→Shared→Prop} {s:Shared}
theorem yhb {I:Addr} {Q:Value→Shared→Prop} (hT:s.TypeIs (.ref I) "set_iterator") (h:Q (.ref I) s):wpAny (model P w) A (pyIter (.ref I)) Q E s:=by
  refine wpAny_pyIter_slot hT qdn (wpAny_call_entry qdn hT yex ?_ (qfp _))
  show wpAny _ _ (ret (.ref I)) _ _ s
  exact wpAny_pure ⟨_,rfl,"set_iterator",_,hT,yas.lookup,h⟩
theorem qf4 {Q:Fin→Shared→Prop} (hh:A.handled=none) (h:∀ h' e,(∀ b o,s.heap.get? b=some o→h'.get? b=some o)→(∃ o,h'.get? e=some o∧o.cls=.type "StopIteration")→E (.ref e) { s with heap:=h' }) :
    wpAny (model P w) A (newExc (.type "StopIteration") [] >>= fun e=>(raiseNew e:Sem Fin)) Q E s:=by
  refine wpAny_bind ?_
  simp only [newExc,newTuple]
  refine wpAny_bind (wpAny_newObj_type ?_ (by size_fits))
  refine wpAny_bind (m:=firstArgMember _ _) ?_
  refine wpAny_of_eq (a:=Value.none) (by first | rfl | (simp only [firstArgMember]; rfl)) ?_
  refine wpAny_newObj_type ?_ (by size_fits)
  simp only [raiseNew]
  refine wpAny_bind (wpAny_handled ?_)
  rw [hh]
  refine wpAny_bind (wpAny_pure (wpAny_throw ?_))
  exact h _ _ (fun b o g=>Heap.get?_push_of_some _ (Heap.get?_push_of_some _ g)) ⟨_,Heap.get?_push_size _ rfl,rfl⟩
theorem ye1 {h':Heap} {I:Addr} (k:∀ b o,b≠I→s.heap.get? b=some o→h'.get? b=some o):Moved [I] (fun x y=>y=x) s { s with heap:=h' }:=
  ⟨fun b o hb g=>k b o (fun z=>hb (by rw [z]; exact List.mem_singleton.mpr rfl)) g,rfl,rfl,rfl,Nat.le_refl _⟩
theorem qjl (hh:A.handled=none) {I a:Addr} {o:Obj} {es:Array (Int×Value)} {ep:Nat} {t:SetTable} (nI:a≠I) (gd:o.data=.set es ep t) (hf:t.fits es.size=true) (F:Nat→Nat) (vs:List Value) (hvs:vs.length=es.size)
    (hn:∀ (B:Around) (D:Value→Shared→Prop) (s:Shared) (i:Nat) (Q:Option (Value×Nat)→Shared→Prop),s.heap.get? a=some o→i≤es.size→Q (vs[i]?.map fun v=>(v,F (i + 1))) s→wpAny (model P w) B (setNext a (F i) i ep) Q D s) :
    WalksS P w A I [I,a] [I] (fun x y=>y=x) es.size (fun i v=>vs[i]?=some v) (fun i s=>SI s.heap I (rawInt (F i)) i a es.size ep∧s.heap.get? a=some o) where
  sub:=fun b hb=>by rw [List.mem_singleton] at hb; rw [hb]; exact List.mem_cons_self ..
  grefl:=fun _=>rfl
  gtrans:=fun _ _ _ h1 h2=>h2.trans h1
  frame:=fun i s h' tk st _ k=>⟨k I (by simp) _ st.1,k a (by simp) _ st.2⟩
  item:=fun i s Q E hi st hQ=>by
    obtain ⟨gI,ga⟩:=st
    have hT:s.TypeIs (.ref I) "set_iterator":=⟨_,gI,rfl⟩
    have hv:vs[i]?=some vs[i]:=List.getElem?_eq_getElem (by omega)
    unfold pyNext
    refine wpAny_bind (wpAny_attempt (wpAny_callSpecial?_slot (name:=Str.ofString "__next__") hT yas (wpAny_call_entry yas hT qbp ?_ (qbx _))))
    show wpAny _ _ (fieldsOf (.ref I) >>= _) _ _ s
    refine wpAny_bind (wpAny_fieldsOf gI rfl ?_)
    show wpAny _ _ (setEntries a >>= _) _ _ s
    refine wpAny_bind (wpAny_setEntries_of ga gd hf ?_)
    rw [if_neg (by simp)]
    show wpAny _ _ (setNext a (F i) i ep >>= _) _ _ s
    refine wpAny_bind (hn _ _ s i _ ga (by omega) ?_)
    rw [hv]
    show wpAny _ _ (setField (.ref I) 0 (rawInt (F (i + 1))) >>= _) _ _ s
    refine wpAny_bind (wpAny_setField_rec gI (by simp) fun m1 g1 e1=>?_)
    refine wpAny_bind (wpAny_setField_rec g1 (by simp) fun m2 g2 e2=>?_)
    refine wpAny_pure ⟨_,rfl,wpAny_pure (hQ _ _ hv ⟨?_,?_⟩ (ye1 fun b ob hb g=>(e2.extBut _ _ hb (e1.extBut _ _ hb g))))⟩
    · exact g2
    · exact e2.extBut _ _ nI (e1.extBut _ _ nI ga)
  done:=fun s Q E st hQ=>by
    obtain ⟨gI,ga⟩:=st
    have hT:s.TypeIs (.ref I) "set_iterator":=⟨_,gI,rfl⟩
    have hv:vs[es.size]?=none:=List.getElem?_eq_none (by omega)
    unfold pyNext
    refine wpAny_bind (wpAny_attempt (wpAny_callSpecial?_slot (name:=Str.ofString "__next__") hT yas (wpAny_call_entry yas hT qbp ?_ (qbx _))))
    show wpAny _ _ (fieldsOf (.ref I) >>= _) _ _ s
    refine wpAny_bind (wpAny_fieldsOf gI rfl ?_)
    show wpAny _ _ (setEntries a >>= _) _ _ s
    refine wpAny_bind (wpAny_setEntries_of ga gd hf ?_)
    rw [if_neg (by simp)]
    show wpAny _ _ (setNext a (F es.size) es.size ep >>= _) _ _ s
    refine wpAny_bind (hn _ _ s es.size _ ga (Nat.le_refl _) ?_)
    rw [hv]
    show wpAny _ _ (setField (.ref I) 2 Value.none >>= _) _ _ s
    refine wpAny_bind (wpAny_setField_rec gI (by simp) fun m1 g1 e1=>?_)
    refine qf4 (by first | exact hh | simpa using hh) fun m2 e kp he=>?_
    obtain ⟨ob,go,gc⟩:=he
    refine wpAny_bind (wpAny_isInstance (T:="StopIteration") (b:=true) ⟨ob,go,gc⟩ isSubtype_stop ?_)
    exact wpAny_pure (hQ _ (ye1 fun b ob hb g=>kp b ob (e1.extBut _ _ hb g)))
  self:=fun i s Q E st hQ=>by
    obtain ⟨gI,ga⟩:=st
    exact yhb ⟨_,gI,rfl⟩ hQ
theorem qjt (hh:A.handled=none) {I a T:Addr} {o:Obj} {es:Array (Int×Value)} {ep:Nat} {t:SetTable} (nI:a≠I) (nT:T≠I) (gd:o.data=.set es ep t) (hf:t.fits es.size=true) (ps:List Nat) (hps:ps.length=es.size) (hlt:∀ p∈ps,p < es.size) (vs:List Value) (hvs:vs=ps.map fun p=>(es.getD p (0,.none)).2) :
    WalksS P w A I [I,a,T] [I] (fun x y=>y=x) es.size (fun i v=>vs[i]?=some v) (fun i s=>SI s.heap I (.ref T) i a es.size ep∧s.heap.get? a=some o∧s.heap.get? T=some { cls:=.type "tuple",data:=.seq (ps.map fun (p:Nat)=>rawInt p).toArray }) where
  sub:=fun b hb=>by rw [List.mem_singleton] at hb; rw [hb]; exact List.mem_cons_self ..
  grefl:=fun _=>rfl
  gtrans:=fun _ _ _ h1 h2=>h2.trans h1
  frame:=fun i s h' tk st _ k=>⟨k I (by simp) _ st.1,k a (by simp) _ st.2.1,k T (by simp) _ st.2.2⟩
  item:=fun i s Q E hi st hQ=>by
    obtain ⟨gI,ga,gT⟩:=st
    have hT:s.TypeIs (.ref I) "set_iterator":=⟨_,gI,rfl⟩
    have hp:ps[i]?=some ps[i]:=List.getElem?_eq_getElem (by omega)
    have hpl:ps[i] < es.size:=hlt _ (List.getElem_mem _)
    have he:es[ps[i]]?=some es[ps[i]]:=Array.getElem?_eq_getElem hpl
    have hv:vs[i]?=some (es[ps[i]]).2:=by
      rw [hvs,List.getElem?_map,hp,Option.map_some,Array.getD_eq_getD_getElem?,he]
      rfl
    have hpi:(ps.map fun (p:Nat)=>rawInt p).toArray[i]?=some (rawInt ps[i]):=by
      rw [List.getElem?_toArray,List.getElem?_map,hp]; rfl
    unfold pyNext
    refine wpAny_bind (wpAny_attempt (wpAny_callSpecial?_slot (name:=Str.ofString "__next__") hT yas (wpAny_call_entry yas hT qbp ?_ (qbx _))))
    show wpAny _ _ (fieldsOf (.ref I) >>= _) _ _ s
    refine wpAny_bind (wpAny_fieldsOf gI rfl ?_)
    show wpAny _ _ (setEntries a >>= _) _ _ s
    refine wpAny_bind (wpAny_setEntries_of ga gd hf ?_)
    rw [if_neg (by simp)]
    show wpAny _ _ (seqItems? (.ref T) >>= _) _ _ s
    refine wpAny_bind (wpAny_seqItems gT rfl ?_)
    dsimp only
    rw [show ((i:Int)).toNat=i from rfl,hpi]
    show wpAny _ _ (setNextDrawn a ps[i] ep >>= _) _ _ s
    unfold setNextDrawn
    refine wpAny_bind (wpAny_bind (wpAny_setState_of ga gd hf ?_))
    dsimp only
    rw [if_neg (by simp),he]
    refine wpAny_pure ?_
    show wpAny _ _ (setField (.ref I) 1 (rawInt (i + 1)) >>= _) _ _ s
    refine wpAny_bind (wpAny_setField_rec gI (by simp) fun m1 g1 e1=>?_)
    refine wpAny_pure ⟨_,rfl,wpAny_pure (hQ _ _ hv ⟨?_,?_,?_⟩ (ye1 fun b ob hb g=>e1.extBut _ _ hb g))⟩
    · exact g1
    · exact e1.extBut _ _ nI ga
    · exact e1.extBut _ _ nT gT
  done:=fun s Q E st hQ=>by
    obtain ⟨gI,ga,gT⟩:=st
    have hT:s.TypeIs (.ref I) "set_iterator":=⟨_,gI,rfl⟩
    have hpi:(ps.map fun (p:Nat)=>rawInt p).toArray[es.size]?=none:=by
      rw [List.getElem?_toArray]; exact List.getElem?_eq_none (by rw [List.length_map]; omega)
    unfold pyNext
    refine wpAny_bind (wpAny_attempt (wpAny_callSpecial?_slot (name:=Str.ofString "__next__") hT yas (wpAny_call_entry yas hT qbp ?_ (qbx _))))
    show wpAny _ _ (fieldsOf (.ref I) >>= _) _ _ s
    refine wpAny_bind (wpAny_fieldsOf gI rfl ?_)
    show wpAny _ _ (setEntries a >>= _) _ _ s
    refine wpAny_bind (wpAny_setEntries_of ga gd hf ?_)
    rw [if_neg (by simp)]
    show wpAny _ _ (seqItems? (.ref T) >>= _) _ _ s
    refine wpAny_bind (wpAny_seqItems gT rfl ?_)
    dsimp only
    rw [show ((es.size:Int)).toNat=es.size from rfl,hpi]
    show wpAny _ _ (setField (.ref I) 0 (rawInt 0) >>= _) _ _ s
    refine wpAny_bind (wpAny_setField_rec gI (by simp) fun m0 g0 e0=>?_)
    refine wpAny_bind (wpAny_setField_rec g0 (by simp) fun m1 g1 e1=>?_)
    refine qf4 (by first | exact hh | simpa using hh) fun m2 e kp he=>?_
    obtain ⟨ob,go,gc⟩:=he
    refine wpAny_bind (wpAny_isInstance (T:="StopIteration") (b:=true) ⟨ob,go,gc⟩ isSubtype_stop ?_)
    exact wpAny_pure (hQ _ (ye1 fun b ob hb g=>kp b ob (e1.extBut _ _ hb (e0.extBut _ _ hb g))))
  self:=fun i s Q E st hQ=>by
    obtain ⟨gI,ga,gT⟩:=st
    exact yhb ⟨_,gI,rfl⟩ hQ
end
end L2
set_option Elab.async false
set_option linter.all false
set_option maxRecDepth 100000
namespace L2
open PySem PySem.Spec PyProof.Rows
theorem yko {t:SetTable} {n:Nat} (h:t.fits n=true):t.place.size=n:=by
  unfold SetTable.fits at h
  rw [Bool.and_eq_true,beq_iff_eq] at h
  exact h.1
def qin (t:SetTable) (i:Nat):Nat:=if i=0 then 0 else t.place.getD (i - 1) 0 + 1
theorem qg8 {t:SetTable} (hs:Srt t.place) {i:Nat} (hi:i≤t.place.size):SetTable.below t.place (qin t i)=i:=by
  by_cases h0:i=0
  · subst h0
    exact yil hs (Nat.zero_le _) (fun k x hk=>absurd hk (Nat.not_lt_zero _)) fun k x _ _=>Nat.zero_le _
  · have hlt:i - 1 < t.place.size:=by omega
    have hg:t.place[i - 1]?=some (t.place.getD (i - 1) 0):=by
      rw [Array.getD_eq_getD_getElem?,Array.getElem?_eq_getElem hlt]; rfl
    have e:qin t i=t.place.getD (i - 1) 0 + 1:=by unfold qin; rw [if_neg h0]
    rw [e]
    refine yil hs hi (fun k x hk hx=>?_) fun k x hk hx=>?_
    · by_cases hk2:k=i - 1
      · subst hk2; rw [hg] at hx; cases hx; omega
      · have:=hs k (i - 1) x _ (by omega) hx hg; omega
    · have:=hs (i - 1) k _ x (by omega) hg hx; omega
section
variable {P:Program} {w:World} {A:Around} {E:Value→Shared→Prop} {s:Shared} {a:Addr} {ks:List Int}
def WalkOf (P:Program) (w:World) (s:Shared) (a:Addr) (ks:List Int) (I:Addr) (h':Heap) (d:Drawn):Prop:=
  ∃ (n:Nat) (fp:List Addr) (vs:List Value) (ns:List Int) (St:Nat→Shared→Prop),n=ks.length∧(∀ B:Around,B.handled=none→WalksS P w B I fp [I] (fun x y=>y=x) n (fun i v=>vs[i]?=some v) St)∧St 0 { s with heap:=h',drawn:=d }∧
    s.heap.objs.size≤I∧(∀ b∈fp,b=a∨s.heap.objs.size≤b)∧(∀ b o,s.heap.get? b=some o→h'.get? b=some o)∧IntsAre vs ns∧ns.Perm ks
theorem iterL {Q:Value→Shared→Prop} (hS:SetL P w s.heap a ks) (k:∀ I h' d,WalkOf P w s a ks I h' d→Q (.ref I) { s with heap:=h',drawn:=d }):wpAny (model P w) A (pyIter (.ref a)) Q E s:=by
  obtain ⟨o,es,ep,t,g,gx,gd,el,⟨ns,hi,hp⟩,hb,hf,ht,hl⟩:=hS
  have hT:s.TypeIs (.ref a) "set":=⟨o,g,gx.1⟩
  have hlen:es.size=ks.length:=by
    have h1:=IntsAre.length hi
    rw [List.length_map,Array.length_toList] at h1
    rw [h1,hp.length_eq]
  have hpl:t.place.size=es.size:=yko hf
  have ha:a < s.heap.objs.size:=Heap.lt_size g
  refine wpAny_pyIter_slot hT F.slot_set_iter (wpAny_call_entry F.slot_set_iter hT yft ?_ (F.args_set_iter_1 _))
  show wpAny _ _ (Builtin.Frozenset.sizeOf a >>= _) _ _ s
  refine wpAny_bind ?_
  unfold Builtin.Frozenset.sizeOf
  refine wpAny_bind (wpAny_setEntries_of g gd hf ?_)
  refine wpAny_pure ?_
  refine wpAny_bind ?_
  refine wpAny_bind ?_
  refine wpAny_setState_of g gd hf ?_
  dsimp only
  unfold setsByText
  refine wpAny_bind (wpAny_bind (wpAny_askSetting (wpAny_pure ?_)))
  refine wpAny_pure ?_
  dsimp only
  refine wpAny_ite_split (fun hd=>?_) fun hd=>?_
  · refine wpAny_bind (qev es.size (List.range es.size) s _ (by simp) fun ps d pp=>?_)
    have hpsl:ps.length=es.size:=by rw [pp.length_eq,List.length_range]
    refine wpAny_bind (wpAny_newTuple ?_ (by rw [List.length_map,hpsl]; exact fits_of_scanBound hb))
    have gT:(s.heap.push { cls:=.type "tuple",data:=.seq (ps.map fun (p:Nat)=>rawInt p).toArray }).get? s.heap.objs.size=some { cls:=.type "tuple",data:=.seq (ps.map fun (p:Nat)=>rawInt p).toArray }:=Heap.get?_push_size _ rfl
    have ga:(s.heap.push { cls:=.type "tuple",data:=.seq (ps.map fun (p:Nat)=>rawInt p).toArray }).get? a=some o:=Heap.get?_push_of_some _ g
    refine wpAny_bind (wpAny_setEpoch_of (s:={ s with heap:=s.heap.push { cls:=.type "tuple",data:=.seq (ps.map fun (p:Nat)=>rawInt p).toArray },drawn:=d }) ga gd hf ?_)
    refine wpAny_bind (wpAny_newObj_type ?_ (by size_fits))
    have z1:(s.heap.push { cls:=.type "tuple",data:=.seq (ps.map fun (p:Nat)=>rawInt p).toArray }).objs.size=s.heap.objs.size + 1:=Heap.size_push ..
    have hvp:(ps.map fun p=>(es.getD p (0,.none)).2).Perm (es.toList.map (·.2)):=by
      refine (pp.map _).trans (List.Perm.of_eq ?_)
      refine List.ext_getElem (by simp) fun i h1 h2=>?_
      have hi:i < es.size:=by simpa using h2
      rw [List.getElem_map,List.getElem_map,List.getElem_range,Array.getElem_toList]
      show (es.getD i (0,.none)).2=(es[i]).2
      rw [Array.getD_eq_getD_getElem?,Array.getElem?_eq_getElem hi]
      rfl
    obtain ⟨n2,i2,p2⟩:=yd7 hvp hi
    have nI:a≠(s.heap.push { cls:=.type "tuple",data:=.seq (ps.map fun (p:Nat)=>rawInt p).toArray }).objs.size:=by rw [z1]; exact neN (.inl (Nat.lt_succ_of_lt ha))
    have nT:s.heap.objs.size≠(s.heap.push { cls:=.type "tuple",data:=.seq (ps.map fun (p:Nat)=>rawInt p).toArray }).objs.size:=by rw [z1]; exact neN (.inl (Nat.lt_succ_self _))
    refine wpAny_pure ⟨_,rfl,"set_iterator",_,⟨_,Heap.get?_push_size _ rfl,rfl⟩,yas.lookup,k _ _ d ?_⟩
    refine ⟨es.size,_,_,n2,_,hlen,fun B hB=>qjt hB nI nT gd hf ps hpsl (fun p hp=>List.mem_range.mp (pp.mem_iff.mp hp)) _ rfl,⟨Heap.get?_push_size _ rfl,Heap.get?_push_of_some _ ga,Heap.get?_push_of_some _ gT⟩,by rw [z1]; exact Nat.le_succ _,fun b hb=>?_,fun b ob gb=>Heap.get?_push_of_some _ (Heap.get?_push_of_some _ gb),i2,p2.trans hp⟩
    have hb':b=(s.heap.push { cls:=.type "tuple",data:=.seq (ps.map fun (p:Nat)=>rawInt p).toArray }).objs.size∨b=a∨b=s.heap.objs.size:=by simpa using hb
    rcases hb' with rfl | rfl | rfl
    · exact .inr (by rw [z1]; exact Nat.le_succ _)
    · exact .inl rfl
    · exact .inr (Nat.le_refl _)
  · refine wpAny_bind (wpAny_pure ?_)
    refine wpAny_bind (wpAny_setEpoch_of g gd hf ?_)
    refine wpAny_bind (wpAny_newObj_type ?_ (by size_fits))
    have nI:a≠s.heap.objs.size:=neN (.inl ha)
    have es0:s={ s with drawn:=s.drawn }:=by cases s; rfl
    have fpk:∀ b∈[s.heap.objs.size,a],b=a∨s.heap.objs.size≤b:=fun b hb=>by
      have hb':b=s.heap.objs.size∨b=a:=by simpa using hb
      rcases hb' with rfl | rfl
      · exact .inr (Nat.le_refl _)
      · exact .inl rfl
    refine wpAny_pure ⟨_,rfl,"set_iterator",_,⟨_,Heap.get?_push_size _ rfl,rfl⟩,yas.lookup,?_⟩
    have key:WalkOf P w s a ks s.heap.objs.size (s.heap.push { cls:=.type "set_iterator",data:=.fields #[rawInt 0,rawInt 0,.ref a,rawInt es.size,rawInt ep] }) s.drawn:=by
      by_cases hbt:byTx w=true
      · have hvp:((pickOrder (w.params.setOrder a ep) es).toList.map (·.2)).Perm (es.toList.map (·.2)):=(qfv _ es).map _
        obtain ⟨n2,i2,p2⟩:=yd7 hvp hi
        refine ⟨es.size,_,(pickOrder (w.params.setOrder a ep) es).toList.map (·.2),n2,_,hlen,fun B hB=>qjl hB nI gd hf (fun _=>0) _ (by rw [hvp.length_eq,List.length_map,Array.length_toList]) fun C D s i Q g1 hi1 q=>yjp hbt g1 gd hf q,⟨Heap.get?_push_size _ rfl,Heap.get?_push_of_some _ g⟩,Nat.le_refl _,fpk,fun b ob gb=>Heap.get?_push_of_some _ gb,i2,p2.trans hp⟩
      · have hbf:byTx w=false:=eq_false_of_ne_true hbt
        have hled:t.led=true:=hl.resolve_left hbt
        have hpz:t.plain=true∨es.size≤1:=by
          have hd':¬ ((!byTx w && (!t.plain && decide (es.size > 1)))=true):=hd
          rw [hbf] at hd'
          cases hq:t.plain with
          | true=>exact .inl rfl
          | false=>
            right
            rw [hq] at hd'
            simpa using hd'
        refine ⟨es.size,_,es.toList.map (·.2),ns,_,hlen,fun B hB=>qjl hB nI gd hf (qin t) _ (by rw [List.length_map,Array.length_toList]) fun C D s i Q g1 hi1 q=>next_led hbf g1 gd hf hled hpz ?_,⟨Heap.get?_push_size _ rfl,Heap.get?_push_of_some _ g⟩,Nat.le_refl _,fpk,fun b ob gb=>Heap.get?_push_of_some _ gb,hi,hp⟩
        rw [qg8 ht.1 (by omega)]
        by_cases hlt:i < es.size
        · have e1:es[i]?=some es[i]:=Array.getElem?_eq_getElem hlt
          have e2:t.place[i]?=some (t.place.getD i 0):=by
            rw [Array.getD_eq_getD_getElem?,Array.getElem?_eq_getElem (by omega)]; rfl
          rw [List.getElem?_map,Array.getElem?_toList,e1] at q
          rw [e1,e2]
          exact q
        · have e1:es[i]?=none:=Array.getElem?_eq_none (by omega)
          rw [List.getElem?_map,Array.getElem?_toList,e1] at q
          rw [e1]
          exact q
    have z:=k _ _ _ key
    exact z
end
end L2
set_option Elab.async false
set_option linter.all false
set_option maxRecDepth 100000
namespace L2
open PySem PySem.Spec PyProof.Rows
theorem len_set:typeLookup (.type "set") "__len__" = pure (some (.builtin "set.__len__")):=by rw [typeLookup_type,builtinLookup_eq_fast]; kernel_rfl
section
variable {P:Program} {w:World} {A:Around} {E:Value→Shared→Prop} {s:Shared} {a:Addr} {ks:List Int}
theorem collectL {Q:List Value→Shared→Prop} (hh:A.handled=none) (hS:SetL P w s.heap a ks) (hz:ks.length≤4000)
    (k:∀ vs ns h' d tk,IntsAre vs ns→ns.Perm ks→s.heap.objs.size < h'.objs.size→(∀ b o,s.heap.get? b=some o→h'.get? b=some o)→Q vs { s with heap:=h',drawn:=d,toks:=tk }):wpAny (model P w) A (collect (.ref a)) Q E s:=by
  have hT:s.TypeIs (.ref a) "set":=by
    obtain ⟨o,es,ep,t,g,gx,_⟩:=hS
    exact ⟨o,g,gx.1⟩
  have ha:a < s.heap.objs.size:=by
    obtain ⟨o,es,ep,t,g,gx,_⟩:=hS
    exact Heap.lt_size g
  unfold collect
  refine wpAny_bind (wpAny_runValue (codeAny_builtin F.entry_proto_collect ?_))
  rw [Around.under_plainId F.plain_proto_collect _]
  show wpAny _ A.in1 (newList [] >>= fun l=>again (.builtin "list.__iadd__" ⟨[l,.ref a],[]⟩)) _ _ s
  refine wpAny_bind (wpAny_newObj_type ?_)
  refine wpAny_pure ⟨plainId_quiet F.plain_list_iadd _,?_⟩
  refine codeAny_builtin F.entry_list_iadd ?_
  rw [Around.under_plainId F.plain_list_iadd _]
  show wpAny _ A.in1 (Builtin.List.listExtendWith (.ref s.heap.objs.size) (.ref a) (.ref s.heap.objs.size)) _ _ _
  generalize hH:s.heap.push { cls:=.type "list",data:=.seq ([]:List Value).toArray }=H1
  have g0:H1.get? s.heap.objs.size=some { cls:=.type "list",data:=.seq ([]:List Value).toArray }:=by rw [← hH]; exact Heap.get?_push_size _ rfl
  have z1:H1.objs.size=s.heap.objs.size + 1:=by rw [← hH]; exact Heap.size_push ..
  have kp1:∀ b o,s.heap.get? b=some o→H1.get? b=some o:=fun b o g=>by rw [← hH]; exact Heap.get?_push_of_some _ g
  have hS1:SetL P w H1 a ks:=hS.at fun o g=>kp1 a o g
  have hT1:Shared.TypeIs { s with heap:=H1 } (.ref a) "set":=by
    obtain ⟨o,es,ep,t,g,gx,_⟩:=hS1
    exact ⟨o,g,gx.1⟩
  unfold Builtin.List.listExtendWith
  refine wpAny_bind (wpAny_typeOf hT1 ?_)
  have n1:Builtin.List.listSameRef (.ref s.heap.objs.size) (.ref a)=false:=by
    have:s.heap.objs.size≠a:=neN (.inr ha)
    simp [Builtin.List.listSameRef,this]
  rw [if_neg (by rw [n1]; decide)]
  refine wpAny_bind (iterL (s:={ s with heap:=H1 }) hS1 fun I h' d W=>?_)
  refine wpAny_bind (wpAny_holding ?_)
  have hT2:Shared.TypeIs { s with heap:=h',drawn:=d } (.ref a) "set":=by
    obtain ⟨n,fp,vs,ns,St,e,W1,st,lI,fpk,kp,i2,p2⟩:=W
    obtain ⟨o,g,c⟩:=hT1
    exact ⟨o,kp _ _ g,c⟩
  unfold Builtin.List.listLengthHint
  refine wpAny_bind (wpAny_specialOf hT2 len_set ?_)
  wp_delta
  refine wpAny_bind (wpAny_isInstance (T:="set") (b:=true) hT2 (by rw [isSubtype_type]; kernel_rfl) ?_)
  show wpAny _ A.in1 (typeOf (Value.ref a) >>= _) _ _ _
  refine wpAny_bind (wpAny_typeOf hT2 ?_)
  refine wpAny_pure ?_
  rw [if_pos (by decide)]
  refine wpAny_bind (wpAny_rule ?_)
  obtain ⟨n,fp,vs,ns,St,en,W1,st,lI,fpk,kp,i2,p2⟩:=W
  have lI':s.heap.objs.size + 1≤I:=by rw [← z1]; exact lI
  have hd:s.heap.objs.size∉fp:=fun hm=>by
    rcases fpk _ hm with z | z
    · exact absurd ha (by rw [← z]; exact Nat.lt_irrefl _)
    · have z':s.heap.objs.size + 1≤s.heap.objs.size:=by rw [← z1]; exact z
      exact absurd z' (Nat.not_succ_le_self _)
  have gS:h'.get? s.heap.objs.size=some { cls:=.type "list",data:=.seq ([]:List Value).toArray }:=kp _ _ g0
  refine wpAny_bind ?_
  show wpAny _ _ (updateSeq s.heap.objs.size (·.push .none) >>= fun _=>updateSeq s.heap.objs.size (·.pop)) _ _ _
  refine wpAny_bind (wpAny_updateSeq gS rfl ?_ (by simp) (by simp))
  have gS1:=Heap.get?_update_self (Obj.mapSeq (·.push Value.none)) gS rfl
  refine wpAny_updateSeq gS1 rfl ?_ (by simp; decide) (by simp)
  have gS2:=Heap.get?_update_self (Obj.mapSeq (·.pop)) gS1 rfl
  have oth:∀ b o,b≠s.heap.objs.size→h'.get? b=some o→((h'.update s.heap.objs.size (Obj.mapSeq (·.push Value.none))).update s.heap.objs.size (Obj.mapSeq (·.pop))).get? b=some o:=fun b o hb g=>by
    rw [Heap.get?_update_other _ _ (Ne.symm hb),Heap.get?_update_other _ _ (Ne.symm hb)]
    exact g
  have st2:=(W1 A.in1 (by simpa using hh)).frame 0 _ ((h'.update s.heap.objs.size (Obj.mapSeq (·.push Value.none))).update s.heap.objs.size (Obj.mapSeq (·.pop))) s.toks st (Nat.le_refl _) fun b hb o g=>oth b o (fun z=>hd (z ▸ hb)) g
  have hvl:n≤sizeLine:=by rw [en]; exact ykc (by omega)
  refine wpAny_pure ⟨plainId_quiet F.plain_extend_loop _,?_⟩
  refine codeAny_extend_loopS (W1 A.in1 (by simpa using hh)) hvl _ hd _ n 0 _ _ _ rfl (Nat.zero_le _) st2 gS2 ⟨rfl,fun j v z=>by simp at z⟩ fun s2 acc c m g2 it=>?_
  show wpAny _ A (load s.heap.objs.size >>= _) _ _ s2
  refine wpAny_bind (wpAny_load g2 ?_)
  have ev:acc.toList=vs:=by
    have hl:acc.size=n:=it.1
    have hvn:vs.length=n:=by
      have h1:=IntsAre.length i2
      rw [h1,p2.length_eq,en]
    refine List.ext_getElem? fun j=>?_
    cases hj:acc.toList[j]? with
    | none=>
      have:=List.getElem?_eq_none_iff.mp hj
      rw [Array.length_toList] at this
      rw [List.getElem?_eq_none (by omega)]
    | some v=>exact (it.2 j v (by rw [← Array.getElem?_toList]; exact hj)).symm
  obtain ⟨h2,g',d2,tk,os⟩:=s2
  have eg:g'=s.gens:=m.gens
  have ed:d2=d:=m.drawn
  have eo:os=s.os:=m.os
  subst eg
  subst ed
  subst eo
  refine wpAny_pure ?_
  show Q acc.toList _
  rw [ev]
  refine k vs ns h2 d2 tk i2 p2 (Heap.lt_size g2) fun b o g=>?_
  have hb:b < s.heap.objs.size:=Heap.lt_size g
  refine m.heap b o (fun z=>?_) (oth b o (neN (.inl hb)) (kp b o (kp1 b o g)))
  have z':b=s.heap.objs.size∨b=I:=by simpa using z
  rcases z' with z | z
  · exact absurd hb (by rw [z]; exact Nat.lt_irrefl _)
  · exact absurd (Nat.lt_of_lt_of_le hb (Nat.le_of_succ_le lI')) (by rw [z]; exact Nat.lt_irrefl _)
end
end L2
set_option Elab.async false
set_option linter.all false
set_option maxRecDepth 100000
namespace L2
open PySem PySem.Spec PyProof.Rows
theorem qf0 (f:Nat→Int) (k:Int):∀ n,k∈ya5 f n↔∃ i,i < n∧f i=k
  | 0=>by
    unfold ya5
    constructor
    · intro h; simp at h
    · rintro ⟨i,h,_⟩; omega
  | n + 1=>by
    have ih:=qf0 f k n
    have e:k∈ya5 f (n + 1)↔k∈ya5 f n∨k=f n:=by
      show k∈(if f n∈ya5 f n then ya5 f n else ya5 f n++[f n])↔_
      split
      · rename_i h
        exact ⟨.inl,fun z=>z.elim id fun z=>z ▸ h⟩
      · rw [List.mem_append,List.mem_singleton]
    rw [e,ih]
    constructor
    · rintro (⟨i,h,z⟩ | z)
      · exact ⟨i,by omega,z⟩
      · exact ⟨n,by omega,z.symm⟩
    · rintro ⟨i,h,z⟩
      by_cases hi:i=n
      · subst hi; exact .inr z.symm
      · exact .inl ⟨i,by omega,z⟩
theorem qes (f:Nat→Int):∀ n,(ya5 f n).Nodup
  | 0=>List.nodup_nil
  | n + 1=>by
    have ih:=qes f n
    show (if f n∈ya5 f n then ya5 f n else ya5 f n++[f n]).Nodup
    split
    · exact ih
    · rename_i h
      rw [List.nodup_append]
      exact ⟨ih,by simp,fun x hx y hy z=>h (by rw [← List.mem_singleton.mp hy,← z]; exact hx)⟩
def uniq (ns:List Int):List Int:=ya5 (fun i=>ns.getD i 0) ns.length
theorem yeb (ns:List Int) (k:Int):k∈uniq ns↔k∈ns:=by
  unfold uniq
  rw [qf0]
  constructor
  · rintro ⟨i,h,z⟩
    rw [List.getD_eq_getElem?_getD,List.getElem?_eq_getElem h] at z
    rw [← z]
    exact List.getElem_mem h
  · intro h
    obtain ⟨i,hi,e⟩:=List.getElem_of_mem h
    exact ⟨i,hi,by rw [List.getD_eq_getElem?_getD,List.getElem?_eq_getElem hi,e]; rfl⟩
theorem qf5 (ns:List Int):(uniq ns).Nodup:=qes _ _
theorem qez (ns:List Int):(uniq ns).length≤ns.length:=yep _ _
def SetO (P:Program) (w:World) (a:Addr) (ks:List Int):HO:=.ext fun h=>SetL P w h a ks
section
variable {P:Program} {w:World} {A:Around} {E:Value→Shared→Prop} {s:Shared} {a:Addr} {ks:List Int}
theorem sortedL {Q:Value→Shared→Prop} (hh:A.handled=none) (hS:SetL P w s.heap a ks) (h64:ks.length < 64)
    (k:∀ l h' d tk vs ns e,s.heap.objs.size≤l→h'.get? l=some (seqObj "list" (List.toArray vs) e)→IntsAre vs ns→ns.Perm ks→ns.Pairwise (·≤·)→(∀ b o,s.heap.get? b=some o→h'.get? b=some o)→Q (.ref l) { s with heap:=h',drawn:=d,toks:=tk }) :
    wpAny (model P w) A (call (.builtin "sorted") [.ref a]) Q E s:=by
  refine Calls.call_function_entry kind_sorted plain_sorted entry_sorted (args_sorted1 (.ref a)) ?_
  unfold Builtin.«sorted»
  refine wpAny_bind (m:=checkCount "sorted" 1 1 _) ?_
  refine wpAny_pure ?_
  refine wpAny_bind (collectL (by simpa using hh) hS (by omega) fun vs ns h1 d tk i1 p1 hz kp=>?_)
  have hvl:vs.length=ks.length:=by
    have h1:=IntsAre.length i1
    rw [h1,p1.length_eq]
  refine wpAny_bind (wpAny_newList ?_ (ykc (by omega)))
  have gL:(h1.push (seqObj "list" vs.toArray 0)).get? h1.objs.size=some (seqObj "list" vs.toArray 0):=Heap.get?_push_size _ rfl
  refine wpAny_bind (wpAny_holding (wpAny_call_entry slot_list_sort ⟨_,gL,rfl⟩ entry_list_sort (list_sort_tree gL i1 (by omega) fun out n2 a1 a2 a3=>⟨_,rfl,?_⟩) (args_list_sort _)))
  obtain ⟨ep,ge⟩:=sortedHeap_at (out:=out) gL
  refine wpAny_pure ⟨_,rfl,k _ _ d tk out.toList n2 ep (Nat.le_of_lt hz) (by simpa using ge) a1 (a2.trans p1) a3 fun b o g=>?_⟩
  have hb:b < h1.objs.size:=Heap.lt_size (kp b o g)
  rw [sortedHeap_old (Nat.ne_of_lt hb) (by rw [show (h1.push (seqObj "list" vs.toArray 0)).objs.size=h1.objs.size + 1 from Heap.size_push ..]; exact Nat.lt_succ_of_lt hb)]
  exact Heap.get?_push_of_some _ (kp b o g)
end
section
variable {X:Cx} {pins:List (Addr×Obj)} {σ:St} {H:Hp} {s:Shared}
theorem Inv.draw (I:Inv X pins σ H s) (d:Drawn):Inv X pins σ H { s with drawn:=d }:=⟨I.ok,I.os,I.bare,I.base,I.loc,I.cell,I.free,I.freeC,I.pin,I.hok,I.len⟩
def rSet (P:Program) (w:World):List V→Hp→VK→Prop:=fun xs H Q=>∃ (l:Addr) (ns:List Int),xs=[.ref l]∧H l=some (.lst (ns.map V.int))∧ns.length≤4000∧∀ p,H p=none→Q (.ref p) (upd H p (SetO P w p (uniq ns)))
theorem qb0 (hc:X.calm=true):yds X (.type "set") (rSet X.prog X.w):=by
  intro pins s σ H xs us Q I r h
  obtain ⟨l,ns,rfl,hH,h4,q⟩:=h
  cases r with
  | cons r rr=>
    cases rr
    cases r
    obtain ⟨z,its,n,rv,hl,e⟩:=I.lstM hH
    have hil:its.length=ns.length:=by rw [← hl,List.length_map]
    have hf:H s.heap.objs.size=none:=I.hok.fresh (Nat.le_refl _)
    refine yks (by simpa using I.ok.hd hc) (its:=its.toArray) (ns:=ns) ⟨_,e,rfl,n,rfl⟩ (by simpa using qiq rv) (by rw [List.size_toArray,hil]; unfold scanBound; omega) fun h' tk S kp=>?_
    have ez:its.toArray.size=ns.length:=by rw [List.size_toArray,hil]
    rw [ez] at S
    refine ⟨.ref s.heap.objs.size,_,I.laid (o:=SetO X.prog X.w s.heap.objs.size (uniq ns)) (t':=tk) (fun b o g=>kp b o (Heap.lt_size g) g) (Nat.le_refl _) ?_,rfl,q _ hf⟩
    refine ⟨S,?_,fun h1 h2 x y=>SetL.at x y⟩
    obtain ⟨o,es,ep,t,g,_⟩:=S
    exact ⟨o,g⟩
def rLenSet (P:Program) (w:World):List V→Hp→VK→Prop:=fun xs H Q=>∃ (p:Addr) (ks:List Int),xs=[.ref p]∧H p=some (SetO P w p ks)∧Q (.int ks.length) H
theorem qc8:yds X (.builtin "len") (rLenSet X.prog X.w):=by
  intro pins s σ H xs us Q I r h
  obtain ⟨p,ks,rfl,hH,q⟩:=h
  cases r with
  | cons r rr=>
    cases rr
    cases r
    obtain ⟨⟨o,es,ep,t,g,gx,gd,el,⟨ns,hi,hp⟩,hb,hf,ht,hl⟩,_⟩:=I.hok p _ hH
    have hlen:es.size=ks.length:=by
      have h1:=IntsAre.length hi
      rw [List.length_map,Array.length_toList] at h1
      rw [h1,hp.length_eq]
    refine call_len_set g gx gd hf (by unfold scanBound at hb; omega) ?_
    rw [hlen]
    exact ⟨.int ks.length,H,I.tok _,⟨_,rfl⟩,q⟩
def rSortSet (P:Program) (w:World):List V→Hp→VK→Prop:=fun xs H Q=>∃ (p:Addr) (ks:List Int),xs=[.ref p]∧H p=some (SetO P w p ks)∧ks.length < 64∧∀ (l:Addr) (ns:List Int),H l=none→ns.Perm ks→ns.Pairwise (·≤·)→Q (.ref l) (upd H l (.lst (ns.map V.int)))
theorem qcb (hc:X.calm=true):yds X (.builtin "sorted") (rSortSet X.prog X.w):=by
  intro pins s σ H xs us Q I r h
  obtain ⟨p,ks,rfl,hH,h64,q⟩:=h
  cases r with
  | cons r rr=>
    cases rr
    cases r
    obtain ⟨S,_⟩:=I.hok p _ hH
    refine sortedL (by simpa using I.ok.hd hc) S h64 fun l h' d tk vs ns e hz gl i1 p1 w1 kp=>?_
    have hf:H l=none:=I.hok.fresh hz
    refine ⟨.ref l,_,(I.draw d).laid (o:=.lst (ns.map V.int)) (t':=tk) (fun b o g=>kp b o g) hz ?_,rfl,q l ns hf p1 w1⟩
    exact ⟨ykc (by rw [List.length_map,p1.length_eq]; omega),vs,e,ygx i1,gl⟩
end
end L2
set_option Elab.async false
set_option linter.all false
set_option maxRecDepth 100000
namespace L2
open PySem PySem.Spec PyProof.Rows
theorem qbv:bootBuiltins "set" = some (.type "set"):=by decide +kernel
theorem qe4 {K:PySem.W.Frag} {t1 t2:Bool} {l1 l2:Addr} {xs ys:List V} {g:TG} {tt:TT} {te:TE} {ix:List (Option Nat)} {σ:St} {H:Hp} {QD:Hp→Prop} {D:Addr} (hlen:xs.length=ys.length) (Pv:Nat→Hp→Prop) (h0:Pv 0 (upd H D (.lst [])))
    (hl:∀ i H',Pv i H'→Sq K t1 H' l1 xs∧Sq K t2 H' l2 ys) (stop:∀ H',Pv xs.length H'→QD H')
    (step:∀ i x y p H',xs[i]?=some x→ys[i]?=some y→Pv i H'→H' p=none→g (.ref p) (capS ix σ) (upd H' p (.tup [x,y])) fun σ2 H3=>qbb (capS ix σ) σ2∧tt σ2 H3 fun b H4=>
      if b=true then te σ2 H4 fun v H5=>∃ zs,H5 D=some (.lst zs)∧zs.length < sizeLine∧Pv (i + 1) (upd H5 D (.lst (zs++[v]))) else Pv (i + 1) H4) :
    ∃ W:Nat→Nat→Hp→Prop,(∃ m,W 0 m (upd H D (.lst [])))∧∀ i m H,W i m H→
      ((Itz K t1 t2 l1 l2).stop i H∧QD H)∨((Itz K t1 t2 l1 l2).go i H∧∃ N:Hp→Prop,(∀ H',N H'→∃ m',m' < m∧W (i + 1) m' H')∧∀ x H',(Itz K t1 t2 l1 l2).yld i H x H'→g x (capS ix σ) H' fun σ2 H2=>qbb (capS ix σ) σ2∧tt σ2 H2 fun b H3=>
        if b=true then te σ2 H3 fun v H4=>∃ zs,H4 D=some (.lst zs)∧zs.length < sizeLine∧N (upd H4 D (.lst (zs++[v]))) else N H3):=by
  refine qdh (n:=xs.length) Pv h0 (fun H' p=>⟨?_,stop H' p⟩) fun i H' hi p=>⟨?_,?_⟩
  · obtain ⟨q1,q2⟩:=hl _ H' p
    exact ⟨xs,ys,q1,q2,.inl (by simp)⟩
  · obtain ⟨q1,q2⟩:=hl _ H' p
    exact ⟨xs,ys,_,_,q1,q2,List.getElem?_eq_getElem hi,List.getElem?_eq_getElem (by omega)⟩
  · rintro x H2 ⟨pp,u,v,hp,rfl,rfl,hu⟩
    obtain ⟨q1,q2⟩:=hl _ H' p
    obtain ⟨h1,h2⟩:=hu xs ys q1 q2
    exact step i u v pp H' h1 h2 p hp
end L2
set_option Elab.async false
set_option linter.all false
set_option maxRecDepth 100000
set_option Elab.async false
set_option linter.all false
set_option maxRecDepth 100000
namespace L2
open PySem PySem.Spec PyProof.Rows
def dOf:V→PyData
  | .non=>.none
  | .bl b=>.bool b
  | .int i=>.int i
  | .str s=>.str s
  | _=>.none
end L2
set_option Elab.async false
set_option linter.all false
set_option maxRecDepth 100000
set_option maxHeartbeats 1600000
namespace Mh
open PySem L2 PyProof.Rows
def top (i:Nat):Stmt:=PySem.Challenge.pw_marchmend_k53_no_mended.main.body.getD i (.Pass ⟨0,0,0,0⟩)
def b2i (b:Bool):Int:=if b then 1 else 0
theorem iteB {b:Bool} {A B:Prop} (hb:b=true) (h:A):if b=true then A else B:=by
  rw [if_pos hb]; exact h
theorem iteN {b:Bool} {A B:Prop} (hb:b=false) (h:B):if b=true then A else B:=by
  rw [if_neg (by rw [hb]; exact Bool.false_ne_true)]; exact h
theorem iteD {c:Prop} [Decidable c] {A B:Prop} (hc:c) (h:A):if decide c=true then A else B:=iteB (decide_eq_true hc) h
theorem ycv {α β:Type} {f:α→β} {l:List α} {i:Nat} {d:β} (h:(l.map f)[i]?=some d):∃ x,l[i]?=some x∧d=f x:=by
  rw [List.getElem?_map] at h
  cases e:l[i]? with
  | none=>rw [e] at h; cases h
  | some x=>rw [e] at h; exact ⟨x,rfl,(Option.some.inj h).symm⟩
structure Hm where
  w:Str
  c:List Int
  r:List V
def tabP:List (Str×List V):=[("stuck",[.str "cell",.str "bit"]),("slow",[.str "cell",.str "bit"]),("forgets",[.str "cell",.str "bit"]),("misreads",[.str "cell",.str "bit"]),("turns",[.str "cell",.str "cell",.str "bit"]),("sets",[.str "cell",.str "cell",.str "bit",.str "bit"]),
  ("keeps",[.str "cell",.str "cell",.str "bit",.str "bit"]),("nowhere",[.str "cell",.str "bit"]),("other",[.str "cell",.str "cell"]),("both",[.str "cell",.str "cell",.str "how"])]
def bitV (v:V):Prop:=∃ b,v=.int (b2i b)
def howV (v:V):Prop:=v=.str "and"∨v=.str "or"
inductive Rest:List Str→List V→Prop
  | nil:Rest [] []
  | bit {v:V} {ns:List Str} {vs:List V}:bitV v→Rest ns vs→Rest ("bit" :: ns) (v :: vs)
  | how {v:V} {ns:List Str} {vs:List V}:howV v→Rest ns vs→Rest ("how" :: ns) (v :: vs)
def yaw (n:Nat) (ns:List Str):List V:=List.replicate n (V.str "cell")++ns.map V.str
def hV (h:Hm):List V:=.str h.w :: (h.c.map V.int++h.r)
structure okH (h:Hm) (ns:List Str):Prop where
  tab:KTD.datumAt h.w tabP=some (yaw h.c.length ns)
  rest:Rest ns h.r
  cl:1≤h.c.length∧h.c.length≤2
  rl:ns.length≤2
  nd:h.c.Nodup
  rg:∀ x∈h.c,0≤x∧x < 64
theorem Rest.len {ns:List Str} {vs:List V} (h:Rest ns vs):vs.length=ns.length:=by
  induction h with
  | nil=>rfl
  | bit _ _ ih=>simp [ih]
  | how _ _ ih=>simp [ih]
theorem okH.len {h:Hm} {ns:List Str} (o:okH h ns):(h.c.map V.int++h.r).length=(yaw h.c.length ns).length:=by
  unfold yaw
  simp [o.rest.len]
section
variable {P:Program} {w:World} {K:PySem.W.Frag} {mg:Str→Option Value} {base:Heap}
def yb2:Sp:=fun vs H Q _=>∃ i,vs=[.int i]∧Q (.bl true) H
abbrev qb4:Stmt:=top 13
theorem yc1:FnScope ["thing"] ["thing"] (yab qb4):=⟨rfl,rfl,rfl,by decide +kernel,rfl,by decide +kernel,by decide +kernel⟩
theorem qh1 (B:Bl mg) (F:FnAt K mg "is_whole" qb4 ["thing"]):Has P w K mg base 1 "is_whole" ["thing"] yb2:=by
  refine Has.of F yc1 (fun vs H Q E h=>?_) (fun f cdv A outer s H vs Q E hr h=>?_)
  · obtain ⟨i,rfl,_⟩:=h
    rfl
  · obtain ⟨i,rfl,k⟩:=h
    have sc:=yc1
    refine ⟨_,(yaj (qbc (yax (yae ya8 rfl (B.of rfl) boot_isinstance (yaa (pv 0) (yaa (ybf (v:=.ty "int") rfl (B.of rfl) boot_int rfl) yac))) (qbg (pe_not (yae ya8 rfl (B.of rfl) boot_isinstance (yaa (pv 0) (yaa (ybf (v:=.ty "bool") rfl (B.of rfl) boot_bool rfl) yac)))))))),?_⟩
    refine ⟨_,rfl,_,_,_,_,rfl,.int i,rfl,_,rfl,iteT ?_⟩
    refine ⟨_,rfl,_,_,_,_,rfl,.int i,rfl,_,rfl,?_⟩
    exact k
def qfj:Sp:=fun vs H Q _=>∃ b,vs=[.int (b2i b)]∧∀ H',Same H H'→Q (.bl true) H'
abbrev yc3:Stmt:=top 14
theorem yef:FnScope ["thing"] ["thing"] (yab yc3):=⟨rfl,rfl,rfl,by decide +kernel,rfl,by decide +kernel,by decide +kernel⟩
theorem ykx (qap:Has P w K mg base 1 "is_whole" ["thing"] yb2) (F:FnAt K mg "is_bit" yc3 ["thing"]):Has P w K mg base 2 "is_bit" ["thing"] qfj:=by
  refine Has.of F yef (fun vs H Q E h=>?_) (fun f cdv A outer s H vs Q E hr h=>?_)
  · obtain ⟨i,rfl,_⟩:=h
    rfl
  · obtain ⟨b,rfl,k⟩:=h
    have sc:=yef
    refine ⟨_,(yaj (qbc (yax (qak qap hr (yaa (pv 0) yac)) (qbg (yar ybg (pv 0) (yh7 (yaa qac (yaa qac yac))) (by with_unfolding_all rfl)))))),?_⟩
    refine ⟨_,rfl,_,rfl,_,rfl,iteT ?_⟩
    refine ⟨_,rfl,(by show 2≤sizeLine; decide),fun p hp=>⟨p,_,rfl,.inr (SqT.of qab),rfl,rfl,?_⟩⟩
    cases b <;> exact k _ (Same.upd (Same.refl _) hp)
def qer (K:PySem.W.Frag):Sp:=fun vs H Q _=>∃ x a xs,vs=[.str x,.ref a]∧(∀ H',SqT K H' a xs)∧xs.all qed=true∧Q (.bl (inV (.str x) xs)) H
abbrev ybp:Stmt:=top 15
theorem qcr:FnScope ["thing","words"] ["thing","words"] (yab ybp):=⟨rfl,rfl,rfl,by decide +kernel,rfl,by decide +kernel,by decide +kernel⟩
theorem qg1 (B:Bl mg) (F:FnAt K mg "is_one_of" ybp ["thing","words"]):Has P w K mg base 1 "is_one_of" ["thing","words"] (qer K):=by
  refine Has.of F qcr (fun vs H Q E h=>?_) (fun f cdv A outer s H vs Q E hr h=>?_)
  · obtain ⟨x,a,xs,rfl,_⟩:=h
    rfl
  · obtain ⟨x,a,xs,rfl,hq,hf,k⟩:=h
    have sc:=qcr
    refine ⟨_,(yaj (qbc (yax (yae ya8 rfl (B.of rfl) boot_isinstance (yaa (pv 0) (yaa (ybf (v:=.ty "str") rfl (B.of rfl) boot_str rfl) yac))) (qbg (yar ybg (pv 0) (pv 1) (by with_unfolding_all rfl)))))),?_⟩
    refine ⟨_,rfl,_,_,_,_,rfl,.str x,rfl,_,rfl,iteT ?_⟩
    exact ⟨_,rfl,_,rfl,a,xs,rfl,.inr (hq _),rfl,hf,k⟩
def qfz:Sp:=fun vs H Q _=>∃ x,vs=[.int x]∧0≤x∧x < 64∧Q (.bl true) H
abbrev yco:Stmt:=top 22
theorem qdo:FnScope ["thing"] ["thing"] (yab yco):=⟨rfl,rfl,rfl,by decide +kernel,rfl,by decide +kernel,by decide +kernel⟩
theorem qiy (qbj:∃ t,mg "MOST_CELLS" = some (.int 64 t)) (qap:Has P w K mg base 1 "is_whole" ["thing"] yb2) (F:FnAt K mg "is_cell" yco ["thing"]):Has P w K mg base 2 "is_cell" ["thing"] qfz:=by
  refine Has.of F qdo (fun vs H Q E h=>?_) (fun f cdv A outer s H vs Q E hr h=>?_)
  · obtain ⟨x,rfl,_⟩:=h
    rfl
  · obtain ⟨x,rfl,h0,h1,k⟩:=h
    have sc:=qdo
    refine ⟨_,(yaj (qbc (yax (qak qap hr (yaa (pv 0) yac)) (yax (yar yew (pv 0) qac (yah _)) (qbg (yar qg9 (pv 0) (qcu qbj) (yah _))))))),?_⟩
    refine ⟨_,rfl,x,rfl,_,rfl,iteT ?_⟩
    refine ⟨_,rfl,_,_,rfl,rfl,_,rfl,iteD (by omega) ?_⟩
    refine ⟨_,rfl,_,_,rfl,rfl,?_⟩
    show Q (.bl (decide (x < 64))) H
    rw [decide_eq_true h1]
    exact k
def PartOk (nm:Str) (v:V):Prop:=(nm="cell"∧∃ x,v=.int x∧0≤x∧x < 64)∨(nm="bit"∧bitV v)∨(nm="how"∧howV v)
def qfy:Sp:=fun vs H Q _=>∃ nm v,vs=[.str nm,v]∧PartOk nm v∧∀ H',Same H H'→Q (.bl true) H'
abbrev qcn:Stmt:=top 23
theorem qdp:FnScope ["name","thing"] ["name","thing"] (yab qcn):=⟨rfl,rfl,rfl,by decide +kernel,rfl,by decide +kernel,by decide +kernel⟩
theorem qix (yeh:GTup K mg "JOININGS" [.str "and",.str "or"]) (ye9:Has P w K mg base 2 "is_cell" ["thing"] qfz) (ych:Has P w K mg base 2 "is_bit" ["thing"] qfj) (yd0:Has P w K mg base 1 "is_one_of" ["thing","words"] (qer K)) (F:FnAt K mg "is_part" qcn ["name","thing"]):Has P w K mg base 3 "is_part" ["name","thing"] qfy:=by
  refine Has.of F qdp (fun vs H Q E h=>?_) (fun f cdv A outer s H vs Q E hr h=>?_)
  · obtain ⟨nm,v,rfl,_⟩:=h
    rfl
  · obtain ⟨nm,v,rfl,hp,k⟩:=h
    have sc:=qdp
    refine ⟨_,(qar (ydg (qbn ycz (pv 0) yan (yah _))
        (yaj (qbc (qak ye9 hr (yaa (pv 1) yac))))
        qbr)
      (qar (ydg (qbn ycz (pv 0) yan (yah _))
        (yaj (qbc (qak ych hr (yaa (pv 1) yac))))
        qbr)
      (yaj (qbc (qak yd0 hr (yaa (pv 1) (yaa (qkz yeh) yac))))))),?_⟩
    rcases hp with ⟨rfl,x,rfl,h0,h1⟩ | ⟨rfl,b,rfl⟩ | ⟨rfl,hv⟩
    · refine ⟨_,rfl,rfl,_,rfl,iteB (by decide +kernel) ?_⟩
      exact ⟨_,rfl,x,rfl,h0,h1,k H (Same.refl H)⟩
    · refine ⟨_,rfl,rfl,_,rfl,iteN (by decide +kernel) ?_⟩
      refine ⟨_,rfl,rfl,_,rfl,iteB (by decide +kernel) ?_⟩
      exact ⟨_,rfl,b,rfl,k⟩
    · refine ⟨_,rfl,rfl,_,rfl,iteN (by decide +kernel) ?_⟩
      refine ⟨_,rfl,rfl,_,rfl,iteN (by decide +kernel) ?_⟩
      rcases hv with rfl | rfl
      · refine ⟨_,rfl,fun a ha=>⟨_,a,_,rfl,ha,by decide,?_⟩⟩
        exact k H (Same.refl H)
      · refine ⟨_,rfl,fun a ha=>⟨_,a,_,rfl,ha,by decide,?_⟩⟩
        exact k H (Same.refl H)
def HAt (H:Hp) (v:V) (h:Hm):Prop:=∃ a,v=.ref a∧H a=some (.tup (hV h))
def qe7:Sp:=fun vs H Q _=>∃ v h ns,vs=[v]∧HAt H v h∧okH h ns∧Q (.bl true) H
abbrev yb4:Stmt:=top 24
theorem qc2:FnScope ["thing"] ["thing"] (yab yb4):=⟨rfl,rfl,rfl,by decide +kernel,rfl,by decide +kernel,by decide +kernel⟩
theorem yhr (B:Bl mg) {aP:Addr} (gP:mg "PARTS" = some (.ref aP)) (TP:TabK K aP tabP) (F:FnAt K mg "has_word" yb4 ["thing"]):Has P w K mg base 1 "has_word" ["thing"] qe7:=by
  refine Has.of F qc2 (fun vs H Q E h=>?_) (fun f cdv A outer s H vs Q E hr h=>?_)
  · obtain ⟨v,h,ns,rfl,_⟩:=h
    rfl
  · obtain ⟨v,h,ns,rfl,⟨a,rfl,ha⟩,ok,k⟩:=h
    have sc:=qc2
    refine ⟨_,(yaj (qbc (yax (yae ya8 rfl (B.of rfl) boot_isinstance (yaa (pv 0) (yaa (ybf (v:=.ty "tuple") rfl (B.of rfl) boot_tuple rfl) yac))) (yax (yar yfv (yae yal rfl (B.of rfl) boot_len (yaa (pv 0) yac)) qac (yah _)) (yax (yae ya8 rfl (B.of rfl) boot_isinstance (yaa (ybq ybw (pv 0) qac (fun _ _=>rfl)) (yaa (ybf (v:=.ty "str") rfl (B.of rfl) boot_str rfl) yac))) (qbg (yar (qid (D:=tabP)) (ybq ybw (pv 0) qac (fun _ _=>rfl)) (ybd (v:=.ref aP) rfl gP rfl) (by with_unfolding_all rfl)))))))),?_⟩
    refine ⟨_,rfl,_,_,_,_,rfl,.tup ha,rfl,_,rfl,iteT ?_⟩
    refine ⟨_,rfl,a,_,rfl,.inr (SqT.of ha),_,_,rfl,rfl,_,rfl,iteD (by unfold hV; simp; omega) ?_⟩
    refine ⟨_,rfl,a,_,_,_,rfl,rfl,SqT.of ha,qal 0 rfl,_,_,_,_,rfl,.str _,rfl,_,rfl,iteT ?_⟩
    refine ⟨_,rfl,a,_,_,_,rfl,rfl,SqT.of ha,qal 0 rfl,aP,h.w,rfl,rfl,TP,?_⟩
    have e:KTD.inKeys h.w tabP=true:=by rw [← KTD.isSome_datumAt,ok.tab]; rfl
    rw [e]
    exact k
end
end Mh
set_option Elab.async false
set_option linter.all false
set_option maxRecDepth 100000
set_option maxHeartbeats 1600000
namespace Mh
open PySem L2 PyProof.Rows
section
variable {P:Program} {w:World} {K:PySem.W.Frag} {mg:Str→Option Value} {base:Heap}
theorem Rest.get {ns:List Str} {vs:List V} (h:Rest ns vs):∀ {i:Nat} {n:Str} {v:V},ns[i]?=some n→vs[i]?=some v→(n="bit"∧bitV v)∨(n="how"∧howV v):=by
  induction h with
  | nil=>intro i n v h; simp at h
  | bit hb _ ih=>
    intro i n v h1 h2
    cases i with
    | zero=>simp at h1 h2; subst h1 h2; exact .inl ⟨rfl,hb⟩
    | succ i=>simp at h1 h2; exact ih h1 h2
  | how hb _ ih=>
    intro i n v h1 h2
    cases i with
    | zero=>simp at h1 h2; subst h1 h2; exact .inr ⟨rfl,hb⟩
    | succ i=>simp at h1 h2; exact ih h1 h2
theorem okH.cellAt {h:Hm} {ns:List Str} (o:okH h ns) {i:Nat} {x y:V} (hx:(yaw h.c.length ns)[i]?=some x) (hy:(h.c.map V.int++h.r)[i]?=some y) :
    (x=.str "cell"∧∃ c,h.c[i]?=some c∧y=.int c)∨(h.c.length≤i∧((x=.str "bit"∧bitV y)∨(x=.str "how"∧howV y))):=by
  unfold yaw at hx
  by_cases hi:i < h.c.length
  · rw [List.getElem?_append_left (by simpa using hi),List.getElem?_replicate,if_pos hi] at hx
    rw [List.getElem?_append_left (by simpa using hi)] at hy
    obtain ⟨c,hc,rfl⟩:=ycv hy
    exact .inl ⟨(Option.some.inj hx).symm,c,hc,rfl⟩
  · rw [List.getElem?_append_right (by simpa using Nat.le_of_not_lt hi)] at hx
    rw [List.getElem?_append_right (by simpa using Nat.le_of_not_lt hi)] at hy
    simp only [List.length_replicate,List.length_map] at hx hy
    obtain ⟨n,hn,rfl⟩:=ycv hx
    rcases o.rest.get hn hy with ⟨rfl,hb⟩ | ⟨rfl,hb⟩
    · exact .inr ⟨Nat.le_of_not_lt hi,.inl ⟨rfl,hb⟩⟩
    · exact .inr ⟨Nat.le_of_not_lt hi,.inr ⟨rfl,hb⟩⟩
theorem okH.partAt {h:Hm} {ns:List Str} (o:okH h ns) {i:Nat} {x y:V} (hx:(yaw h.c.length ns)[i]?=some x) (hy:(h.c.map V.int++h.r)[i]?=some y):∃ nm,x=.str nm∧PartOk nm y:=by
  rcases o.cellAt hx hy with ⟨rfl,c,hc,rfl⟩ | ⟨_,⟨rfl,hb⟩ | ⟨rfl,hb⟩⟩
  · exact ⟨_,rfl,.inl ⟨rfl,c,rfl,o.rg c (List.mem_of_getElem? hc)⟩⟩
  · exact ⟨_,rfl,.inr (.inl ⟨rfl,hb⟩)⟩
  · exact ⟨_,rfl,.inr (.inr ⟨rfl,hb⟩)⟩
theorem ygi (h:Hm):cutV (hV h) (some 1) none=h.c.map V.int++h.r:=by
  unfold hV
  exact qe2 1
theorem yh1 (h:Hm):¬ (HT.sIx (hV h).length 0 (some 1)=0∧HT.sIx (hV h).length (hV h).length none=(hV h).length):=by
  rintro ⟨h0,_⟩
  unfold hV HT.sIx at h0
  simp at h0
def qet:Sp:=fun vs H Q _=>∃ v h ns,vs=[v]∧HAt H v h∧okH h ns∧∀ H',Same H H'→Q (.bl true) H'
abbrev ybr:Stmt:=top 26
theorem ycp:FnScope ["thing","names"] ["thing"] (yab ybr):=⟨rfl,rfl,rfl,by decide +kernel,rfl,by decide +kernel,by decide +kernel⟩
theorem qgz (B:Bl mg) (qex:mg "zip" = none) (qcz:mg "all" = none) {aP:Addr} (gP:mg "PARTS" = some (.ref aP)) (TP:TabK K aP tabP) (yfm:Has P w K mg base 3 "is_part" ["name","thing"] qfy) (F:FnAt K mg "has_parts" ybr ["thing"]):Has P w K mg base 4 "has_parts" ["thing"] qet:=by
  refine Has.of F ycp (fun vs H Q E h=>?_) (fun f cdv A outer s H vs Q E hr h=>?_)
  · obtain ⟨v,h,ns,rfl,_⟩:=h
    rfl
  · obtain ⟨v,h,ns,rfl,⟨a,rfl,ha⟩,ok,k⟩:=h
    have sc:=ycp
    refine ⟨_,(qar (yca (i:=1) sc.nd rfl (Or.inl rfl) (ybq (qim (D:=tabP)) (ybd (v:=.ref aP) rfl gP rfl) (ybq ybw (pv 0) qac (fun _ _=>rfl)) (fun _ _=>rfl)))
      (yaj (qbc (yax (yar ycz (yae yal rfl (B.of rfl) boot_len (yaa (pv 0) yac)) (ycn qdg (yae yal rfl (B.of rfl) boot_len (yaa (pv 1) yac)) qac) (yah _)) (qbg (yae (yb9 rfl) rfl qcz ycb (yaa (qcl rfl (qbf rfl) (M:=["name","part"]) (ix:=[none,none]) (yic rfl qex (yaa (pv 1) (yaa (ydr yin (pv 0) (qbw qac) ycf) yac))) (fun _ _ _ _=>(qfh (K:=K) (n:=2) rfl rfl (qaz (qaq (i:=0) (show List.Nodup (["name","part"]:List Str) by decide +kernel) rfl (Or.inl rfl)) (qaz (qaq (i:=1) (show List.Nodup (["name","part"]:List Str) by decide +kernel) rfl (Or.inl rfl)) qct)))) (fun _ _ _ _=>yc5) (fun _ _ _ _=>(qak yfm hr (yaa (pv 0) (yaa (pv 1) yac))))) yac))))))),?_⟩
    refine ⟨_,rfl,a,_,_,_,rfl,rfl,SqT.of ha,qal 0 rfl,aP,h.w,_,rfl,rfl,TP,ok.tab,fun pn hpn=>?_⟩
    refine ⟨_,rfl,a,_,rfl,.inr (SqT.of ha),_,rfl,pn,_,rfl,.inr (hpn _),_,_,rfl,rfl,rfl,_,rfl,iteD ?_ ?_⟩
    · have:=ok.len
      congr 1
      unfold hV
      rw [List.length_cons,this]
      rfl
    refine ⟨_,rfl,_,rfl,_,rfl,a,_,rfl,SqT.of ha,yh1 h,fun q hq=>?_⟩
    rw [ygi]
    have s1:Same H (upd H q (.tup (h.c.map V.int++h.r))):=(Same.refl H).upd hq
    have e1:upd H q (.tup (h.c.map V.int++h.r)) q=some (.tup (h.c.map V.int++h.r)):=qab
    revert s1 e1
    generalize upd H q (.tup (h.c.map V.int++h.r))=H1
    intro s1 e1
    refine ⟨true,true,pn,q,_,_,rfl,hpn _,SqT.of e1,fun D hD=>?_⟩
    refine qe4 (K:=K) (ok.len.symm) (fun i H'=>Same H1 H'∧H' D=some (.lst ((List.replicate i true).map V.bl))) ⟨(Same.refl H1).upd hD,qab⟩ ?_ ?_ ?_
    · rintro i H2 ⟨s2,e2⟩
      exact ⟨hpn _,SqT.of (s2 _ _ e1)⟩
    · rintro H2 ⟨s2,e2⟩
      refine ⟨D,_,rfl,e2,?_⟩
      rw [show (List.replicate (yaw h.c.length ns).length true).all id=true by simp]
      exact k _ (s1.trans s2)
    · rintro i x y p H2 hx hy ⟨s2,e2⟩ hp
      obtain ⟨nm,rfl,hpo⟩:=ok.partAt hx hy
      refine ⟨p,_,rfl,SqT.of qab,rfl,?_⟩
      refine ⟨_,_,rfl,_,_,rfl,rfl,qbb.set (qbb.set (qbb.refl _) rfl) rfl,yes ?_⟩
      refine ⟨_,rfl,_,rfl,nm,y,rfl,hpo,fun H3 s3=>?_⟩
      have s23:Same H2 H3:=((Same.refl H2).upd hp).trans s3
      refine ⟨_,s23 _ _ e2,ycl ?_,(s2.trans s23).at hD,?_⟩
      · have h1:=(List.getElem?_eq_some_iff.mp hx).1
        have h2:=ok.cl
        have h3:=ok.rl
        simp [yaw] at h1 ⊢
        omega
      · rw [qab,List.replicate_succ',List.map_append]; rfl
end
end Mh
set_option Elab.async false
set_option linter.all false
set_option maxRecDepth 100000
set_option maxHeartbeats 1600000
namespace Mh
open PySem L2 PyProof.Rows
section
variable {P:Program} {w:World} {K:PySem.W.Frag} {mg:Str→Option Value} {base:Heap}
theorem qgx {h:Hm} {i:Nat} (hi:h.c.length≤i):h.c.take (i + 1)=h.c.take i:=by
  rw [List.take_of_length_le hi,List.take_of_length_le (by omega)]
def yb6:Sp:=fun vs H Q _=>∃ v h ns,vs=[v]∧HAt H v h∧okH h ns∧∀ D H',Same H H'→H D=none→H' D=some (.lst (h.c.map V.int))→Q (.ref D) H'
abbrev qb1:Stmt:=top 25
theorem qc3:FnScope ["harm"] ["harm"] (yab qb1):=⟨rfl,rfl,rfl,by decide +kernel,rfl,by decide +kernel,by decide +kernel⟩
theorem yhu (B:Bl mg) (qex:mg "zip" = none) {aP:Addr} (gP:mg "PARTS" = some (.ref aP)) (TP:TabK K aP tabP) (F:FnAt K mg "cells_in" qb1 ["harm"]):Has P w K mg base 1 "cells_in" ["harm"] yb6:=by
  refine Has.of F qc3 (fun vs H Q E h=>?_) (fun f cdv A outer s H vs Q E hr h=>?_)
  · obtain ⟨v,h,ns,rfl,_⟩:=h
    rfl
  · obtain ⟨v,h,ns,rfl,⟨a,rfl,ha⟩,ok,k⟩:=h
    have sc:=qc3
    refine ⟨_,(yaj (qbc (qcl rfl (qbf rfl) (M:=["name","part"]) (ix:=[none,none]) (yic rfl qex (yaa (ybq (qim (D:=tabP)) (ybd (v:=.ref aP) rfl gP rfl) (ybq ybw (pv 0) qac (fun _ _=>rfl)) (fun _ _=>rfl)) (yaa (ydr yin (pv 0) (qbw qac) ycf) yac))) (fun _ _ _ _=>(qfh (K:=K) (n:=2) rfl rfl (qaz (qaq (i:=0) (show List.Nodup (["name","part"]:List Str) by decide +kernel) rfl (Or.inl rfl)) (qaz (qaq (i:=1) (show List.Nodup (["name","part"]:List Str) by decide +kernel) rfl (Or.inl rfl)) qct)))) (fun _ _ _ _=>(qje (qbn ycz (pv 0) yan (yah _)))) (fun _ _ _ _=>(pv 1))))),?_⟩
    refine ⟨_,rfl,a,_,_,_,rfl,rfl,SqT.of ha,qal 0 rfl,aP,h.w,_,rfl,rfl,TP,ok.tab,fun pn hpn=>?_⟩
    refine ⟨_,rfl,_,rfl,a,_,rfl,SqT.of ha,yh1 h,fun q hq=>?_⟩
    rw [ygi]
    have s1:Same H (upd H q (.tup (h.c.map V.int++h.r))):=(Same.refl H).upd hq
    have e1:upd H q (.tup (h.c.map V.int++h.r)) q=some (.tup (h.c.map V.int++h.r)):=qab
    revert s1 e1
    generalize upd H q (.tup (h.c.map V.int++h.r))=H1
    intro s1 e1
    refine ⟨true,true,pn,q,_,_,rfl,hpn _,SqT.of e1,fun D hD=>?_⟩
    refine qe4 (K:=K) (ok.len.symm) (fun i H'=>Same H1 H'∧H' D=some (.lst ((h.c.take i).map V.int))) ⟨(Same.refl H1).upd hD,qab⟩ ?_ ?_ ?_
    · rintro i H2 ⟨s2,e2⟩
      exact ⟨hpn _,SqT.of (s2 _ _ e1)⟩
    · rintro H2 ⟨s2,e2⟩
      rw [List.take_of_length_le (by simp [yaw])] at e2
      exact k D H2 (s1.trans s2) (s1.free hD) e2
    · rintro i x y p H2 hx hy ⟨s2,e2⟩ hp
      have s3:Same H2 (upd H2 p (.tup [x,y])):=(Same.refl H2).upd hp
      refine ⟨p,_,rfl,SqT.of qab,rfl,?_⟩
      revert s3
      generalize upd H2 p (.tup [x,y])=H3
      intro s3
      refine ⟨_,_,rfl,_,_,rfl,rfl,qbb.set (qbb.set (qbb.refl _) rfl) rfl,?_⟩
      rcases ok.cellAt hx hy with ⟨rfl,c,hc,rfl⟩ | ⟨hge,hh⟩
      · refine ⟨_,rfl,rfl,_,rfl,iteB (by decide +kernel) ?_⟩
        refine ⟨_,rfl,_,s3 _ _ e2,ycl ?_,(s2.trans s3).at hD,?_⟩
        · have:=ok.cl
          simp
          omega
        · rw [qab,List.take_add_one,hc]; simp
      · have hxn:∃ nm,x=.str nm∧nm≠"cell":=by
          rcases hh with ⟨rfl,_⟩ | ⟨rfl,_⟩
          · exact ⟨_,rfl,by decide +kernel⟩
          · exact ⟨_,rfl,by decide +kernel⟩
        obtain ⟨nm,rfl,hnm⟩:=hxn
        refine ⟨_,rfl,rfl,_,rfl,iteN (by simpa using hnm) ?_⟩
        refine ⟨s2.trans s3,?_⟩
        rw [qgx hge]
        exact s3 _ _ e2
theorem not_take {l:List Int} (h:l.Nodup) {i:Nat} (hi:i < l.length):l[i]∉l.take i:=by
  intro hm
  obtain ⟨j,hj,e⟩:=List.getElem_of_mem hm
  rw [List.getElem_take] at e
  have hj':j < i:=by simp at hj; omega
  have:=(List.nodup_iff_pairwise_ne.mp h)
  exact (List.pairwise_iff_getElem.mp h j i (by omega) hi hj') e
theorem qgy {l:List Int} (h:l.Nodup):∀ i,i≤l.length→ya5 (fun i=>l.getD i 0) i=l.take i
  | 0,_=>rfl
  | i + 1,hi=>by
    show (if l.getD i 0∈ya5 (fun i=>l.getD i 0) i then ya5 (fun i=>l.getD i 0) i else ya5 (fun i=>l.getD i 0) i++[l.getD i 0])=_
    rw [qgy h i (by omega)]
    have e:l.getD i 0=l[i]:=by rw [List.getD_eq_getElem?_getD,List.getElem?_eq_getElem (by omega)]; rfl
    rw [e,if_neg (not_take h (by omega)),List.take_add_one,List.getElem?_eq_getElem (by omega)]
    rfl
theorem yek {l:List Int} (h:l.Nodup):uniq l=l:=by
  unfold uniq
  rw [qgy h _ (Nat.le_refl _),List.take_length]
theorem HAt.same {H H':Hp} {v:V} {h:Hm} (s:Same H H') (x:HAt H v h):HAt H' v h:=by
  obtain ⟨a,rfl,ha⟩:=x
  exact ⟨a,rfl,s _ _ ha⟩
def yf5:Sp:=fun vs H Q _=>∃ v h ns,vs=[v]∧HAt H v h∧okH h ns∧∀ H',Same H H'→Q (.bl true) H'
abbrev ycm:Stmt:=top 27
theorem ydo:FnScope ["thing","cells"] ["thing"] (yab ycm):=⟨rfl,rfl,rfl,by decide +kernel,rfl,by decide +kernel,by decide +kernel⟩
theorem yi3 (B:Bl mg) (qb2:mg "set" = none) (qej:Has P w K mg base 1 "has_word" ["thing"] qe7) (yd3:Has P w K mg base 4 "has_parts" ["thing"] qet) (qa9:Has P w K mg base 1 "cells_in" ["harm"] yb6) (F:FnAt K mg "is_harm" ycm ["thing"]):Has P w K mg base 5 "is_harm" ["thing"] yf5:=by
  refine Has.of F ydo (fun vs H Q E h=>?_) (fun f cdv A outer s H vs Q E hr h=>?_)
  · obtain ⟨v,h,ns,rfl,_⟩:=h
    rfl
  · obtain ⟨v,h,ns,rfl,hv,ok,k⟩:=h
    have sc:=ydo
    refine ⟨_,(qar (ydg (PW.pt (qiu (ydt (qdb (qak qej hr (yaa (pv 0) yac)))) (qgu (ydt (qdb (qak yd3 hr (yaa (pv 0) yac)))))))
        (yaj (qbc yc2))
        qbr)
      (qar (yca (i:=1) sc.nd rfl (Or.inl rfl) (qak qa9 hr (yaa (pv 0) yac)))
      (yaj (qbc (yar ycz (yae qc8 rfl (B.of rfl) boot_len (yaa (qco (qb0 rfl) rfl qb2 qbv (yaa (pv 1) yac)) yac)) (yae yal rfl (B.of rfl) boot_len (yaa (pv 1) yac)) (yah _)))))),?_⟩
    refine ⟨_,rfl,v,h,ns,rfl,hv,ok,_,rfl,iteF ?_⟩
    refine ⟨_,rfl,v,h,ns,rfl,hv,ok,fun H1 s1=>⟨_,rfl,iteF ?_⟩⟩
    refine ⟨_,rfl,v,h,ns,rfl,HAt.same s1 hv,ok,fun D H2 s2 hD e2=>?_⟩
    refine ⟨_,rfl,D,h.c,rfl,e2,by have:=ok.cl; omega,fun p hp=>?_⟩
    refine ⟨p,_,rfl,qab,?_⟩
    have s3:Same H2 (upd H2 p (SetO P w p (uniq h.c))):=(Same.refl H2).upd hp
    refine ⟨_,rfl,D,_,rfl,.inl (SqL.of (s3 _ _ e2)),rfl,?_⟩
    rw [yek ok.nd,List.length_map,decide_eq_true rfl]
    rw [yek ok.nd] at s3
    exact k _ ((s1.trans s2).trans s3)
end
end Mh
set_option Elab.async false
set_option linter.all false
set_option maxRecDepth 100000
set_option maxHeartbeats 1600000
namespace Mh
open PySem L2 PyProof.Rows
theorem nodup_le {l:List Int} (h:l.Nodup):∀ {S:List Int},(∀ x∈l,x∈S)→l.length≤S.length:=by
  induction l with
  | nil=>intro S _; exact Nat.zero_le _
  | cons x l ih=>
    intro S hs
    have hx:=hs x (by simp)
    have hn:=List.nodup_cons.mp h
    have:=ih hn.2 (S:=S.erase x) (fun y hy=>(List.mem_erase_of_ne (fun z=>by subst z; exact hn.1 hy)).mpr (hs y (by simp [hy])))
    rw [List.length_erase_of_mem hx] at this
    have:=List.length_pos_of_mem hx
    simp
    omega
def allC (hs:List Hm):List Int:=hs.flatMap Hm.c
structure okHs (hs:List Hm) (S:List Int):Prop where
  len:hs.length≤3
  ok:∀ h∈hs,∃ ns,okH h ns
  sl:S.length≤3
  mem:∀ h∈hs,∀ c∈h.c,c∈S
structure HsV (H:Hp) (vs:List V) (hs:List Hm):Prop where
  len:vs.length=hs.length
  at_:∀ (i:Nat) (v:V) (h:Hm),vs[i]?=some v→hs[i]?=some h→HAt H v h
theorem HsV.same {H H':Hp} {vs:List V} {hs:List Hm} (s:Same H H') (x:HsV H vs hs):HsV H' vs hs:=⟨x.len,fun i v h a b=>HAt.same s (x.at_ i v h a b)⟩
theorem HsV.get {H:Hp} {vs:List V} {hs:List Hm} (x:HsV H vs hs) {i:Nat} {v:V} (h:vs[i]?=some v):∃ g,hs[i]?=some g∧HAt H v g:=by
  have hi:=(List.getElem?_eq_some_iff.mp h).1
  have e:hs[i]?=some (hs[i]'(by rw [← x.len]; exact hi)):=List.getElem?_eq_getElem _
  exact ⟨_,e,x.at_ i v _ h e⟩
theorem ycc {hs:List Hm} {i:Nat} {h:Hm} (e:hs[i]?=some h):allC (hs.take (i + 1))=allC (hs.take i)++h.c:=by
  unfold allC
  rw [List.take_add_one,e]
  simp
theorem okHs.sub {hs:List Hm} {S:List Int} (o:okHs hs S) {l:List Hm} (hl:∀ h∈l,h∈hs):∀ x∈allC l,x∈S:=by
  intro x hx
  unfold allC at hx
  obtain ⟨h,hh,hc⟩:=List.mem_flatMap.mp hx
  exact o.mem h (hl h hh) x hc
theorem okHs.few {hs:List Hm} {S:List Int} (o:okHs hs S) {l:List Hm} (hl:∀ h∈l,h∈hs):(uniq (allC l)).length≤3:=
  Nat.le_trans (nodup_le (qf5 _) (fun x hx=>o.sub hl x ((yeb _ x).mp hx))) o.sl
theorem allC_len {l:List Hm} (h:∀ x∈l,x.c.length≤2):(allC l).length≤2 * l.length:=by
  induction l with
  | nil=>simp [allC]
  | cons a l ih=>
    have h1:=h a (by simp)
    have h2:=ih (fun x hx=>h x (by simp [hx]))
    unfold allC at *
    rw [List.flatMap_cons,List.length_append,List.length_cons]
    omega
theorem okHs.clen {hs:List Hm} {S:List Int} (o:okHs hs S) {l:List Hm} (hl:∀ h∈l,h∈hs):(allC l).length≤2 * l.length:=
  allC_len fun x hx=>by
    obtain ⟨ns,h⟩:=o.ok x (hl x hx)
    exact h.cl.2
theorem qdi {c:Prop} [Decidable c] {A B:Prop} (hc:¬ c) (h:B):if decide c=true then A else B:=iteN (decide_eq_false hc) h
section
variable {P:Program} {w:World} {K:PySem.W.Frag} {mg:Str→Option Value} {base:Heap}
def qbd:Sp:=fun vs H Q _=>∃ L us hs S,vs=[.ref L]∧H L=some (.lst us)∧HsV H us hs∧okHs hs S∧∀ H',Same H H'→Q .non H'
abbrev ya4:Stmt:=top 28
theorem ybo:FnScope ["thing","cells","number","harm"] ["thing"] (yab ya4):=⟨rfl,rfl,rfl,by decide +kernel,rfl,by decide +kernel,by decide +kernel⟩
theorem yev (B:Bl mg) (qb2:mg "set" = none) (ydh:∃ t,mg "MOST_HARMS" = some (.int 3 t)) (yc9:∃ t,mg "MOST_UNLIKE" = some (.int 3 t)) (qfe:Has P w K mg base 5 "is_harm" ["thing"] yf5) (qa9:Has P w K mg base 1 "cells_in" ["harm"] yb6) (F:FnAt K mg "look_at_harms" ya4 ["thing"]):Has P w K mg base 6 "look_at_harms" ["thing"] qbd:=by
  refine Has.of F ybo (fun vs H Q E h=>?_) (fun f cdv A outer s H vs Q E hr h=>?_)
  · obtain ⟨L,us,hs,S,rfl,_⟩:=h
    rfl
  · obtain ⟨L,us,hs,S,rfl,hL,hv,ok,k⟩:=h
    have sc:=ybo
    refine ⟨_,(qar (ydg (PW.pt (qiu (ydt (qdb (yae ya8 rfl (B.of rfl) boot_isinstance (yaa (pv 0) (yaa (ybf (v:=.ty "list") rfl (B.of rfl) boot_list rfl) yac))))) (qgu (qbn yfv (yae yal rfl (B.of rfl) boot_len (yaa (pv 0) yac)) (qcu ydh) (yah _)))))
        (yaj ycq)
        qbr)
      (qar (yca (i:=1) sc.nd rfl (Or.inl rfl) (qd7 yac))
      (yaj (yfh PassesOwn.never rfl (qel rfl (B.of rfl) (yaa (pv 0) yac)) (yfz rfl (qaz (qaq (i:=2) sc.nd rfl (Or.inl rfl)) (qaz (qaq (i:=3) sc.nd rfl (Or.inl rfl)) qct)))
        (qar (ydg (ydt (qdb (qak qfe hr (yaa (pv 3) yac))))
          (yaj ycq)
          qbr)
        (qar (ydx (qgj PySem.F.plainAttrs_list PySem.F.slot_list_extend PySem.F.type_list_extend qec (pv 1) (yaa (qak qa9 hr (yaa (pv 3) yac)) yac)))
        (yaj (ydg (qbn yfv (yae qc8 rfl (B.of rfl) boot_len (yaa (qco (qb0 rfl) rfl qb2 qbv (yaa (pv 1) yac)) yac)) (qcu yc9) (yah _))
          (yaj ycq)
          qbr)))))))),?_⟩
    refine ⟨_,rfl,_,_,_,_,rfl,.lst hL,rfl,_,rfl,iteF ?_⟩
    refine ⟨_,rfl,L,us,rfl,.inl (SqL.of hL),_,_,rfl,rfl,_,rfl,qdi (by have:=hv.len; have:=ok.len; omega) ?_⟩
    refine ⟨Nat.zero_le _,fun p hp=>?_⟩
    have npL:L≠p:=qah hL hp
    refine ⟨_,rfl,L,us,rfl,SqL.of (by rw [qaf npL]; exact hL),yea (xs:=us) (fun i σ H2=>∃ (o2 o3:Option V),σ=[some (.ref L),some (.ref p),o2,o3]∧Same H H2∧H2 p=some (.lst ((allC (hs.take i)).map V.int)))
      ⟨none,none,rfl,(Same.refl H).upd hp,qab⟩ (fun i σ H2 _ ⟨_,_,_,h,_⟩=>SqL.of (h _ _ hL)) ?_ ?_⟩
    · rintro i x pp σ H2 hx ⟨o2,o3,rfl,s2,e2⟩ hpp
      obtain ⟨g,hg,hat⟩:=hv.get hx
      obtain ⟨ns,og⟩:=ok.ok g (List.mem_of_getElem? hg)
      have sP:Same H2 (upd H2 pp (.tup [.int i,x])):=(Same.refl H2).upd hpp
      refine ⟨pp,_,rfl,SqT.of qab,rfl,_,_,rfl,_,_,rfl,rfl,?_⟩
      refine ⟨_,rfl,x,g,ns,rfl,HAt.same (s2.trans sP) hat,og,fun H3 s3=>⟨_,rfl,iteF ?_⟩⟩
      have s23:Same H2 H3:=sP.trans s3
      refine ⟨_,rfl,.inl ⟨rfl,_,SqL.of (s23 _ _ e2)⟩,?_⟩
      refine ⟨_,rfl,x,g,ns,rfl,HAt.same (s2.trans s23) hat,og,fun D H4 s4 hD eD=>?_⟩
      have s24:=s23.trans s4
      have hsub:∀ h∈hs.take (i + 1),h∈hs:=fun h hh=>List.mem_of_mem_take hh
      have hlt:(allC (hs.take (i + 1))).length≤6:=by
        have h1:=ok.clen hsub
        have h2:=ok.len
        rw [List.length_take] at h1
        omega
      refine ⟨p,D,_,_,rfl,rfl,s24 _ _ e2,eD,?_,?_⟩
      · rw [← List.length_append,← List.map_append,← ycc hg,List.length_map]
        exact Nat.le_of_lt (ycl (by omega))
      rw [← List.map_append,← ycc hg]
      have s5:Same H (upd H4 p (.lst ((allC (hs.take (i + 1))).map V.int))):=(s2.trans s24).at hp
      have e5:upd H4 p (.lst ((allC (hs.take (i + 1))).map V.int)) p=some (.lst ((allC (hs.take (i + 1))).map V.int)):=qab
      revert s5 e5
      generalize upd H4 p (.lst ((allC (hs.take (i + 1))).map V.int))=H5
      intro s5 e5
      refine ⟨_,rfl,p,_,rfl,e5,by omega,fun q hq=>?_⟩
      have s6:Same H5 (upd H5 q (SetO P w q (uniq (allC (hs.take (i + 1)))))):=(Same.refl H5).upd hq
      refine ⟨q,_,rfl,qab,_,_,rfl,rfl,_,rfl,qdi (by have:=ok.few hsub; omega) ?_⟩
      exact ⟨_,_,rfl,s5.trans s6,s6 _ _ e5⟩
    · rintro σ H2 ⟨o2,o3,rfl,s2,e2⟩
      exact k _ s2
end
end Mh
set_option Elab.async false
set_option linter.all false
set_option maxRecDepth 100000
set_option maxHeartbeats 1600000
namespace Mh
open PySem L2 PyProof.Rows
section
variable {P:Program} {w:World} {K:PySem.W.Frag} {mg:Str→Option Value} {base:Heap}
def yfb:Sp:=fun vs H Q _=>∃ L us hs S,vs=[.ref L]∧H L=some (.lst us)∧HsV H us hs∧okHs hs S∧∀ (D:Addr) (ns:List Int) (H':Hp),Same H H'→H D=none→H' D=some (.lst (ns.map V.int))→ns.Perm (uniq (allC hs))→ns.Pairwise (·≤·)→Q (.ref D) H'
abbrev qb3:Stmt:=top 29
theorem qc7:FnScope ["harms","cells","harm"] ["harms"] (yab qb3):=⟨rfl,rfl,rfl,by decide +kernel,rfl,by decide +kernel,by decide +kernel⟩
theorem qhu (B:Bl mg) (qb2:mg "set" = none) (qas:Has P w K mg base 6 "look_at_harms" ["thing"] qbd) (qa9:Has P w K mg base 1 "cells_in" ["harm"] yb6) (F:FnAt K mg "cells_of" qb3 ["harms"]):Has P w K mg base 7 "cells_of" ["harms"] yfb:=by
  refine Has.of F qc7 (fun vs H Q E h=>?_) (fun f cdv A outer s H vs Q E hr h=>?_)
  · obtain ⟨L,us,hs,S,rfl,_⟩:=h
    rfl
  · obtain ⟨L,us,hs,S,rfl,hL,hv,ok,k⟩:=h
    have sc:=qc7
    refine ⟨_,(qar (ydx (qak qas hr (yaa (pv 0) yac)))
      (qar (yca (i:=1) sc.nd rfl (Or.inl rfl) (qd7 yac))
      (qar (yfh PassesOwn.never rfl (ycs (pv 0)) (qaq (i:=2) sc.nd rfl (Or.inl rfl))
        (yaj (ydx (qgj PySem.F.plainAttrs_list PySem.F.slot_list_extend PySem.F.type_list_extend qec (pv 1) (yaa (qak qa9 hr (yaa (pv 2) yac)) yac)))))
      (yaj (qbc (yae (qcb rfl) rfl (B.of rfl) qcd (yaa (qco (qb0 rfl) rfl qb2 qbv (yaa (pv 1) yac)) yac))))))),?_⟩
    refine ⟨_,rfl,L,us,hs,S,rfl,hL,hv,ok,fun H1 s1=>?_⟩
    refine ⟨Nat.zero_le _,fun p hp=>?_⟩
    have hp0:H p=none:=s1.free hp
    have npL:L≠p:=qah hL hp0
    refine ⟨_,rfl,L,rfl,⟨us,SqL.of (by rw [qaf npL]; exact s1 _ _ hL)⟩,ycr (xs:=us) (fun i σ H2=>∃ (o2:Option V),σ=[some (.ref L),some (.ref p),o2]∧Same H H2∧H2 p=some (.lst ((allC (hs.take i)).map V.int)))
      ⟨none,rfl,s1.upd hp,qab⟩ (fun i σ H2 _ ⟨_,_,h,_⟩=>SqL.of (h _ _ hL)) ?_ ?_⟩
    · rintro i x σ H2 hx ⟨o2,rfl,s2,e2⟩
      obtain ⟨g,hg,hat⟩:=hv.get hx
      obtain ⟨ns,og⟩:=ok.ok g (List.mem_of_getElem? hg)
      refine ⟨_,rfl,.inl ⟨rfl,_,SqL.of e2⟩,?_⟩
      refine ⟨_,rfl,x,g,ns,rfl,HAt.same s2 hat,og,fun D H4 s4 hD eD=>?_⟩
      have hsub:∀ h∈hs.take (i + 1),h∈hs:=fun h hh=>List.mem_of_mem_take hh
      have hlt:(allC (hs.take (i + 1))).length≤6:=by
        have h1:=ok.clen hsub
        have h2:=ok.len
        rw [List.length_take] at h1
        omega
      refine ⟨p,D,_,_,rfl,rfl,s4 _ _ e2,eD,?_,?_⟩
      · rw [← List.length_append,← List.map_append,← ycc hg,List.length_map]
        exact Nat.le_of_lt (ycl (by omega))
      rw [← List.map_append,← ycc hg]
      exact ⟨_,rfl,(s2.trans s4).at hp0,qab⟩
    · rintro σ H2 ⟨o2,rfl,s2,e2⟩
      rw [hv.len,List.take_length] at e2
      have hc:=ok.clen (l:=hs) (fun h hh=>hh)
      have h3:=ok.len
      refine ⟨_,rfl,p,_,rfl,e2,by omega,fun q hq=>?_⟩
      have s6:Same H2 (upd H2 q (SetO P w q (uniq (allC hs)))):=(Same.refl H2).upd hq
      refine ⟨q,_,rfl,qab,by have:=ok.few (l:=hs) (fun h hh=>hh); omega,fun l ns hl hpm hso=>?_⟩
      exact k l ns _ ((s2.trans s6).upd hl) ((s2.trans s6).free hl) qab hpm hso
end
end Mh
set_option Elab.async false
set_option linter.all false
set_option maxRecDepth 100000
set_option maxHeartbeats 1600000
namespace Mh
open PySem L2 PyProof.Rows
def Hm.cell (h:Hm) (i:Nat):Int:=h.c.getD i 0
def Hm.bit (h:Hm) (i:Nat):Int:=match h.r.getD i .non with | .int v=>v | _=>0
theorem ygf {vs:List V} (h:Rest ["bit"] vs):∃ b,vs=[.int (b2i b)]:=by
  cases h with
  | bit hb h=>
    cases h
    obtain ⟨b,rfl⟩:=hb
    exact ⟨b,rfl⟩
theorem qja {vs:List V} (h:Rest ["bit","bit"] vs):∃ b c,vs=[.int (b2i b),.int (b2i c)]:=by
  cases h with
  | bit hb h=>
    obtain ⟨b,rfl⟩:=hb
    obtain ⟨c,rfl⟩:=ygf h
    exact ⟨b,c,rfl⟩
theorem rest_how {vs:List V} (h:Rest ["how"] vs):∃ v,vs=[v]∧howV v:=by
  cases h with
  | how hb h=>
    cases h
    exact ⟨_,rfl,hb⟩
theorem map_str {ns ms:List Str} (h:ns.map V.str=ms.map V.str):ns=ms:=List.map_inj_right (fun _ _ e=>V.str.inj e) |>.mp h
theorem qck {h:Hm} {ns:List Str} (o:okH h ns):(∃ a,h.c=[a])∨∃ a b,h.c=[a,b]:=by
  obtain ⟨h1,h2⟩:=o.cl
  match hc:h.c with
  | []=>rw [hc] at h1; simp at h1
  | [a]=>exact .inl ⟨a,rfl⟩
  | [a,b]=>exact .inr ⟨a,b,rfl⟩
  | _ :: _ :: _ :: _=>rw [hc] at h2; simp at h2
theorem qij {h:Hm} {ns N:List Str} (o:okH h ns) (hw:KTD.datumAt h.w tabP=some (N.map V.str)):List.replicate h.c.length ("cell" : Str)++ns=N:=by
  have e:=Option.some.inj (o.tab.symm.trans hw)
  unfold yaw at e
  apply map_str
  rw [← e,List.map_append,List.map_replicate]
theorem qft:("cell" : Str)≠"bit":=by decide +kernel
theorem qhl:("cell" : Str)≠"how":=by decide +kernel
theorem okH.s1 {h:Hm} {ns:List Str} (o:okH h ns) (hw:KTD.datumAt h.w tabP=some ((["cell","bit"]:List Str).map V.str)):∃ a b,h.c=[a]∧h.r=[.int (b2i b)]:=by
  have e:=qij o hw
  have hr:=o.rest
  rcases qck o with ⟨a,hc⟩ | ⟨a,b,hc⟩
  · rw [hc] at e
    obtain ⟨_,rfl⟩:=List.cons.inj e
    obtain ⟨b,hb⟩:=ygf hr
    exact ⟨a,b,hc,hb⟩
  · rw [hc] at e
    exact absurd (List.cons.inj (List.cons.inj e).2).1 qft
theorem okH.c2 {h:Hm} {ns N:List Str} (o:okH h ns) (hw:KTD.datumAt h.w tabP=some ((("cell" : Str) :: ("cell" : Str) :: N:List Str).map V.str)) (hN:∀ n∈ns,n≠"cell"):∃ a b,h.c=[a,b]∧ns=N:=by
  have e:=qij o hw
  rcases qck o with ⟨a,hc⟩ | ⟨a,b,hc⟩
  · rw [hc] at e
    have e2:=(List.cons.inj e).2
    exact absurd rfl (hN "cell" (by show ("cell" : Str)∈ns; rw [show ns=("cell" : Str) :: N from e2]; simp))
  · rw [hc] at e
    exact ⟨a,b,hc,(List.cons.inj (List.cons.inj e).2).2⟩
theorem Rest.nocell {ns:List Str} {vs:List V} (h:Rest ns vs):∀ n∈ns,n≠"cell":=by
  induction h with
  | nil=>intro n h; simp at h
  | bit _ _ ih=>
    intro n hn
    rcases List.mem_cons.mp hn with rfl | hn
    · exact qft.symm
    · exact ih n hn
  | how _ _ ih=>
    intro n hn
    rcases List.mem_cons.mp hn with rfl | hn
    · exact qhl.symm
    · exact ih n hn
theorem okH.sTurns {h:Hm} {ns:List Str} (o:okH h ns) (hw:KTD.datumAt h.w tabP=some ((["cell","cell","bit"]:List Str).map V.str)):∃ a b x,h.c=[a,b]∧h.r=[.int (b2i x)]:=by
  obtain ⟨a,b,hc,rfl⟩:=o.c2 hw o.rest.nocell
  obtain ⟨x,hx⟩:=ygf o.rest
  exact ⟨a,b,x,hc,hx⟩
theorem okH.sSets {h:Hm} {ns:List Str} (o:okH h ns) (hw:KTD.datumAt h.w tabP=some ((["cell","cell","bit","bit"]:List Str).map V.str)):∃ a b x y,h.c=[a,b]∧h.r=[.int (b2i x),.int (b2i y)]:=by
  obtain ⟨a,b,hc,rfl⟩:=o.c2 hw o.rest.nocell
  obtain ⟨x,y,hx⟩:=qja o.rest
  exact ⟨a,b,x,y,hc,hx⟩
theorem okH.sOther {h:Hm} {ns:List Str} (o:okH h ns) (hw:KTD.datumAt h.w tabP=some ((["cell","cell"]:List Str).map V.str)):∃ a b,h.c=[a,b]∧h.r=[]:=by
  obtain ⟨a,b,hc,rfl⟩:=o.c2 hw o.rest.nocell
  have:=o.rest
  cases hr:h.r with
  | nil=>exact ⟨a,b,hc,rfl⟩
  | cons v l=>rw [hr] at this; cases this
theorem okH.sBoth {h:Hm} {ns:List Str} (o:okH h ns) (hw:KTD.datumAt h.w tabP=some ((["cell","cell","how"]:List Str).map V.str)):∃ a b v,h.c=[a,b]∧h.r=[v]∧howV v:=by
  obtain ⟨a,b,hc,rfl⟩:=o.c2 hw o.rest.nocell
  obtain ⟨v,hv,hw⟩:=rest_how o.rest
  exact ⟨a,b,v,hc,hv,hw⟩
theorem okH.at1 {h:Hm} {ns:List Str} (o:okH h ns):(hV h)[1]?=some (.int (h.cell 0)):=by
  rcases qck o with ⟨a,hc⟩ | ⟨a,b,hc⟩ <;> (unfold hV Hm.cell; rw [hc]; rfl)
theorem qc1 {s:Str} (h:s="stuck"∨s="slow"∨s="forgets"∨s="misreads"∨s="nowhere"):KTD.datumAt s tabP=some ((["cell","bit"]:List Str).map V.str):=by
  rcases h with rfl | rfl | rfl | rfl | rfl <;> decide +kernel
theorem ygq:KTD.datumAt ("turns" : Str) tabP=some ((["cell","cell","bit"]:List Str).map V.str):=by decide +kernel
theorem qe1 {s:Str} (h:s="sets"∨s="keeps"):KTD.datumAt s tabP=some ((["cell","cell","bit","bit"]:List Str).map V.str):=by
  rcases h with rfl | rfl <;> decide +kernel
theorem yg1:KTD.datumAt ("other" : Str) tabP=some ((["cell","cell"]:List Str).map V.str):=by decide +kernel
theorem qia:KTD.datumAt ("both" : Str) tabP=some ((["cell","cell","how"]:List Str).map V.str):=by decide +kernel
end Mh
set_option Elab.async false
set_option linter.all false
set_option maxRecDepth 100000
set_option maxHeartbeats 1600000
namespace Mh
open PySem L2 PyProof.Rows
def yfp (cell:Int) (h:Hm):Bool:=h.w == "stuck" && h.cell 0 == cell
def qfr (hs:List Hm) (cell:Int):Option Int:=(hs.find? (yfp cell)).map (fun h=>h.bit 0)
def optI:Option Int→V
  | none=>.non
  | some b=>.int b
def putM (hs:List Hm) (cs:List Int) (cell bit:Int):List Int:=if (qfr hs cell).isNone then cs.set cell.toNat bit else cs
theorem ykr {α:Type} {p:α→Bool} {l:List α} {i:Nat} {x:α} (h0:(l.take i).find? p=none) (hx:l[i]?=some x) :
    (p x=true→l.find? p=some x)∧(p x=false→(l.take (i + 1)).find? p=none):=by
  constructor
  · intro hp
    have hi:=(List.getElem?_eq_some_iff.mp hx).1
    have e:l=l.take i++x :: l.drop (i + 1):=by
      have:=List.getElem_cons_drop (as:=l) (i:=i) hi
      rw [(List.getElem?_eq_some_iff.mp hx).2] at this
      rw [this,List.take_append_drop]
    rw [e,List.find?_append,h0]
    simp [hp]
  · intro hp
    rw [List.take_add_one,hx,List.find?_append,h0]
    simp [hp]
def Oks (hs:List Hm):Prop:=∀ h∈hs,∃ ns,okH h ns
section
variable {P:Program} {w:World} {K:PySem.W.Frag} {mg:Str→Option Value} {base:Heap}
def ydj:Sp:=fun vs H Q _=>∃ L us hs cell,vs=[.ref L,.int cell]∧H L=some (.lst us)∧HsV H us hs∧Oks hs∧Q (optI (qfr hs cell)) H
abbrev yb3:Stmt:=top 31
theorem qeq:FnScope ["harms","cell","harm"] ["harms","cell"] (yab yb3):=⟨rfl,rfl,rfl,by decide +kernel,rfl,by decide +kernel,by decide +kernel⟩
theorem yg7 (F:FnAt K mg "stuck_bit" yb3 ["harms","cell"]):Has P w K mg base 1 "stuck_bit" ["harms","cell"] ydj:=by
  refine Has.of F qeq (fun vs H Q E h=>?_) (fun f cdv A outer s H vs Q E hr h=>?_)
  · obtain ⟨L,us,hs,cell,rfl,_⟩:=h
    rfl
  · obtain ⟨L,us,hs,cell,rfl,hL,hv,ok,k⟩:=h
    have sc:=qeq
    refine ⟨_,(qar (yfh PassesOwn.never rfl (ycs (pv 0)) (qaq (i:=2) sc.nd rfl (Or.inl rfl))
        (yaj (ydg (PW.pt (qg3 (qbn ycz (ybq ybw (pv 2) qac (fun _ _=>rfl)) yan (yah _)) (ye8 (qbn ycz (ybq ybw (pv 2) qac (fun _ _=>rfl)) (pv 1) (yah _)))))
          (yaj (qbc (ybq ybw (pv 2) qac (fun _ _=>rfl))))
          qbr)))
      (yaj (qbc qdc))),?_⟩
    refine ⟨_,rfl,L,rfl,⟨us,SqL.of hL⟩,ycr (xs:=us) (fun i σ H2=>∃ (o2:Option V),σ=[some (.ref L),some (.int cell),o2]∧H2=H∧(hs.take i).find? (yfp cell)=none)
      ⟨none,rfl,rfl,rfl⟩ (fun i σ H2 _ ⟨_,_,h,_⟩=>by subst h; exact SqL.of hL) ?_ ?_⟩
    · rintro i x σ H2 hx ⟨o2,rfl,rfl,hn⟩
      obtain ⟨g,hg,a,rfl,ha⟩:=hv.get hx
      obtain ⟨ns,og⟩:=ok g (List.mem_of_getElem? hg)
      obtain ⟨f1,f2⟩:=ykr hn hg
      refine ⟨_,rfl,a,_,_,_,rfl,rfl,SqT.of ha,qal 0 rfl,rfl,_,rfl,?_⟩
      by_cases hw:g.w="stuck"
      · refine iteB (by rw [decide_eq_true_iff]; exact congrArg V.str hw) ?_
        refine ⟨_,rfl,a,_,_,_,rfl,rfl,SqT.of ha,qal 1 og.at1,_,rfl,rfl,_,rfl,?_⟩
        by_cases hc:g.cell 0=cell
        · refine iteB (by rw [decide_eq_true_iff]; exact congrArg V.int hc) ?_
          obtain ⟨c,b,ec,er⟩:=og.s1 (qc1 (.inl hw))
          refine ⟨_,rfl,a,_,_,_,rfl,rfl,SqT.of ha,qal 2 (show (hV g)[2]?=some (.int (g.bit 0)) by unfold hV Hm.bit; rw [ec,er]; rfl),?_⟩
          have:=f1 (by unfold yfp; rw [hw,hc]; simp)
          unfold qfr at k
          rw [this] at k
          exact k
        · refine iteN (by rw [decide_eq_false_iff_not]; intro z; exact hc (V.int.inj z)) ?_
          exact ⟨_,rfl,rfl,f2 (by unfold yfp; simp [hc])⟩
      · refine iteN (by rw [decide_eq_false_iff_not]; intro z; exact hw (V.str.inj z)) ?_
        exact ⟨_,rfl,rfl,f2 (by unfold yfp; simp [hw])⟩
    · rintro σ H2 ⟨o2,rfl,rfl,hn⟩
      rw [hv.len,List.take_length] at hn
      unfold qfr at k
      rw [hn] at k
      exact k
end
end Mh
set_option Elab.async false
set_option linter.all false
set_option maxRecDepth 100000
set_option maxHeartbeats 1600000
namespace Mh
open PySem L2 PyProof.Rows
def rd (cs:List Int) (c:Int):Int:=cs.getD c.toNat 0
theorem rd_at {cs:List Int} {c:Int} (h0:0≤c) (h1:c < cs.length):atI (cs.map V.int) c=some (.int (rd cs c)):=by
  refine qj2 h0 ?_
  have:c.toNat < cs.length:=by omega
  unfold rd
  rw [List.getElem?_map,List.getD_eq_getElem?_getD,List.getElem?_eq_getElem this]
  rfl
theorem ixN_in {n:Nat} {c:Int} (h0:0≤c) (h1:c < n):ixN n c=some c.toNat:=by
  unfold ixN
  rw [if_pos h0,if_pos h1]
theorem HAt.upd {H:Hp} {C:Addr} {xs ys:List V} {v:V} {h:Hm} (x:HAt H v h) (hC:H C=some (.lst xs)):HAt (upd H C (.lst ys)) v h:=by
  obtain ⟨a,rfl,ha⟩:=x
  exact ⟨a,rfl,by rw [qaf (fun z=>by subst z; rw [hC] at ha; cases ha)]; exact ha⟩
theorem HsV.upd {H:Hp} {C:Addr} {xs ys us:List V} {hs:List Hm} (x:HsV H us hs) (hC:H C=some (.lst xs)):HsV (L2.upd H C (.lst ys)) us hs:=⟨x.len,fun i v h a b=>HAt.upd (x.at_ i v h a b) hC⟩
theorem upd_id {H:Hp} {C:Addr} {o:HO} (h:H C=some o):upd H C o=H:=by
  funext b
  by_cases e:b=C
  · subst e; rw [qab,h]
  · rw [qaf e]
theorem map_set (cs:List Int) (i:Nat) (b:Int):(cs.map V.int).set i (.int b)=(cs.set i b).map V.int:=by rw [List.map_set]
theorem putM_len (hs:List Hm) (cs:List Int) (c b:Int):(putM hs cs c b).length=cs.length:=by
  unfold putM
  split <;> simp
structure Mem (H:Hp) (L C:Addr) (us:List V) (hs:List Hm) (cs:List Int):Prop where
  ne:L≠C
  hl:H L=some (.lst us)
  hv:HsV H us hs
  ok:Oks hs
  hc:H C=some (.lst (cs.map V.int))
theorem Mem.upd {H:Hp} {L C:Addr} {us:List V} {hs:List Hm} {cs:List Int} (m:Mem H L C us hs cs) (ds:List Int):Mem (L2.upd H C (.lst (ds.map V.int))) L C us hs ds:=
  ⟨m.ne,by rw [qaf m.ne]; exact m.hl,m.hv.upd m.hc,m.ok,qab⟩
theorem Mem.same {H H':Hp} {L C:Addr} {us:List V} {hs:List Hm} {cs:List Int} (s:Same H H') (m:Mem H L C us hs cs):Mem H' L C us hs cs:=
  ⟨m.ne,s _ _ m.hl,m.hv.same s,m.ok,s _ _ m.hc⟩
section
variable {P:Program} {w:World} {K:PySem.W.Frag} {mg:Str→Option Value} {base:Heap}
def sp_put:Sp:=fun vs H Q _=>∃ L C us hs cs cell bit,vs=[.ref L,.ref C,.int cell,.int bit]∧Mem H L C us hs cs∧0≤cell∧cell < cs.length∧Q .non (upd H C (.lst ((putM hs cs cell bit).map V.int)))
abbrev qi2:Stmt:=top 32
theorem sc_put:FnScope ["harms","cells","cell","bit"] ["harms","cells","cell","bit"] (yab qi2):=⟨rfl,rfl,rfl,by decide +kernel,rfl,by decide +kernel,by decide +kernel⟩
theorem ok_put (qd0:Has P w K mg base 1 "stuck_bit" ["harms","cell"] ydj) (F:FnAt K mg "put" qi2 ["harms","cells","cell","bit"]):Has P w K mg base 2 "put" ["harms","cells","cell","bit"] sp_put:=by
  refine Has.of F sc_put (fun vs H Q E h=>?_) (fun f cdv A outer s H vs Q E hr h=>?_)
  · obtain ⟨L,C,us,hs,cs,cell,bit,rfl,_⟩:=h
    rfl
  · obtain ⟨L,C,us,hs,cs,cell,bit,rfl,m,h0,h1,k⟩:=h
    have sc:=sc_put
    refine ⟨_,(yaj (ydg (yim (qke (qak qd0 hr (yaa (pv 0) (yaa (pv 2) yac)))))
        (yaj (qjh (pv 3) (qjg (pv 1) (pv 2) yf8)))
        qbr)),?_⟩
    refine ⟨_,rfl,_,rfl,L,us,hs,cell,rfl,m.hl,m.hv,m.ok,?_⟩
    unfold putM at k
    cases e:qfr hs cell with
    | none=>
      rw [e] at k
      refine ⟨_,rfl,iteT ?_⟩
      refine ⟨_,rfl,_,rfl,_,rfl,C,_,cell,_,rfl,rfl,m.hc,ixN_in h0 (by simpa using h1),?_⟩
      rw [map_set]
      exact k
    | some b=>
      rw [e] at k
      refine ⟨_,rfl,iteF ?_⟩
      rw [if_neg (by simp),upd_id m.hc] at k
      exact k
end
end Mh
set_option Elab.async false
set_option linter.all false
set_option maxRecDepth 100000
set_option maxHeartbeats 1600000
namespace Mh
open PySem L2 PyProof.Rows Mx
def stkN (hs:List Hm) (cs:List Int):Nat→List Int
  | 0=>cs
  | n + 1=>match qfr hs n with | some b=>(stkN hs cs n).set n b | none=>stkN hs cs n
theorem ye2 (hs:List Hm) (cs:List Int):∀ n,(stkN hs cs n).length=cs.length
  | 0=>rfl
  | n + 1=>by
    have ih:=ye2 hs cs n
    unfold stkN
    split <;> simp [ih]
def qfk (hs:List Hm) (cs:List Int) (h:Hm):List Int:=if h.w="keeps"∧rd cs (h.cell 0)=h.bit 0 then putM hs cs (h.cell 1) (h.bit 1) else cs
theorem qhm (hs:List Hm) (cs:List Int) (h:Hm):(qfk hs cs h).length=cs.length:=by
  unfold qfk
  split
  · exact putM_len _ _ _ _
  · rfl
def yhl (hs:List Hm) (l:List Hm) (cs:List Int):List Int:=l.foldl (qfk hs) cs
theorem ygy (hs:List Hm) (l:List Hm) (cs:List Int):(yhl hs l cs).length=cs.length:=by
  induction l generalizing cs with
  | nil=>rfl
  | cons a l ih=>exact (ih _).trans (qhm _ _ _)
theorem yj4 {α β:Type} (f:β→α→β) (b:β) {l:List α} {i:Nat} {x:α} (h:l[i]?=some x):(l.take (i + 1)).foldl f b=f ((l.take i).foldl f b) x:=by
  rw [List.take_add_one,h,List.foldl_append]
  rfl
def qeo (hs:List Hm) (cs:List Int):List Int:=yhl hs hs (stkN hs cs cs.length)
theorem yhj (hs:List Hm) (cs:List Int):(qeo hs cs).length=cs.length:=(ygy _ _ _).trans (ye2 _ _ _)
def InR (hs:List Hm) (n:Nat):Prop:=∀ h∈hs,∀ c∈h.c,0≤c∧c < n
theorem InR.c0 {hs:List Hm} {n:Nat} (r:InR hs n) {h:Hm} (hh:h∈hs) {ns:List Str} (o:okH h ns):0≤h.cell 0∧h.cell 0 < n:=by
  refine r h hh _ ?_
  rcases qck o with ⟨a,hc⟩ | ⟨a,b,hc⟩ <;> (unfold Hm.cell; rw [hc]; simp)
theorem InR.c1 {hs:List Hm} {n:Nat} (r:InR hs n) {h:Hm} (hh:h∈hs) {a b:Int} (hc:h.c=[a,b]):0≤h.cell 1∧h.cell 1 < n:=by
  refine r h hh _ ?_
  unfold Hm.cell
  rw [hc]
  simp
theorem two_at {h:Hm} {a b:Int} {l:List V} (hc:h.c=[a,b]) (hr:h.r=l):hV h=.str h.w :: .int (h.cell 0) :: .int (h.cell 1) :: l:=by
  unfold hV Hm.cell
  rw [hc,hr]
  rfl
theorem dS {a b:Str}:decide (V.str a=V.str b)=decide (a=b):=by
  by_cases h:a=b
  · subst h; simp
  · rw [decide_eq_false h,decide_eq_false (fun z=>h (V.str.inj z))]
theorem dI {a b:Int}:decide (V.int a=V.int b)=decide (a=b):=by
  by_cases h:a=b
  · subst h; simp
  · rw [decide_eq_false h,decide_eq_false (fun z=>h (V.int.inj z))]
section
variable {P:Program} {w:World} {K:PySem.W.Frag} {mg:Str→Option Value} {base:Heap}
def yec:Sp:=fun vs H Q _=>∃ L C us hs cs,vs=[.ref L,.ref C]∧Mem H L C us hs cs∧InR hs cs.length∧cs.length≤64∧Q .non (upd H C (.lst ((qeo hs cs).map V.int)))
abbrev ydn:Stmt:=top 33
theorem qhd:FnScope ["harms","cells","cell","bit","harm"] ["harms","cells"] (yab ydn):=⟨rfl,rfl,rfl,by decide +kernel,rfl,by decide +kernel,by decide +kernel⟩
theorem yj6 (B:Bl mg) (qd0:Has P w K mg base 1 "stuck_bit" ["harms","cell"] ydj) (h_put:Has P w K mg base 2 "put" ["harms","cells","cell","bit"] sp_put) (F:FnAt K mg "settle" ydn ["harms","cells"]):Has P w K mg base 3 "settle" ["harms","cells"] yec:=by
  refine Has.of F qhd (fun vs H Q E h=>?_) (fun f cdv A outer s H vs Q E hr h=>?_)
  · obtain ⟨L,C,us,hs,cs,rfl,_⟩:=h
    rfl
  · obtain ⟨L,C,us,hs,cs,rfl,m,hi,hcl,k⟩:=h
    have sc:=qhd
    refine ⟨_,(qar (yfh PassesOwn.never rfl (yfj rfl (B.of rfl) (yaa (yae yal rfl (B.of rfl) boot_len (yaa (pv 1) yac)) yac)) (qaq (i:=2) sc.nd rfl (Or.inl rfl))
        (qar (yca (i:=3) sc.nd rfl (Or.inl rfl) (qak qd0 hr (yaa (pv 0) (yaa (pv 2) yac))))
        (yaj (ydg (yim (pc_notN (pv 3)))
          (yaj (qjh (pv 3) (qjg (pv 1) (pv 2) yf8)))
          qbr))))
      (yaj (yfh PassesOwn.never rfl (ycs (pv 0)) (qaq (i:=4) sc.nd rfl (Or.inl rfl))
        (yaj (ydg (PW.pt (qg3 (qbn ycz (ybq ybw (pv 4) qac (fun _ _=>rfl)) yan (yah _)) (ye8 (qbn ycz (ybq yaq (pv 1) (ybq ybw (pv 4) qac (fun _ _=>rfl)) (fun _ _=>rfl)) (ybq ybw (pv 4) qac (fun _ _=>rfl)) (yah _)))))
          (yaj (ydx (qak h_put hr (yhm (pv 0) (yhm (pv 1) (yaa (ybq ybw (pv 4) qac (fun _ _=>rfl)) (yaa (ybq ybw (pv 4) qac (fun _ _=>rfl)) yac)))))))
          qbr))))),?_⟩
    refine ⟨_,rfl,C,_,rfl,.inl (SqL.of m.hc),cs.length,(by rw [List.length_map]),(by omega),(by omega),ye6 (n:=cs.length) (fun i σ H2=>∃ (o2 o3:Option V),σ=[some (.ref L),some (.ref C),o2,o3,none]∧H2=upd H C (.lst ((stkN hs cs i).map V.int)))
      ⟨none,none,rfl,(upd_id m.hc).symm⟩ ?_ ?_⟩
    · rintro i σ H2 hlt ⟨o2,o3,rfl,rfl⟩
      have m2:=m.upd (stkN hs cs i)
      rw [Int.zero_add]
      refine ⟨_,rfl,_,rfl,L,us,hs,i,rfl,m2.hl,m2.hv,m2.ok,?_⟩
      cases e:qfr hs i with
      | none=>
        refine ⟨_,rfl,_,rfl,iteF ?_⟩
        exact ⟨_,_,rfl,by rw [stkN,e]⟩
      | some b=>
        refine ⟨_,rfl,_,rfl,iteT ?_⟩
        refine ⟨_,rfl,_,rfl,_,rfl,C,_,i,_,rfl,rfl,m2.hc,ixN_in (by omega) (by rw [List.length_map,ye2]; omega),?_⟩
        refine ⟨_,_,rfl,?_⟩
        rw [show optI (some b)=V.int b from rfl,map_set,qd6,stkN,e]
        rfl
    · rintro σ H2 ⟨o2,o3,rfl,rfl⟩
      have m2:=m.upd (stkN hs cs cs.length)
      refine ⟨_,rfl,L,rfl,⟨us,SqL.of m2.hl⟩,ycr (xs:=us) (fun i σ H2=>∃ (o4:Option V),σ=[some (.ref L),some (.ref C),o2,o3,o4]∧H2=upd H C (.lst ((yhl hs (hs.take i) (stkN hs cs cs.length)).map V.int)))
        ⟨none,rfl,rfl⟩ (fun i σ H2 _ ⟨_,_,h⟩=>by subst h; exact SqL.of (by rw [qaf m.ne]; exact m.hl)) ?_ ?_⟩
      · rintro i x σ H2 hx ⟨o4,rfl,rfl⟩
        have hlen:=(ygy hs (hs.take i) (stkN hs cs cs.length)).trans (ye2 hs cs cs.length)
        have m3:=m.upd (yhl hs (hs.take i) (stkN hs cs cs.length))
        have step:∀ g,hs[i]?=some g→yhl hs (hs.take (i + 1)) (stkN hs cs cs.length)=qfk hs (yhl hs (hs.take i) (stkN hs cs cs.length)) g:=fun g hg=>yj4 _ _ hg
        revert hlen m3 step
        generalize yhl hs (hs.take i) (stkN hs cs cs.length)=ds
        intro hlen m3 step
        obtain ⟨g,hg,a,rfl,ha⟩:=m3.hv.get hx
        have hgm:=List.mem_of_getElem? hg
        obtain ⟨ns,og⟩:=m.ok g hgm
        rw [step g hg]
        unfold qfk
        refine ⟨_,rfl,a,_,_,_,rfl,rfl,SqT.of ha,qal 0 rfl,rfl,_,rfl,?_⟩
        rw [dS]
        by_cases hw:g.w="keeps"
        · refine iteB (decide_eq_true hw) ?_
          obtain ⟨c1,c2,x1,x2,ec,er⟩:=og.sSets (qe1 (.inr hw))
          have hb0:g.bit 0=b2i x1:=by unfold Hm.bit; rw [er]; rfl
          have hb1:g.bit 1=b2i x2:=by unfold Hm.bit; rw [er]; rfl
          rw [← hb0,← hb1] at er
          have ht:=two_at ec er
          have c0:=hi.c0 hgm og
          have c1:=hi.c1 hgm ec
          rw [ht] at ha
          refine ⟨_,rfl,_,rfl,a,_,_,_,rfl,rfl,SqT.of ha,qal 1 rfl,C,_,_,_,rfl,rfl,SqL.of m3.hc,rd_at c0.1 (by omega),?_⟩
          refine ⟨_,rfl,a,_,_,_,rfl,rfl,SqT.of ha,qal 3 rfl,rfl,_,rfl,?_⟩
          rw [dI]
          by_cases hb:rd ds (g.cell 0)=g.bit 0
          · refine iteB (decide_eq_true hb) ?_
            refine ⟨_,rfl,_,rfl,_,rfl,a,_,_,_,rfl,rfl,SqT.of ha,qal 2 rfl,_,rfl,a,_,_,_,rfl,rfl,SqT.of ha,qal 4 rfl,L,C,us,hs,ds,g.cell 1,g.bit 1,rfl,m3,c1.1,by omega,?_⟩
            rw [qd6,if_pos ⟨hw,hb⟩]
            exact ⟨_,rfl,rfl⟩
          · refine iteN (decide_eq_false hb) ?_
            rw [if_neg (fun z=>hb z.2)]
            exact ⟨_,rfl,rfl⟩
        · refine iteN (decide_eq_false hw) ?_
          rw [if_neg (fun z=>hw z.1)]
          exact ⟨_,rfl,rfl⟩
      · rintro σ H2 ⟨o4,rfl,rfl⟩
        rw [m.hv.len,List.take_length]
        exact k
end
end Mh
set_option Elab.async false
set_option linter.all false
set_option maxRecDepth 100000
set_option maxHeartbeats 1600000
namespace Mh
open PySem L2 PyProof.Rows Mx
theorem eqS {a s:Str}:(eqV (.str a) (.str s)=true)=(s=a):=by
  show ((a == s)=true)=_
  rw [beq_iff_eq]
  exact propext eq_comm
end Mh
set_option Elab.async false
set_option linter.all false
set_option maxRecDepth 100000
set_option maxHeartbeats 1600000
set_option Elab.async false
set_option linter.all false
set_option maxRecDepth 100000
set_option maxHeartbeats 1600000
set_option Elab.async false
set_option linter.all false
set_option maxRecDepth 100000
set_option maxHeartbeats 1600000
set_option Elab.async false
set_option linter.all false
set_option maxRecDepth 100000
set_option maxHeartbeats 1600000
set_option Elab.async false
set_option linter.all false
set_option maxRecDepth 100000
set_option maxHeartbeats 1600000
set_option Elab.async false
set_option linter.all false
set_option maxRecDepth 100000
set_option maxHeartbeats 1600000
namespace Mh
open PySem L2 PyProof.Rows Mx
def bits (cs:List Int):Prop:=∀ c∈cs,∃ b,c=b2i b
section
variable {P:Program} {w:World} {K:PySem.W.Frag} {mg:Str→Option Value} {base:Heap}
def yfy:Sp:=fun vs H Q _=>∃ n:Int,vs=[.int n]∧1≤n∧n≤64∧Q (.bl true) H
abbrev ycj:Stmt:=top 44
theorem qds:FnScope ["thing"] ["thing"] (yab ycj):=⟨rfl,rfl,rfl,by decide +kernel,rfl,by decide +kernel,by decide +kernel⟩
theorem yi1 (qbj:∃ t,mg "MOST_CELLS" = some (.int 64 t)) (qap:Has P w K mg base 1 "is_whole" ["thing"] yb2) (F:FnAt K mg "is_size" ycj ["thing"]):Has P w K mg base 2 "is_size" ["thing"] yfy:=by
  refine Has.of F qds (fun vs H Q E h=>?_) (fun f cdv A outer s H vs Q E hr h=>?_)
  · obtain ⟨x,rfl,_⟩:=h
    rfl
  · obtain ⟨x,rfl,h0,h1,k⟩:=h
    have sc:=qds
    refine ⟨_,(yaj (qbc (yax (qak qap hr (yaa (pv 0) yac)) (yax (yar yew (pv 0) qac (yah _)) (qbg (yar op_le (pv 0) (qcu qbj) (yah _))))))),?_⟩
    refine ⟨_,rfl,x,rfl,_,rfl,iteT ?_⟩
    refine ⟨_,rfl,_,_,rfl,rfl,_,rfl,iteD (by omega) ?_⟩
    refine ⟨_,rfl,_,_,rfl,rfl,?_⟩
    show Q (.bl (decide (x≤64))) H
    rw [decide_eq_true h1]
    exact k
def ydf:Sp:=fun vs H Q _=>∃ C cs,vs=[.ref C,.int (cs.length:Nat)]∧H C=some (.lst (cs.map V.int))∧bits cs∧cs.length≤64∧∀ H',Same H H'→Q (.bl true) H'
abbrev qa7:Stmt:=top 45
theorem qbz:FnScope ["thing","size"] ["thing","size"] (yab qa7):=⟨rfl,rfl,rfl,by decide +kernel,rfl,by decide +kernel,by decide +kernel⟩
theorem qfg (B:Bl mg) (qcz:mg "all" = none) (ych:Has P w K mg base 2 "is_bit" ["thing"] qfj) (F:FnAt K mg "are_contents" qa7 ["thing","size"]):Has P w K mg base 3 "are_contents" ["thing","size"] ydf:=by
  refine Has.of F qbz (fun vs H Q E h=>?_) (fun f cdv A outer s H vs Q E hr h=>?_)
  · obtain ⟨C,cs,rfl,_⟩:=h
    rfl
  · obtain ⟨C,cs,rfl,hC,hb,hl,k⟩:=h
    have sc:=qbz
    refine ⟨_,(yaj (qbc (yax (yae ya8 rfl (B.of rfl) boot_isinstance (yaa (pv 0) (yaa (ybf (v:=.ty "list") rfl (B.of rfl) boot_list rfl) yac))) (yax (yar ycz (yae yal rfl (B.of rfl) boot_len (yaa (pv 0) yac)) (pv 1) (yah _)) (qbg (yae (yb9 rfl) rfl qcz ycb (yaa (qcl rfl (qbf rfl) (M:=["part"]) (ix:=[none]) (ycs (pv 0)) (fun _ _ _ _=>(qaq (i:=0) (show List.Nodup (["part"]:List Str) by decide +kernel) rfl (Or.inl rfl))) (fun _ _ _ _=>yc5) (fun _ _ _ _=>(qak ych hr (yaa (pv 0) yac)))) yac))))))),?_⟩
    refine ⟨_,rfl,_,_,_,_,rfl,.lst hC,rfl,_,rfl,iteT ?_⟩
    refine ⟨_,rfl,C,_,rfl,.inl (SqL.of hC),_,rfl,rfl,_,rfl,iteD (by rw [List.length_map]) ?_⟩
    refine ⟨_,rfl,C,rfl,⟨_,SqL.of hC⟩,fun D hD=>qdh (n:=cs.length) (fun i H'=>Same H H'∧H' D=some (.lst ((List.replicate i true).map V.bl))) ⟨(Same.refl H).upd hD,qab⟩ ?_ ?_⟩
    · rintro H3 ⟨s3,e3⟩
      refine ⟨⟨_,SqL.of (s3 _ _ hC),by simp⟩,?_⟩
      refine ⟨D,_,rfl,e3,?_⟩
      rw [show (List.replicate cs.length true).all id=true by simp]
      exact k _ s3
    · rintro i H3 hi ⟨s3,e3⟩
      refine ⟨⟨_,_,SqL.of (s3 _ _ hC),by rw [List.getElem?_map,List.getElem?_eq_getElem hi]; rfl⟩,?_⟩
      rintro x H4 ⟨rfl,hx⟩
      obtain ⟨c,hc,rfl⟩:=ycv (hx _ (SqL.of (s3 _ _ hC)))
      obtain ⟨b,rfl⟩:=hb c (List.mem_of_getElem? hc)
      refine ⟨qbb.set (qbb.refl _) rfl,yes ?_⟩
      refine ⟨_,rfl,b,rfl,fun H5 s5=>?_⟩
      refine ⟨_,s5 _ _ e3,ycl (by rw [List.length_map,List.length_replicate]; omega),(s3.trans s5).at hD,?_⟩
      rw [qab,List.replicate_succ',List.map_append]; rfl
def ybl:Sp:=fun vs H Q _=>∃ L us hs S C cs,vs=[.int (cs.length:Nat),.ref L,.ref C]∧H L=some (.lst us)∧HsV H us hs∧okHs hs S∧InR hs cs.length∧H C=some (.lst (cs.map V.int))∧bits cs∧1≤cs.length∧cs.length≤64∧∀ H',Same H H'→Q .non H'
abbrev ya0:Stmt:=top 46
theorem qbk:FnScope ["size","harms","contents","cells"] ["size","harms","contents"] (yab ya0):=⟨rfl,rfl,rfl,by decide +kernel,rfl,by decide +kernel,by decide +kernel⟩
theorem qem (B:Bl mg) (yel:Has P w K mg base 7 "cells_of" ["harms"] yfb) (yfe:Has P w K mg base 2 "is_size" ["thing"] yfy) (ycu:Has P w K mg base 3 "are_contents" ["thing","size"] ydf) (F:FnAt K mg "look_at_memory" ya0 ["size","harms","contents"]):Has P w K mg base 8 "look_at_memory" ["size","harms","contents"] ybl:=by
  refine Has.of F qbk (fun vs H Q E h=>?_) (fun f cdv A outer s H vs Q E hr h=>?_)
  · obtain ⟨L,us,hs,S,C,cs,rfl,_⟩:=h
    rfl
  · obtain ⟨L,us,hs,S,C,cs,rfl,hL,hv,ok,hi,hC,hb,hl1,hl2,k⟩:=h
    have sc:=qbk
    refine ⟨_,(qar (yca (i:=3) sc.nd rfl (Or.inl rfl) (qak yel hr (yaa (pv 1) yac)))
      (qar (ydg (ydt (qdb (qak yfe hr (yaa (pv 0) yac))))
        (yaj ycq)
        qbr)
      (qar (ydg (PW.pt (qg3 (qbn yfv (yae yal rfl (B.of rfl) boot_len (yaa (pv 3) yac)) qac (yah _)) (ye8 (qbn yew (ybq yaq (pv 3) (qht yfl qac) (fun _ _=>rfl)) (pv 0) (yah _)))))
        (yaj ycq)
        qbr)
      (yaj (ydg (ydt (qdb (qak ycu hr (yaa (pv 2) (yaa (pv 0) yac)))))
        (yaj ycq)
        qbr))))),?_⟩
    refine ⟨_,rfl,L,us,hs,S,rfl,hL,hv,ok,fun D ns H1 s1 hD eD hpm hso=>?_⟩
    refine ⟨_,rfl,_,rfl,by omega,by omega,_,rfl,iteF ?_⟩
    refine ⟨_,rfl,D,_,rfl,.inl (SqL.of eD),_,_,rfl,rfl,_,rfl,?_⟩
    have fin:∀ (b:Bool),b=true→if (!b)=true then False else True:=by intro b hb; subst hb; simp
    by_cases hn:0 < ns.length
    · refine iteD (by rw [List.length_map]; omega) ?_
      obtain ⟨x,hx⟩:∃ x,ns=ns.dropLast++[x]:=⟨ns.getLast (by intro z; rw [z] at hn; simp at hn),(List.dropLast_concat_getLast _).symm⟩
      have hxm:x∈allC hs:=(yeb _ x).mp (hpm.mem_iff.mp (by rw [hx]; simp))
      have hx2:x < cs.length:=by
        unfold allC at hxm
        obtain ⟨h,hh,hc⟩:=List.mem_flatMap.mp hxm
        exact (hi h hh x hc).2
      refine ⟨_,rfl,_,rfl,D,_,_,_,rfl,rfl,SqL.of eD,(show atI (ns.map V.int) (-1)=some (.int x) by rw [hx,List.map_append]; exact qh6 _ _),_,rfl,_,_,rfl,rfl,_,rfl,qdi (by omega) ?_⟩
      refine ⟨_,rfl,_,rfl,C,cs,rfl,s1 _ _ hC,hb,hl2,fun H2 s2=>⟨_,rfl,iteF ?_⟩⟩
      exact k _ (s1.trans s2)
    · refine qdi (by rw [List.length_map]; omega) ?_
      refine ⟨_,rfl,_,rfl,C,cs,rfl,s1 _ _ hC,hb,hl2,fun H2 s2=>⟨_,rfl,iteF ?_⟩⟩
      exact k _ (s1.trans s2)
end
end Mh
set_option Elab.async false
set_option linter.all false
set_option maxRecDepth 100000
set_option maxHeartbeats 4000000
namespace Mh
open PySem L2 PyProof.Rows Mx
def Dig (ds zs:List Int):Prop:=ds.length=zs.length∧∀ (i:Nat) d z,ds[i]?=some d→zs[i]?=some z→0≤d∧d < z
theorem Dig.get {ds zs:List Int} (h:Dig ds zs) {i:Nat} {z:Int} (hz:zs[i]?=some z):∃ d,ds[i]?=some d∧0≤d∧d < z:=by
  have hi:i < ds.length:=by rw [h.1]; exact (List.getElem?_eq_some_iff.mp hz).1
  exact ⟨ds[i],by simp [hi],h.2 i _ z (by simp [hi]) hz⟩
theorem qe6 {ds:List Int} {i:Nat} {v:V} (h:(ds.map V.int)[i]?=some v):∃ d,ds[i]?=some d∧v=.int d:=ycv h
theorem qd4 {ds:List Int} {i:Nat} {d:Int} (h:ds[i]?=some d):(ds.map V.int)[i]?=some (.int d):=by rw [List.getElem?_map,h]; rfl
section
variable {P:Program} {w:World} {K:PySem.W.Frag} {mg:Str→Option Value} {base:Heap}
def qgp:Sp:=fun vs H Q _=>∃ c t a zs,vs=[.int c,.int t,.ref a]∧H a=some (.lst (zs.map V.int))∧zs.length≤130∧(∀ z∈zs,0 < z∧z≤18446744073709551616)∧0≤t∧t≤1000000∧
  ∀ p ds H',Same H H'→H p=none→H' p=some (.lst (ds.map V.int))→Dig ds zs→Q (.ref p) H'
abbrev qbl:Stmt:=top 57
theorem ydw:FnScope ["_law_cell","_law_turn","_law_sizes","_law_number","_law_wide","_law_seed","_law_found","_law_k","_law_size"] ["_law_cell","_law_turn","_law_sizes"] (yab qbl):=⟨rfl,rfl,rfl,by decide +kernel,rfl,by decide +kernel,by decide +kernel⟩
theorem yi9 (B:Bl mg) (F:FnAt K mg "_law_digits" qbl ["_law_cell","_law_turn","_law_sizes"]):Has P w K mg base 1 "_law_digits" ["_law_cell","_law_turn","_law_sizes"] qgp:=by
  refine Has.of F ydw (fun vs H Q E h=>?_) (fun f cdv A outer s H vs Q E hr h=>?_)
  · obtain ⟨c,t,a,zs,rfl,_⟩:=h
    rfl
  · obtain ⟨c,t,a,zs,rfl,ha,hl,hz,ht0,ht1,k⟩:=h
    have sc:=ydw
    refine ⟨_,(qar (yca (i:=3) sc.nd rfl (Or.inl rfl) (yae call_abs rfl (B.of rfl) boot_abs (yaa (pv 0) yac)))
      (qar (yca (i:=4) sc.nd rfl (Or.inl rfl) (yar yew (pv 3) (ycn qip qac qac) (yah _)))
      (qar (yca (i:=5) sc.nd rfl (Or.inl rfl) (ycn qdg (ycn ycy (pv 3) qac) (ycn ydb qac (pv 1))))
      (qar (yca (i:=6) sc.nd rfl (Or.inl rfl) (qd7 yac))
      (qar (yfh PassesOwn.never rfl (qel rfl (B.of rfl) (yaa (pv 2) yac)) (yfz rfl (qaz (qaq (i:=7) sc.nd rfl (Or.inl rfl)) (qaz (qaq (i:=8) sc.nd rfl (Or.inl rfl)) qct)))
        (yaj (ydg (PW.pt (qg3 (qdb (pv 4)) (ye8 (qbn yfv (pv 3) qac (yah _)))))
          (qar (ydx (qgj PySem.F.plainAttrs_list PySem.F.slot_list_append PySem.F.type_list_append qc0 (pv 6) (yaa (ycn ycy (pv 3) (pv 8)) yac)))
          (yaj (yca (i:=3) sc.nd rfl (Or.inl rfl) (ycn op_fdivB (pv 3) (pv 8)))))
          (qar (yca (i:=5) sc.nd rfl (Or.inl rfl) (ycn ycy (ycn qip (ycn qdg (pv 5) (ycn ydb qac (ycn qdg (pv 7) qac))) qac) qac))
          (yaj (ydx (qgj PySem.F.plainAttrs_list PySem.F.slot_list_append PySem.F.type_list_append qc0 (pv 6) (yaa (ycn ycy (ycn yki (pv 5) qac) (pv 8)) yac))))))))
      (yaj (qbc (pv 6)))))))),?_⟩
    refine ⟨_,rfl,c,rfl,?_⟩
    refine ⟨_,rfl,10,18,rfl,rfl,⟨by decide,by decide,by decide⟩,_,_,rfl,rfl,?_⟩
    refine ⟨_,rfl,_,_,rfl,rfl,(by show (0:Int) < 2147483647; decide),_,rfl,_,_,rfl,rfl,.inl ⟨by decide,by decide⟩,_,_,rfl,rfl,?_⟩
    refine ⟨Nat.zero_le _,fun p hp=>?_⟩
    generalize hnum:(if c < 0 then -c else c)=num
    generalize hwd:decide ((10:Int) ^ (18:Int).toNat≤num)=wd
    have hs0:0≤num % 2147483647 + 7919 * t:=by have:=Int.emod_nonneg num (show (2147483647:Int)≠0 by decide); omega
    have hs1:num % 2147483647 + 7919 * t < 2 ^ 40:=by have:=Int.emod_lt_of_pos num (show (0:Int) < 2147483647 by decide); omega
    refine ⟨_,rfl,a,_,rfl,SqL.of (by rw [qaf (qah ha hp)]; exact ha),yea (xs:=zs.map V.int) (fun i σ H2=>∃ (nu seed:Int) (ds:List Int) (q1 q2:Option V),σ=[some (.int c),some (.int t),some (.ref a),some (.int nu),some (.bl wd),some (.int seed),some (.ref p),q1,q2]∧
      Same H H2∧H2 p=some (.lst (ds.map V.int))∧ds.length=i∧(∀ (j:Nat) d z,ds[j]?=some d→zs[j]?=some z→0≤d∧d < z)∧0≤seed∧seed < 2 ^ 40) ?_ (fun i σ H2 _ ⟨_,_,_,_,_,_,s2,_⟩=>SqL.of (s2 _ _ ha)) ?_ ?_⟩
    · exact ⟨num,_,[],none,none,by rw [← hwd]; rfl,(Same.refl H).upd hp,qab,rfl,fun j d z h=>by simp at h,hs0,hs1⟩
    · rintro i x pp σ H2 hx ⟨nu,seed,ds,q1,q2,rfl,s2,hp2,hln,hds,hse0,hse1⟩ hpp
      obtain ⟨z,hzi,rfl⟩:=qe6 hx
      obtain ⟨hz0,hz1⟩:=hz z (List.mem_of_getElem? hzi)
      have hil:i < zs.length:=(List.getElem?_eq_some_iff.mp hzi).1
      have s3:Same H (upd H2 pp (.tup [.int i,.int z])):=s2.upd hpp
      have hp3:upd H2 pp (.tup [.int i,.int z]) p=some (.lst (ds.map V.int)):=by rw [qaf (qah hp2 hpp)]; exact hp2
      have fin:∀ (d:Int),0≤d→d < z→∀ (j:Nat) d' z',(ds++[d])[j]?=some d'→zs[j]?=some z'→0≤d'∧d' < z':=fun d h0 h1 j d' z' hj hj2=>by
        by_cases hlt:j < ds.length
        · rw [List.getElem?_append_left hlt] at hj
          exact hds j d' z' hj hj2
        · rw [List.getElem?_append_right (by omega)] at hj
          have hj0:j - ds.length=0:=by
            cases q:j - ds.length with
            | zero=>rfl
            | succ n=>rw [q] at hj; simp at hj
          rw [hj0] at hj
          have e1:d=d':=by simpa using hj
          have e2:j=i:=by omega
          subst e1 e2
          rw [hzi] at hj2; cases hj2
          exact ⟨h0,h1⟩
      refine ⟨pp,_,rfl,SqT.of qab,rfl,_,_,rfl,_,_,rfl,rfl,?_⟩
      refine ⟨_,rfl,wd,rfl,?_⟩
      cases wd with
      | true=>
        refine iteT ⟨_,rfl,_,_,rfl,rfl,_,rfl,?_⟩
        by_cases hn:0 < nu
        · refine iteD hn ?_
          refine ⟨_,rfl,.inl ⟨rfl,_,SqL.of hp3⟩,_,rfl,_,rfl,_,_,rfl,rfl,hz0,p,_,_,rfl,rfl,hp3,ycl (by rw [List.length_map]; omega),?_⟩
          refine ⟨_,rfl,_,rfl,_,_,rfl,rfl,⟨hz0,hz1⟩,?_⟩
          exact ⟨_,seed,ds++[nu % z],_,_,rfl,s3.at hp,by rw [List.map_append]; exact qab,by simp [hln],fin _ (Int.emod_nonneg _ (by omega)) (Int.emod_lt_of_pos _ hz0),hse0,hse1⟩
        · refine iteN (decide_eq_false hn) ?_
          refine ⟨_,rfl,_,rfl,_,_,rfl,rfl,_,_,rfl,rfl,.inl ⟨by decide,by decide⟩,_,_,rfl,rfl,_,_,rfl,rfl,⟨by decide,by decide,by omega⟩,_,_,rfl,rfl,(by show (0:Int) < 2147483587; decide),?_⟩
          have g0:=Int.emod_nonneg ((seed + 104729 * ((i:Int) + 1)) ^ (2:Int).toNat) (show (2147483587:Int)≠0 by decide)
          have g1:=Int.emod_lt_of_pos ((seed + 104729 * ((i:Int) + 1)) ^ (2:Int).toNat) (show (0:Int) < 2147483587 by decide)
          generalize hse':(seed + 104729 * ((i:Int) + 1)) ^ (2:Int).toNat % 2147483587=seed' at g0 g1
          refine ⟨_,rfl,.inl ⟨rfl,_,SqL.of hp3⟩,_,rfl,_,_,rfl,rfl,⟨by decide,by decide⟩,_,rfl,_,_,rfl,rfl,hz0,p,_,_,rfl,rfl,hp3,ycl (by rw [List.length_map]; omega),?_⟩
          exact ⟨nu,seed',ds++[seed' / 16 % z],_,_,by rw [← hse']; rfl,s3.at hp,by rw [List.map_append,← hse']; exact qab,by simp [hln],fin _ (Int.emod_nonneg _ (by omega)) (Int.emod_lt_of_pos _ hz0),g0,by omega⟩
      | false=>
        refine iteF (iteF ?_)
        refine ⟨_,rfl,_,rfl,_,_,rfl,rfl,_,_,rfl,rfl,.inl ⟨by decide,by decide⟩,_,_,rfl,rfl,_,_,rfl,rfl,⟨by decide,by decide,by omega⟩,_,_,rfl,rfl,(by show (0:Int) < 2147483587; decide),?_⟩
        have g0:=Int.emod_nonneg ((seed + 104729 * ((i:Int) + 1)) ^ (2:Int).toNat) (show (2147483587:Int)≠0 by decide)
        have g1:=Int.emod_lt_of_pos ((seed + 104729 * ((i:Int) + 1)) ^ (2:Int).toNat) (show (0:Int) < 2147483587 by decide)
        generalize hse':(seed + 104729 * ((i:Int) + 1)) ^ (2:Int).toNat % 2147483587=seed' at g0 g1
        refine ⟨_,rfl,.inl ⟨rfl,_,SqL.of hp3⟩,_,rfl,_,_,rfl,rfl,⟨by decide,by decide⟩,_,rfl,_,_,rfl,rfl,hz0,p,_,_,rfl,rfl,hp3,ycl (by rw [List.length_map]; omega),?_⟩
        exact ⟨nu,seed',ds++[seed' / 16 % z],_,_,by rw [← hse']; rfl,s3.at hp,by rw [List.map_append,← hse']; exact qab,by simp [hln],fin _ (Int.emod_nonneg _ (by omega)) (Int.emod_lt_of_pos _ hz0),g0,by omega⟩
    · rintro σ H2 ⟨nu,seed,ds,q1,q2,rfl,s2,hp2,hln,hds,_,_⟩
      rw [List.length_map] at hln
      exact ⟨_,rfl,k p ds H2 s2 hp hp2 ⟨hln,hds⟩⟩
end
end Mh
set_option Elab.async false
set_option linter.all false
set_option maxRecDepth 100000
set_option maxHeartbeats 4000000
namespace Mh
open PySem L2 PyProof.Rows Mx
def fsM (L Cc:Addr):List (Str×V):=[("harms",.ref L),("cells",.ref Cc)]
structure CM (K:PySem.W.Frag) (C:Addr):Prop where
  c:Cls K C
  nh:qdu K C "harms"
  nc:qdu K C "cells"
structure MemO (H:Hp) (C m L Cc:Addr) (us:List V) (hs:List Hm) (cs:List Int):Prop where
  o:∃ dx,H m=some (.ins C dx (fsM L Cc))
  m:Mem H L Cc us hs cs
theorem lk_h {L Cc:Addr}:(fsM L Cc).lookup ("harms" : Str)=some (V.ref L):=by
  unfold fsM
  rw [List.lookup_cons,show (("harms" : Str) == "harms")=true by decide +kernel]
theorem lk_c {L Cc:Addr}:(fsM L Cc).lookup ("cells" : Str)=some (V.ref Cc):=by
  unfold fsM
  rw [List.lookup_cons,show (("cells" : Str) == "harms")=false by decide +kernel,List.lookup_cons,show (("cells" : Str) == "cells")=true by decide +kernel]
theorem lk_n {L Cc:Addr} {f:Str} (h1:(f == ("harms" : Str))=false:=by decide +kernel) (h2:(f == ("cells" : Str))=false:=by decide +kernel):(fsM L Cc).lookup f=none:=by
  unfold fsM
  rw [List.lookup_cons,h1,List.lookup_cons,h2]
  rfl
section
variable {P:Program} {w:World} {K:PySem.W.Frag} {mg:Str→Option Value} {base:Heap} {C:Addr}
abbrev yak:Stmt:=ydi (top 48) 1
theorem qbo:FnScope ["self","address"] ["self","address"] (yab yak):=⟨rfl,rfl,rfl,by decide +kernel,rfl,by decide +kernel,by decide +kernel⟩
abbrev ybk:Stmt:=top 47
theorem qdx:FnScope ["thing"] ["thing"] (yab ybk):=⟨rfl,rfl,rfl,by decide +kernel,rfl,by decide +kernel,by decide +kernel⟩
def yf0 (C:Addr):Sp:=fun vs H Q _=>∃ m L Cc us hs cs,vs=[.ref m]∧MemO H C m L Cc us hs cs∧∀ D,H D=none→Q (.ref D) (upd H D (.lst (cs.map V.int)))
abbrev qa4:Stmt:=ydi (top 48) 4
theorem qdf:FnScope ["self"] ["self"] (yab qa4):=⟨rfl,rfl,rfl,by decide +kernel,rfl,by decide +kernel,by decide +kernel⟩
theorem yix (B:Bl mg) (cm:CM K C) (F:yb0 K C "holds" "Memory.holds" qa4 ["self"]):HasM P w K mg base C 1 "holds" ["self"] (yf0 C):=by
  refine HasM.ofQ F qdf (fun vs H Q E h=>?_) (fun f cdv A outer s H vs Q E hr h=>?_)
  · obtain ⟨m,L,Cc,us,hs,cs,rfl,_⟩:=h
    rfl
  · obtain ⟨m,L,Cc,us,hs,cs,rfl,⟨⟨dx,ho⟩,mm⟩,k⟩:=h
    have sc:=qdf
    refine ⟨_,(qai rfl (qae (yao (qbi qbs rfl (B.of rfl) boot_list (qir (ydk (qaa (pv 0)) rfl) qad))))),?_⟩
    exact ⟨_,rfl,m,C,dx,_,_,rfl,ho,cm.c,cm.nc,lk_c,Cc,_,rfl,.inl (SqL.of mm.hc),k⟩
def qcy (C:Addr):Sp:=fun vs H Q _=>∃ (x dx L0 C0:Addr) (us:List V) (hs:List Hm) (S cs:List Int),vs=[.ref x,.int (cs.length:Nat),.ref L0,.ref C0]∧H x=some (.ins C dx [])∧H L0=some (.lst us)∧HsV H us hs∧okHs hs S∧InR hs cs.length∧H C0=some (.lst (cs.map V.int))∧bits cs∧1≤cs.length∧cs.length≤64∧
  ∀ (L Cc:Addr) (H':Hp),(∀ b u,b≠x→H b=some u→H' b=some u)→H L=none→H Cc=none→MemO H' C x L Cc us hs (qeo hs cs)→Q .non H'
abbrev yam:Stmt:=ydi (top 48) 0
theorem yay:FnScope ["self","size","harms","contents"] ["self","size","harms","contents"] (yab yam):=⟨rfl,rfl,rfl,by decide +kernel,rfl,by decide +kernel,by decide +kernel⟩
theorem yj3 (B:Bl mg) (cm:CM K C) (qa2:Has P w K mg base 8 "look_at_memory" ["size","harms","contents"] ybl) (yd8:Has P w K mg base 3 "settle" ["harms","cells"] yec) (F:yb0 K C "__init__" "Memory.__init__" yam ["self","size","harms","contents"]):HasM P w K mg base C 9 "__init__" ["self","size","harms","contents"] (qcy C):=by
  refine HasM.ofQ F yay (fun vs H Q E h=>?_) (fun f cdv A outer s H vs Q E hr h=>?_)
  · obtain ⟨x,dx,L0,C0,us,hs,S,cs,rfl,_⟩:=h
    rfl
  · obtain ⟨x,dx,L0,C0,us,hs,S,cs,rfl,hx,hL,hv,ok,hi,hC,hb,l1,l64,k⟩:=h
    have sc:=yay
    refine ⟨_,(qai rfl (yad (ya6 (yai qa2 hr (yaf (qaa (pv 1)) (yaf (qaa (pv 2)) (yaf (qaa (pv 3)) qad)))))
      (yad (yfi (qaa (pv 0)) (qbi qbs rfl (B.of rfl) boot_list (yaf (qaa (pv 2)) qad)) rfl)
      (yad (yfi (qaa (pv 0)) (qbi qbs rfl (B.of rfl) boot_list (yaf (qaa (pv 3)) qad)) rfl)
      (qae (ya6 (yai yd8 hr (qir (ydk (qaa (pv 0)) rfl) (qir (ydk (qaa (pv 0)) rfl) qad))))))))),?_⟩
    refine ⟨_,rfl,_,rfl,_,rfl,L0,us,hs,S,C0,cs,rfl,hL,hv,ok,hi,hC,hb,l1,l64,fun H1 s1=>?_⟩
    refine ⟨_,rfl,L0,_,rfl,.inl (SqL.of (s1 _ _ hL)),fun L n1=>?_⟩
    have s2:Same H1 (upd H1 L (.lst us)):=(Same.refl H1).upd n1
    have f2:upd H1 L (.lst us) L=some (.lst us):=qab
    revert s2 f2
    generalize upd H1 L (.lst us)=H2
    intro s2 f2
    have s12:=s1.trans s2
    refine ⟨_,rfl,x,C,dx,_,rfl,s12 _ _ hx,cm.c,cm.nh,by simp,?_⟩
    have nLx:L≠x:=fun z=>by subst z; rw [s1 _ _ hx] at n1; cases n1
    have u3:∀ b u,b≠x→H2 b=some u→upd H2 x (.ins C dx (putF "harms" (.ref L) [])) b=some u:=fun b u h e=>by rw [qaf h]; exact e
    have f3:upd H2 x (.ins C dx (putF "harms" (.ref L) [])) x=some (.ins C dx [("harms",.ref L)]):=qab
    revert u3 f3
    generalize upd H2 x (.ins C dx (putF "harms" (.ref L) []))=H3
    intro u3 f3
    have nx:∀ {b:Addr} {xs:List V},H b=some (.lst xs)→b≠x:=fun e z=>by subst z; rw [hx] at e; cases e
    refine ⟨_,rfl,C0,_,rfl,.inl (SqL.of (u3 _ _ (nx hC) (s12 _ _ hC))),fun Cc n4=>?_⟩
    have nCx:Cc≠x:=fun z=>by subst z; rw [f3] at n4; cases n4
    have nLC:L≠Cc:=fun z=>by subst z; rw [u3 _ _ nLx f2] at n4; cases n4
    have s4:Same H3 (upd H3 Cc (.lst (cs.map V.int))):=(Same.refl H3).upd n4
    have f4:upd H3 Cc (.lst (cs.map V.int)) Cc=some (.lst (cs.map V.int)):=qab
    revert s4 f4
    generalize upd H3 Cc (.lst (cs.map V.int))=H4
    intro s4 f4
    refine ⟨_,rfl,x,C,dx,_,rfl,s4 _ _ f3,cm.c,cm.nc,by simp,?_⟩
    have u5:∀ b u,b≠x→H4 b=some u→upd H4 x (.ins C dx (putF "cells" (.ref Cc) [("harms",.ref L)])) b=some u:=fun b u h e=>by rw [qaf h]; exact e
    have f5:upd H4 x (.ins C dx (putF "cells" (.ref Cc) [("harms",.ref L)])) x=some (.ins C dx (fsM L Cc)):=by
      rw [qab]
      have:putF "cells" (V.ref Cc) [("harms",.ref L)]=fsM L Cc:=by
        unfold fsM putF
        rw [if_neg (by decide +kernel)]
        rfl
      rw [this]
    revert u5 f5
    generalize upd H4 x (.ins C dx (putF "cells" (.ref Cc) [("harms",.ref L)]))=H5
    intro u5 f5
    have hc0:H Cc=none:=by
      cases e:H Cc with
      | none=>rfl
      | some u=>have:=u3 _ _ nCx (s12 _ _ e); rw [n4] at this; cases this
    have hl0:H L=none:=s1.free n1
    have up:∀ b u,b≠x→H b=some u→H5 b=some u:=fun b u h e=>u5 _ _ h (s4 _ _ (u3 _ _ h (s12 _ _ e)))
    have m5:Mem H5 L Cc us hs cs:=⟨nLC,u5 _ _ nLx (s4 _ _ (u3 _ _ nLx f2)),⟨hv.len,fun i v h a b=>by
      obtain ⟨z,e,hz⟩:=hv.at_ i v h a b
      exact ⟨z,e,up _ _ (fun q=>by subst q; rw [hx] at hz; cases hz) hz⟩⟩,ok.ok,u5 _ _ nCx f4⟩
    refine ⟨_,rfl,x,C,dx,_,_,rfl,f5,cm.c,cm.nh,lk_h,_,rfl,x,C,dx,_,_,rfl,f5,cm.c,cm.nc,lk_c,L,Cc,us,hs,cs,rfl,m5,hi,l64,?_⟩
    refine k L Cc _ (fun b u h e=>?_) hl0 hc0 ⟨⟨dx,?_⟩,m5.upd _⟩
    · rw [qaf (fun z=>by subst z; rw [hc0] at e; cases e)]
      exact up b u h e
    · rw [qaf (fun z=>nCx z.symm)]
      exact f5
end
end Mh
set_option Elab.async false
set_option linter.all false
set_option maxRecDepth 100000
set_option maxHeartbeats 4000000
namespace Mh
open PySem L2 PyProof.Rows Mx
def yg9 (cs:List Int):PyData:=.list (cs.map PyData.int)
theorem qgd {H:Hp}:∀ (cs:List Int),AtAll H (cs.map V.int) (cs.map PyData.int)
  | []=>.nil
  | c :: r=>.cons (.int c) (qgd r)
theorem qek {H:Hp} {p:Addr} {cs:List Int} (h:H p=some (.lst (cs.map V.int))):At H (.ref p) (yg9 cs):=.lst h (qgd cs)
theorem qh3:∀ (cs:List Int),PyData.canLayAll0 (cs.map PyData.int)=true
  | []=>rfl
  | c :: r=>by show (true && _)=true; rw [qh3 r]; rfl
theorem qcm (cs:List Int):(yg9 cs).canLay0=true:=qh3 cs
theorem qeh (cs:List Int):(yg9 cs).depth≤60:=by
  have:=yc6 (n:=0) (xs:=cs.map PyData.int) fun x hx=>by
    obtain ⟨c,_,rfl⟩:=List.mem_map.mp hx
    simp [PyData.depth]
  simp only [yg9,PyData.depth]
  omega
theorem yia (l:List Int):PyData.eqv (yg9 l) (yg9 l)=true:=SeqAt.eqv_refl _ (qcm l)
structure Spr (ns:List Int) (n:Int):Prop where
  up:ns.Pairwise (· < ·)
  rg:∀ x∈ns,0≤x∧x < n
  le:ns.length≤8
theorem yfr {ns:List Int} (h:ns.Pairwise (· < ·)):uniq ns=ns:=yek (h.imp fun h=>by omega)
section
variable {P:Program} {w:World} {K:PySem.W.Frag} {mg:Str→Option Value} {base:Heap}
def yio:Sp:=fun vs H Q _=>∃ i:Int,vs=[.int i]∧1≤i∧i≤8∧Q (.bl true) H
abbrev qb7:Stmt:=top 51
theorem qc4:FnScope ["thing"] ["thing"] (yab qb7):=⟨rfl,rfl,rfl,by decide +kernel,rfl,by decide +kernel,by decide +kernel⟩
theorem ok_count (ydy:∃ t,mg "MOST_ROWS" = some (.int 8 t)) (qap:Has P w K mg base 1 "is_whole" ["thing"] yb2) (F:FnAt K mg "is_count" qb7 ["thing"]):Has P w K mg base 2 "is_count" ["thing"] yio:=by
  refine Has.ofQ F qc4 (fun vs H Q E h=>?_) (fun f cdv A outer s H vs Q E hr h=>?_)
  · obtain ⟨i,rfl,_⟩:=h
    rfl
  · obtain ⟨i,rfl,h1,h2,k⟩:=h
    have sc:=qc4
    refine ⟨_,(qai rfl (qae (yao (qaa (yax (qak qap hr (yaa (pv 0) yac)) (yax (yar yew (pv 0) qac (yah _)) (qbg (yar op_le (pv 0) (qcu ydy) (yah _))))))))),?_⟩
    refine ⟨_,rfl,i,rfl,_,rfl,iteT ?_⟩
    refine ⟨_,rfl,_,_,rfl,rfl,_,rfl,iteD (by omega) ?_⟩
    refine ⟨_,rfl,_,_,rfl,rfl,?_⟩
    show Q (.bl (decide (i≤8))) H
    rw [decide_eq_true h2]
    exact k
def qeb:Sp:=fun vs H Q _=>∃ L ns n,vs=[.ref L,.int n]∧H L=some (.lst (ns.map V.int))∧Spr ns n∧∀ H',Same H H'→Q (.bl true) H'
abbrev ybh:Stmt:=top 52
theorem qci:FnScope ["thing","count"] ["thing","count"] (yab ybh):=⟨rfl,rfl,rfl,by decide +kernel,rfl,by decide +kernel,by decide +kernel⟩
theorem yga (B:Bl mg) (qcz:mg "all" = none) (qb2:mg "set" = none) (qap:Has P w K mg base 1 "is_whole" ["thing"] yb2) (F:FnAt K mg "are_spares" ybh ["thing","count"]):Has P w K mg base 2 "are_spares" ["thing","count"] qeb:=by
  refine Has.ofQ F qci (fun vs H Q E h=>?_) (fun f cdv A outer s H vs Q E hr h=>?_)
  · obtain ⟨L,ns,n,rfl,_⟩:=h
    rfl
  · obtain ⟨L,ns,n,rfl,hL,sp,k⟩:=h
    have sc:=qci
    refine ⟨_,(qai rfl (yad (ya2 (QW.pt (yd2 (ybv (yba (qa8 ya8 rfl (B.of rfl) boot_isinstance (yaf (qaa (pv 0)) (yaf (qaa (ybf (v:=.ty "list") rfl (B.of rfl) boot_list rfl)) qad))))) (qcw (ybv (yba (qa8 (yb9 rfl) rfl qcz ycb (qa_lc (qaa (qcl rfl (qbf rfl) (M:=["part"]) (ix:=[none]) (ycs (pv 0)) (fun _ _ _ _=>(qaq (i:=0) (show List.Nodup (["part"]:List Str) by decide +kernel) rfl (Or.inl rfl))) (fun _ _ _ _=>yc5) (fun _ _ _ _=>(qak qap hr (yaa (pv 0) yac))))) qad)))))))
        (qae (yao (qaa yc2)))
        qat)
      (qae (yao (qaa (yax (yar (qkt hr) (pv 0) (yae (qcb rfl) rfl (B.of rfl) qcd (yaa (qco (qb0 rfl) rfl qb2 qbv (yaa (pv 0) yac)) yac)) (yah _)) (qbg (yae (yb9 rfl) rfl qcz ycb (yaa (qcl rfl (qbf rfl) (M:=["part","count"]) (ix:=[none,some 1]) (ycs (pv 0)) (fun _ _ _ _=>(qaq (i:=0) (show List.Nodup (["part","count"]:List Str) by decide +kernel) rfl (Or.inl rfl))) (fun _ _ _ _=>yc5) (fun _ _ _ _=>(yax (yar yew (pv 0) qac (yah _)) (qbg (yar qg9 (pv 0) (pv 1) (yah _)))))) yac))))))))),?_⟩
    have le:=sp.le
    refine ⟨_,rfl,_,_,_,_,rfl,.lst hL,rfl,_,rfl,iteN rfl ?_⟩
    refine ⟨_,rfl,L,rfl,⟨_,SqL.of hL⟩,fun D hD=>qdh (n:=ns.length) (fun i H'=>Same H H'∧H' D=some (.lst ((List.replicate i true).map V.bl))) ⟨(Same.refl H).upd hD,qab⟩ ?_ ?_⟩
    rotate_left
    · rintro i H3 hi ⟨s3,e3⟩
      refine ⟨⟨_,_,SqL.of (s3 _ _ hL),by rw [List.getElem?_map,List.getElem?_eq_getElem hi]; rfl⟩,?_⟩
      rintro x H4 ⟨rfl,hx⟩
      obtain ⟨c,hc,rfl⟩:=ycv (hx _ (SqL.of (s3 _ _ hL)))
      refine ⟨qbb.set (qbb.refl _) rfl,yes ?_⟩
      refine ⟨_,rfl,c,rfl,?_⟩
      refine ⟨_,e3,ycl (by rw [List.length_map,List.length_replicate]; omega),s3.at hD,?_⟩
      rw [qab,List.replicate_succ',List.map_append]; rfl
    · rintro H3 ⟨s3,e3⟩
      refine ⟨⟨_,SqL.of (s3 _ _ hL),by simp⟩,?_⟩
      refine ⟨D,_,rfl,e3,_,rfl,iteN (by simp) ?_⟩
      have hL3:=s3 _ _ hL
      refine ⟨_,rfl,_,rfl,L,_,rfl,hL3,by omega,fun q hq=>?_⟩
      have s4:Same H3 (upd H3 q (SetO P w q (uniq ns))):=(Same.refl H3).upd hq
      refine ⟨q,_,rfl,qab,by rw [yfr sp.up]; omega,fun l ns' hl hpm hso=>?_⟩
      have e:ns'=ns:=yg5 (hpm.trans (by rw [yfr sp.up])) hso (sp.up.imp fun h=>by omega)
      subst e
      have s5:=s4.upd (o:=.lst (ns'.map V.int)) hl
      refine ⟨_,_,qek (s5 _ _ hL3),qek qab,qcm _,qcm _,qeh _,_,rfl,iteB (yia _) ?_⟩
      generalize hG5:upd _ l _=H5
      have s35:Same H H5:=by rw [← hG5]; exact s3.trans s5
      have hL5:=s35 _ _ hL
      refine ⟨_,rfl,L,rfl,⟨_,SqL.of hL5⟩,fun D2 hD2=>qdh (n:=ns'.length) (fun i H'=>Same H5 H'∧H' D2=some (.lst ((List.replicate i true).map V.bl))) ⟨(Same.refl H5).upd hD2,qab⟩ ?_ ?_⟩
      · rintro H6 ⟨s6,e6⟩
        refine ⟨⟨_,SqL.of (s6 _ _ hL5),by simp⟩,?_⟩
        refine ⟨D2,_,rfl,e6,?_⟩
        rw [show (List.replicate ns'.length true).all id=true by simp]
        exact k _ (s35.trans s6)
      · rintro i H6 hi ⟨s6,e6⟩
        refine ⟨⟨_,_,SqL.of (s6 _ _ hL5),by rw [List.getElem?_map,List.getElem?_eq_getElem hi]; rfl⟩,?_⟩
        rintro x H7 ⟨rfl,hx⟩
        obtain ⟨c,hc,rfl⟩:=ycv (hx _ (SqL.of (s6 _ _ hL5)))
        have hr2:=sp.rg c (List.mem_of_getElem? hc)
        refine ⟨qbb.set (qbb.refl _) rfl,yes ?_⟩
        refine ⟨_,rfl,_,_,rfl,rfl,_,rfl,iteD (by omega) ?_⟩
        refine ⟨_,rfl,_,rfl,_,_,rfl,rfl,?_⟩
        refine ⟨_,e6,ycl (by rw [List.length_map,List.length_replicate]; omega),s6.at hD2,?_⟩
        rw [qab,List.replicate_succ',List.map_append]
        show _=some (HO.lst (_++[V.bl true]))
        rw [← decide_eq_true hr2.2]
def yb7:Sp:=fun vs H Q _=>∃ r l:Int,vs=[.int r,.int l]∧1≤r∧r≤8∧1≤l∧l≤8∧Q .non H
abbrev qa0:Stmt:=top 53
theorem qbm:FnScope ["rows","lines"] ["rows","lines"] (yab qa0):=⟨rfl,rfl,rfl,by decide +kernel,rfl,by decide +kernel,by decide +kernel⟩
theorem qfx (qcx:Has P w K mg base 2 "is_count" ["thing"] yio) (F:FnAt K mg "look_at_counts" qa0 ["rows","lines"]):Has P w K mg base 3 "look_at_counts" ["rows","lines"] yb7:=by
  refine Has.ofQ F qbm (fun vs H Q E h=>?_) (fun f cdv A outer s H vs Q E hr h=>?_)
  · obtain ⟨r,l,rfl,_⟩:=h
    rfl
  · obtain ⟨r,l,rfl,h1,h2,h3,h4,k⟩:=h
    have sc:=qbm
    refine ⟨_,(qai rfl (qae (ya2 (QW.pt (yd2 (ybv (yba (yai qcx hr (yaf (qaa (pv 0)) qad)))) (qcw (ybv (yba (yai qcx hr (yaf (qaa (pv 1)) qad)))))))
        (qae (yd1 ycq))
        qat))),?_⟩
    refine ⟨_,rfl,r,rfl,h1,h2,_,rfl,iteN rfl ?_⟩
    exact ⟨_,rfl,l,rfl,h3,h4,_,rfl,iteN rfl k⟩
def yb8:Sp:=fun vs H Q _=>∃ (r l:Int) (L M:Addr) (ns ms:List Int),vs=[.int r,.int l,.ref L,.ref M]∧H L=some (.lst (ns.map V.int))∧H M=some (.lst (ms.map V.int))∧Spr ns r∧Spr ms l∧∀ H',Same H H'→Q .non H'
abbrev ya1:Stmt:=top 54
theorem ybj:FnScope ["rows","lines","spare_rows","spare_lines"] ["rows","lines","spare_rows","spare_lines"] (yab ya1):=⟨rfl,rfl,rfl,by decide +kernel,rfl,by decide +kernel,by decide +kernel⟩
theorem yfu (qce:Has P w K mg base 2 "are_spares" ["thing","count"] qeb) (F:FnAt K mg "look_at_spares" ya1 ["rows","lines","spare_rows","spare_lines"]):Has P w K mg base 3 "look_at_spares" ["rows","lines","spare_rows","spare_lines"] yb8:=by
  refine Has.ofQ F ybj (fun vs H Q E h=>?_) (fun f cdv A outer s H vs Q E hr h=>?_)
  · obtain ⟨r,l,L,M,ns,ms,rfl,_⟩:=h
    rfl
  · obtain ⟨r,l,L,M,ns,ms,rfl,hL,hM,h1,h2,k⟩:=h
    have sc:=ybj
    refine ⟨_,(qai rfl (qae (ya2 (QW.pt (yd2 (ybv (yba (yai qce hr (yaf (qaa (pv 2)) (yaf (qaa (pv 0)) qad))))) (qcw (ybv (yba (yai qce hr (yaf (qaa (pv 3)) (yaf (qaa (pv 1)) qad))))))))
        (qae (yd1 ycq))
        qat))),?_⟩
    refine ⟨_,rfl,_,rfl,L,ns,r,rfl,hL,h1,fun H1 s1=>⟨_,rfl,iteN rfl ?_⟩⟩
    exact ⟨_,rfl,_,rfl,M,ms,l,rfl,s1 _ _ hM,h2,fun H2 s2=>⟨_,rfl,iteN rfl (k _ (s1.trans s2))⟩⟩
end
end Mh
set_option Elab.async false
set_option linter.all false
set_option maxRecDepth 100000
set_option maxHeartbeats 4000000
namespace Mh
open PySem L2 PyProof.Rows Mx
def fsN (m d:Addr):List (Str×V):=[("harmed",.ref m),("spare",.ref d)]
structure CN (K:PySem.W.Frag) (C:Addr):Prop where
  c:Cls K C
  nh:qdu K C "harmed"
  ns:qdu K C "spare"
theorem lk_hd {L Cc:Addr}:(fsN L Cc).lookup ("harmed" : Str)=some (V.ref L):=by
  unfold fsN
  rw [List.lookup_cons,show (("harmed" : Str) == "harmed")=true by decide +kernel]
theorem lk_sp {L Cc:Addr}:(fsN L Cc).lookup ("spare" : Str)=some (V.ref Cc):=by
  unfold fsN
  rw [List.lookup_cons,show (("spare" : Str) == "harmed")=false by decide +kernel,List.lookup_cons,show (("spare" : Str) == "spare")=true by decide +kernel]
theorem MemO.same {H H':Hp} {C m L Cc:Addr} {us:List V} {hs:List Hm} {cs:List Int} (h:MemO H C m L Cc us hs cs) (s:Same H H'):MemO H' C m L Cc us hs cs:=by
  obtain ⟨⟨dx,ho⟩,mm⟩:=h
  exact ⟨⟨dx,s _ _ ho⟩,mm.same s⟩
def SpD (kvs:List (Key×V)) (sp:Nat→Bool) (vs:List Int):Prop:=∀ a:Nat,a < vs.length→valV kvs (.inl (a:Int))=if sp a=true then some (.int (vs.getD a 0)) else none
structure MenO (H:Hp) (C N e m L Cc:Addr) (us:List V) (hs:List Hm) (cs:List Int) (d:Addr) (kvs:List (Key×V)):Prop where
  o:∃ dx,H e=some (.ins N dx (fsN m d))
  m:MemO H C m L Cc us hs cs
  d:H d=some (.dK kvs)
section
variable {P:Program} {w:World} {K:PySem.W.Frag} {mg:Str→Option Value} {base:Heap} {C N:Addr}
abbrev qa6:Stmt:=ydi (top 55) 1
theorem qdv:FnScope ["self","address"] ["self","address"] (yab qa6):=⟨rfl,rfl,rfl,by decide +kernel,rfl,by decide +kernel,by decide +kernel⟩
abbrev qav:Stmt:=ydi (top 55) 2
theorem qby:FnScope ["self","address","bit"] ["self","address","bit"] (yab qav):=⟨rfl,rfl,rfl,by decide +kernel,rfl,by decide +kernel,by decide +kernel⟩
end
end Mh
set_option Elab.async false
set_option linter.all false
set_option maxRecDepth 100000
set_option maxHeartbeats 4000000
namespace Mh
open PySem L2 PyProof.Rows Mx
def mixL (sp:Nat→Bool) (ws cs:List Int):List Int:=(List.range cs.length).map fun a=>if sp a=true then ws.getD a 0 else cs.getD a 0
section
variable {P:Program} {w:World} {K:PySem.W.Frag} {mg:Str→Option Value} {base:Heap} {C N:Addr}
abbrev ya3:Stmt:=ydi (top 55) 3
theorem yde:FnScope ["self"] ["self"] (yab ya3):=⟨rfl,rfl,rfl,by decide +kernel,rfl,by decide +kernel,by decide +kernel⟩
def yf1 (C N:Addr):Sp:=fun vs H Q _=>∃ e m L Cc us hs cs d kvs sp ws,vs=[.ref e]∧MenO H C N e m L Cc us hs cs d kvs∧SpD kvs sp ws∧ws.length=cs.length∧cs.length≤64∧
  ∀ D H',Same H H'→H D=none→H' D=some (.lst ((mixL sp ws cs).map V.int))→Q (.ref D) H'
theorem qi5 (B:Bl mg) (cm:CM K C) (cn:CN K N) (qf9:HasM P w K mg base C 1 "holds" ["self"] (yf0 C)) (F:yb0 K N "holds" "Mended.holds" ya3 ["self"]):HasM P w K mg base N 2 "holds" ["self"] (yf1 C N):=by
  refine HasM.ofQ F yde (fun vs H Q E h=>?_) (fun f cdv A outer s H vs Q E hr h=>?_)
  · obtain ⟨e,m,L,Cc,us,hs,cs,d,kvs,sp,ws,rfl,_⟩:=h
    rfl
  · obtain ⟨e,m,L,Cc,us,hs,cs,d,kvs,sp,ws,rfl,mo,hsp,hwl,h64,k⟩:=h
    have sc:=yde
    refine ⟨_,(qai rfl (qae (yao (qaa (qcl rfl (qbf rfl) (M:=["address","bit","self"]) (ix:=[none,none,some 0]) (qel rfl (B.of rfl) (yaa (QE.of (qe5 cm.c qf9 hr (ydk (qaa (pv 0)) rfl))) yac)) (fun _ _ _ _=>(qfh (K:=K) (n:=2) rfl rfl (qaz (qaq (i:=0) (show List.Nodup (["address","bit","self"]:List Str) by decide +kernel) rfl (Or.inl rfl)) (qaz (qaq (i:=1) (show List.Nodup (["address","bit","self"]:List Str) by decide +kernel) rfl (Or.inl rfl)) qct)))) (fun _ _ _ _=>yc5) (fun _ _ _ _=>(pe_dget2 (hu_of hr) (pe_fldK (K:=K) rfl (pv 2) rfl) (pv 0) (pv 1) ⟨rfl,rfl,rfl,rfl⟩))))))),?_⟩
    obtain ⟨⟨dx,ho⟩,mm,hd⟩:=id mo
    obtain ⟨⟨dy,hm⟩,_⟩:=id mm
    refine ⟨_,rfl,e,N,dx,_,_,rfl,ho,cn.c,cn.nh,lk_hd,m,dy,_,rfl,hm,lk_n,m,L,Cc,us,hs,cs,rfl,mm,fun q hq=>?_⟩
    generalize hG1:upd H q _=H1
    have s1:Same H H1:=by rw [← hG1]; exact (Same.refl H).upd hq
    have f1:H1 q=some (.lst (cs.map V.int)):=by rw [← hG1]; exact qab
    refine ⟨q,_,rfl,SqL.of f1,fun D hD=>qdh (n:=cs.length) (fun i H'=>Same H1 H'∧H' D=some (.lst (((mixL sp ws cs).take i).map V.int))) ⟨(Same.refl H1).upd hD,qab⟩ ?_ ?_⟩
    · rintro H2 ⟨s2,e2⟩
      refine ⟨⟨_,SqL.of (s2 _ _ f1),by simp⟩,?_⟩
      rw [List.take_of_length_le (by simp [mixL])] at e2
      exact k D H2 (s1.trans s2) (s1.free hD) e2
    · rintro i H2 hi ⟨s2,e2⟩
      refine ⟨⟨_,_,SqL.of (s2 _ _ f1),List.getElem?_eq_getElem (by simpa using hi)⟩,?_⟩
      rintro x H3 ⟨pp,y,hpp,rfl,rfl,hy⟩
      obtain ⟨c,hc,rfl⟩:=qe6 (hy _ (SqL.of (s2 _ _ f1)))
      have s3:Same H2 (upd H2 pp (.tup [.int i,.int c])):=(Same.refl H2).upd hpp
      refine ⟨pp,_,rfl,SqT.of qab,rfl,?_⟩
      revert s3
      generalize upd H2 pp (.tup [.int i,.int c])=H3
      intro s3
      refine ⟨_,_,rfl,_,_,rfl,rfl,qbb.set (qbb.set (qbb.refl _) rfl) rfl,yes ?_⟩
      have s13:=(s1.trans s2).trans s3
      have hd3:=s13 _ _ hd
      have hv:=hsp i (by omega)
      refine ⟨_,rfl,e,N,dx,_,_,rfl,s13 _ _ ho,cn.c,cn.ns,lk_sp,d,rfl,.inl ⟨kvs,.inl hd3⟩,_,rfl,_,rfl,_,DGet.k (k:=.inl (i:Int)) hd3,?_⟩
      refine ⟨_,s3 _ _ e2,ycl (by rw [List.length_map,List.length_take]; omega),(s2.trans s3).at hD,?_⟩
      rw [qab,List.take_add_one,List.map_append]
      have hm:(mixL sp ws cs)[i]?=some (if sp i=true then ws.getD i 0 else cs.getD i 0):=by
        unfold mixL
        rw [List.getElem?_map,List.getElem?_range hi]
        rfl
      have hcd:cs.getD i 0=c:=by rw [List.getD_eq_getElem?_getD,hc]; rfl
      rw [hm,hv,hcd]
      cases sp i <;> rfl
end
end Mh
set_option Elab.async false
set_option linter.all false
set_option maxRecDepth 100000
set_option maxHeartbeats 4000000
namespace Mh
open PySem L2 PyProof.Rows Mx
def spF (ns ms:List Int) (l:Int) (a:Nat):Bool:=decide ((a:Int) / l∈ns∨(a:Int) % l∈ms)
def spk (sp:Nat→Bool) (cs:List Int):Nat→List (Key×V)
  | 0=>[]
  | i + 1=>if sp i=true then putK (spk sp cs i) (.inl (i:Int)) (.int (cs.getD i 0)) else spk sp cs i
theorem qhx (sp:Nat→Bool) (cs:List Int):∀ i,(spk sp cs i).length≤i
  | 0=>Nat.le_refl _
  | i + 1=>by
    have h1:=qhx sp cs i
    have h2:=qdy (spk sp cs i) (.inl (i:Int)) (.int (cs.getD i 0))
    unfold spk
    split <;> omega
theorem yjh (sp:Nat→Bool) (cs:List Int) (a:Nat):∀ i,valV (spk sp cs i) (.inl (a:Int))=if a < i∧sp a=true then some (.int (cs.getD a 0)) else none
  | 0=>by simp [spk,valV]
  | i + 1=>by
    have ih:=yjh sp cs a i
    unfold spk
    by_cases hs:sp i=true
    · rw [if_pos hs,valV_put,ih]
      by_cases e:a=i
      · subst e
        rw [if_pos rfl,if_pos ⟨by omega,hs⟩]
      · rw [if_neg (fun z=>e (by have:=Sum.inl.inj z; omega))]
        by_cases h:a < i∧sp a=true
        · rw [if_pos h,if_pos ⟨by omega,h.2⟩]
        · rw [if_neg h,if_neg (fun z=>h ⟨by omega,z.2⟩)]
    · rw [if_neg hs,ih]
      by_cases h:a < i∧sp a=true
      · rw [if_pos h,if_pos ⟨by omega,h.2⟩]
      · rw [if_neg h,if_neg (fun z=>h ⟨by
          rcases Nat.lt_or_ge a i with q | q
          · exact q
          · have:a=i:=by omega
            subst this
            exact absurd z.2 hs,z.2⟩)]
theorem spk_is {sp:Nat→Bool} {cs:List Int}:SpD (spk sp cs cs.length) sp cs:=fun a ha=>by
  rw [yjh]
  by_cases h:sp a=true
  · rw [if_pos ⟨ha,h⟩,if_pos h]
  · rw [if_neg (fun z=>h z.2),if_neg h]
theorem yfq {x:Int} {l:List Int}:inV (.int x) (l.map V.int)=decide (x∈l):=by
  unfold inV
  rw [Bool.eq_iff_iff]
  simp only [List.any_map,List.any_eq_true,Function.comp_apply,decide_eq_true_eq]
  constructor
  · rintro ⟨y,hy,e⟩
    have:y=x:=by simpa [eqV] using e
    rw [← this]; exact hy
  · intro h
    exact ⟨x,h,by simp [eqV]⟩
theorem cmul8 {r l:Int} (h1:0≤r) (h2:r≤8) (h3:0≤l) (h4:l≤8):CMul r l:=by
  have e:(2:Int) ^ 64=18446744073709551616:=by decide
  exact .inl ⟨by omega,by omega⟩
section
variable {P:Program} {w:World} {K:PySem.W.Frag} {mg:Str→Option Value} {base:Heap} {C N:Addr}
abbrev qam:Stmt:=ydi (top 55) 0
theorem ybe:FnScope ["self","rows","lines","harms","contents","spare_rows","spare_lines","address","bit"] ["self","rows","lines","harms","contents","spare_rows","spare_lines"] (yab qam):=⟨rfl,rfl,rfl,by decide +kernel,rfl,by decide +kernel,by decide +kernel⟩
def qd9 (C N:Addr):Sp:=fun vs H Q _=>∃ (x dx L0 C0 R M:Addr) (r l:Int) (us:List V) (hs:List Hm) (S cs ns ms:List Int),vs=[.ref x,.int r,.int l,.ref L0,.ref C0,.ref R,.ref M]∧H x=some (.ins N dx [])∧1≤r∧r≤8∧1≤l∧l≤8∧r * l=cs.length∧
  H L0=some (.lst us)∧HsV H us hs∧okHs hs S∧InR hs cs.length∧H C0=some (.lst (cs.map V.int))∧bits cs∧H R=some (.lst (ns.map V.int))∧Spr ns r∧H M=some (.lst (ms.map V.int))∧Spr ms l∧
  ∀ (m L Cc d:Addr) (kvs:List (Key×V)) (H':Hp),(∀ b u,b≠x→H b=some u→H' b=some u)→H m=none→H L=none→H Cc=none→H d=none→MenO H' C N x m L Cc us hs (qeo hs cs) d kvs→SpD kvs (spF ns ms l) cs→kvs.length≤cs.length→Q .non H'
end
end Mh
set_option Elab.async false
set_option linter.all false
set_option maxRecDepth 100000
set_option maxHeartbeats 4000000
namespace Mh
open PySem L2 PyProof.Rows Mx
def fl1 (v:V):Prop:=(∃ i,v=.int i)∨∃ s,v=.str s
theorem qgt {H:Hp}:∀ {l vs:List V},(∀ x∈l,fl1 x)→AtAll H vs (l.map dOf)→vs=l
  | [],_,_,h=>by cases h; rfl
  | x :: l,_,hf,h=>by
    cases h with
    | cons a r=>
      have ih:=qgt (fun y hy=>hf y (List.mem_cons_of_mem _ hy)) r
      rw [ih]
      rcases hf x (List.mem_cons_self ..) with ⟨i,rfl⟩ | ⟨s,rfl⟩
      · rw [a.intEq]
      · rw [a.strEq]
theorem hat_of {H:Hp} {v:V} {h:Hm} (hf:∀ x∈h.r,fl1 x) (a:At H v (.tuple ((hV h).map dOf))):HAt H v h:=by
  obtain ⟨t,vs,rfl,ht,hw⟩:=a.tupEq
  refine ⟨t,rfl,?_⟩
  rw [ht,qgt (l:=hV h) (fun x hx=>?_) hw]
  unfold hV at hx
  rcases List.mem_cons.mp hx with rfl | hx
  · exact .inr ⟨_,rfl⟩
  · rcases List.mem_append.mp hx with hx | hx
    · obtain ⟨c,_,rfl⟩:=List.mem_map.mp hx
      exact .inl ⟨_,rfl⟩
    · exact hf x hx
def hD (h:Hm):PyData:=.tuple ((hV h).map dOf)
theorem qkq {H:Hp}:∀ {us:List V} {hs:List Hm},(∀ h∈hs,∀ x∈h.r,fl1 x)→AtAll H us (hs.map hD)→HsV H us hs
  | us,hs,hf,h=>by
    refine ⟨by rw [h.length,List.length_map],fun i v g h1 h2=>?_⟩
    obtain ⟨d,hd,ha⟩:=h.get h1
    rw [List.getElem?_map,h2] at hd
    cases hd
    exact hat_of (hf g (List.mem_of_getElem? h2)) ha
def ones (a v:Int):List Hm:=[⟨"stuck",[a],[.int v]⟩,⟨"slow",[a],[.int v]⟩,⟨"forgets",[a],[.int v]⟩,⟨"misreads",[a],[.int v]⟩,⟨"nowhere",[a],[.int v]⟩]
def twos (a b u v:Int):List Hm:=[⟨"turns",[a,b],[.int u]⟩,⟨"sets",[a,b],[.int u,.int v]⟩,⟨"keeps",[a,b],[.int u,.int v]⟩,⟨"other",[a,b],[]⟩]
def oneB (a b:Int) (u:Int):Hm:=⟨"both",[a,b],[.str (if u=0 then "and" else "or")]⟩
def qi0 (n:Int) (h:Hm):Prop:=(∃ ns,okH h ns)∧∀ c∈h.c,0≤c∧c < n
theorem qjv {n a v:Int} (h0:0≤a) (h1:a < n) (hn:n≤64) (hv:bitV (.int v)):∀ h∈ones a v,qi0 n h:=by
  have rg:∀ x∈([a]:List Int),0≤x∧x < 64:=fun x hx=>by rw [List.mem_singleton.mp hx]; omega
  have rn:∀ x∈([a]:List Int),0≤x∧x < n:=fun x hx=>by rw [List.mem_singleton.mp hx]; omega
  intro h hh
  unfold ones at hh
  simp only [List.mem_cons,List.not_mem_nil,or_false] at hh
  rcases hh with rfl | rfl | rfl | rfl | rfl
  · exact ⟨⟨["bit"],qc1 (by simp),.bit hv .nil,by simp,by simp,by simp,rg⟩,rn⟩
  · exact ⟨⟨["bit"],qc1 (by simp),.bit hv .nil,by simp,by simp,by simp,rg⟩,rn⟩
  · exact ⟨⟨["bit"],qc1 (by simp),.bit hv .nil,by simp,by simp,by simp,rg⟩,rn⟩
  · exact ⟨⟨["bit"],qc1 (by simp),.bit hv .nil,by simp,by simp,by simp,rg⟩,rn⟩
  · exact ⟨⟨["bit"],qc1 (by simp),.bit hv .nil,by simp,by simp,by simp,rg⟩,rn⟩
theorem yjz {n a b u v:Int} (h0:0≤a) (h1:a < n) (h2:0≤b) (h3:b < n) (hne:a≠b) (hn:n≤64) (hu:bitV (.int u)) (hv:bitV (.int v)):∀ h∈twos a b u v++[oneB a b u],qi0 n h:=by
  have rg:∀ x∈([a,b]:List Int),0≤x∧x < 64:=fun x hx=>by
    simp at hx
    rcases hx with rfl | rfl <;> omega
  have rn:∀ x∈([a,b]:List Int),0≤x∧x < n:=fun x hx=>by
    simp at hx
    rcases hx with rfl | rfl <;> omega
  have nd:([a,b]:List Int).Nodup:=by simp [hne]
  intro h hh
  unfold twos at hh
  simp only [List.cons_append,List.nil_append,List.mem_cons,List.not_mem_nil,or_false] at hh
  rcases hh with rfl | rfl | rfl | rfl | rfl
  · exact ⟨⟨["bit"],ygq,.bit hu .nil,by simp,by simp,nd,rg⟩,rn⟩
  · exact ⟨⟨["bit","bit"],qe1 (.inl rfl),.bit hu (.bit hv .nil),by simp,by simp,nd,rg⟩,rn⟩
  · exact ⟨⟨["bit","bit"],qe1 (.inr rfl),.bit hu (.bit hv .nil),by simp,by simp,nd,rg⟩,rn⟩
  · exact ⟨⟨[],yg1,.nil,by simp,by simp,nd,rg⟩,rn⟩
  · refine ⟨⟨["how"],qia,.how ?_ .nil,⟨Nat.le_of_ble_eq_true rfl,Nat.le_of_ble_eq_true rfl⟩,by simp,nd,rg⟩,rn⟩
    unfold howV
    by_cases e:u=0
    · rw [if_pos e]; exact .inl rfl
    · rw [if_neg e]; exact .inr rfl
theorem yi0 {n a k:Int} (h0:0≤a) (h1:a < n) (k1:1≤k) (k2:k < n):(a + k) % n≠a∧0≤(a + k) % n∧(a + k) % n < n:=by
  have hp:(0:Int) < n:=by omega
  refine ⟨?_,Int.emod_nonneg _ (by omega),Int.emod_lt_of_pos _ hp⟩
  by_cases h:a + k < n
  · rw [Int.emod_eq_of_lt (by omega) h]; omega
  · rw [show a + k=(a + k - n) + n by omega,Int.add_emod_right,Int.emod_eq_of_lt (by omega) (by omega)]; omega
theorem bit_of {d:Int} (h0:0≤d) (h1:d < 2):∃ b,d=b2i b:=by
  rcases (by omega:d=0∨d=1) with rfl | rfl
  · exact ⟨false,rfl⟩
  · exact ⟨true,rfl⟩
theorem HsV.upL {H:Hp} {us:List V} {hs:List Hm} {D:Addr} {xs:List V} {o:HO} (x:HsV H us hs) (hD:H D=some (.lst xs)):HsV (L2.upd H D o) us hs:=⟨x.len,fun i v h a b=>by
  obtain ⟨z,e,hz⟩:=x.at_ i v h a b
  exact ⟨z,e,by rw [qaf (fun q=>by subst q; rw [hD] at hz; cases hz)]; exact hz⟩⟩
theorem HsV.snoc {H:Hp} {us:List V} {hs:List Hm} {v:V} {h:Hm} (x:HsV H us hs) (hv:HAt H v h):HsV H (us++[v]) (hs++[h]):=by
  refine ⟨by simp [x.len],fun i v' h' a b=>?_⟩
  by_cases hi:i < us.length
  · rw [List.getElem?_append_left hi] at a
    rw [List.getElem?_append_left (by rw [← x.len]; exact hi)] at b
    exact x.at_ i v' h' a b
  · have hi':i=us.length:=by
      have:=(List.getElem?_eq_some_iff.mp a).1
      simp at this
      omega
    subst hi'
    rw [List.getElem?_append_right (Nat.le_refl _)] at a
    rw [x.len,List.getElem?_append_right (Nat.le_refl _)] at b
    simp at a b
    subst a b
    exact hv
theorem rest_fl {ns:List Str} {rr:List V} (re:Rest ns rr):∀ x∈rr,fl1 x:=by
  induction re with
  | nil=>intro x hx; cases hx
  | bit hb _ ih=>
    obtain ⟨b,rfl⟩:=hb
    intro x hx
    rcases List.mem_cons.mp hx with rfl | hx
    · exact .inl ⟨_,rfl⟩
    · exact ih x hx
  | how hb _ ih=>
    intro x hx
    rcases List.mem_cons.mp hx with rfl | hx
    · rcases hb with rfl | rfl <;> exact .inr ⟨_,rfl⟩
    · exact ih x hx
theorem fr (h:Hm) (o:∃ ns,okH h ns):∀ x∈h.r,fl1 x:=by
  obtain ⟨ns,o⟩:=o
  exact rest_fl o.rest
theorem lay_c {te:TE} {ta:TA} {σ:L2.St} {H:Hp} {d:PyData} {Q:List V→Hp→Prop} (h:Lay [] te σ d H) (k:∀ v H',Same H H'→At H' v d→ta σ H' fun vs H2=>Q (v :: vs) H2):yc8 te ta σ H Q:=
  h (fun b hb=>by cases hb) H (Same.refl H) _ fun v H' s a=>k v H' s (a.same (yat _ _))
section
variable {P:Program} {w:World} {K:PySem.W.Frag} {mg:Str→Option Value} {base:Heap}
def qh8:Sp:=fun vs H Q _=>∃ (D:Addr) (d0 d1 d2 d3 d4:Int) (n:Int),vs=[.ref D,.int n]∧H D=some (.lst [.int d0,.int d1,.int d2,.int d3,.int d4])∧0≤d0∧0≤d1∧0≤d2∧0≤d3∧d3 < 2∧0≤d4∧d4 < 2∧1≤n∧n≤64∧
  ∀ v h H',Same H H'→HAt H' v h→qi0 n h→Q v H'
abbrev qb5:Stmt:=top 58
theorem qeu:FnScope ["_law_d","_law_size","_law_a","_law_b","_law_u","_law_v","_law_some"] ["_law_d","_law_size"] (yab qb5):=⟨rfl,rfl,rfl,by decide +kernel,rfl,by decide +kernel,by decide +kernel⟩
theorem ok_lharm (B:Bl mg) (F:FnAt K mg "_law_harm" qb5 ["_law_d","_law_size"]):Has P w K mg base 1 "_law_harm" ["_law_d","_law_size"] qh8:=by
  refine Has.ofQ F qeu (fun vs H Q E h=>?_) (fun f cdv A outer s H vs Q E hr h=>?_)
  · obtain ⟨D,d0,d1,d2,d3,d4,n,rfl,_⟩:=h
    rfl
  · obtain ⟨D,d0,d1,d2,d3,d4,n,rfl,hDD,p0,p1,p2,p3,q3,p4,q4,n1,n64,k⟩:=h
    have sc:=qeu
    refine ⟨_,(qai rfl (yad (qaw (i:=2) sc.nd rfl (Or.inl rfl) (qa3 ycy (ybu yaq (qaa (pv 0)) (qaa qac) (fun _ _=>rfl)) (qaa (pv 1))))
      (yad (qaw (i:=3) sc.nd rfl (Or.inl rfl) (qa3 ycy (qa3 qdg (qa3 qdg (qaa (pv 2)) (qaa qac)) (qa3 ycy (ybu yaq (qaa (pv 0)) (qaa qac) (fun _ _=>rfl)) (qa8 (qj6 rfl) rfl (B.of rfl) boot_max (qan (qaa qac) (ycw (qa3 qff (qaa (pv 1)) (qaa qac)) qad))))) (qaa (pv 1))))
      (yad (qaw (i:=4) sc.nd rfl (Or.inl rfl) (ybu yaq (qaa (pv 0)) (qaa qac) (fun _ _=>rfl)))
      (yad (qaw (i:=5) sc.nd rfl (Or.inl rfl) (ybu yaq (qaa (pv 0)) (qaa qac) (fun _ _=>rfl)))
      (yad (qaw (i:=6) sc.nd rfl (Or.inl rfl) (yap (qdl (ycd (qan (qaa yan) (yaf (qaa (pv 2)) (yaf (qaa (pv 5)) qad)))) (qdl (ycd (qan (qaa yan) (yaf (qaa (pv 2)) (yaf (qaa (pv 5)) qad)))) (qdl (ycd (qan (qaa yan) (yaf (qaa (pv 2)) (yaf (qaa (pv 5)) qad)))) (qdl (ycd (qan (qaa yan) (yaf (qaa (pv 2)) (yaf (qaa (pv 5)) qad)))) (qdl (ycd (qan (qaa yan) (yaf (qaa (pv 2)) (yaf (qaa (pv 5)) qad)))) qad)))))))
      (yky (ya2 (yav yfv (qaa (pv 1)) (qaa qac) (yah _))
        (yad (qaw (i:=6) sc.nd rfl (Or.inl rfl) (qa3 ycg (qaa (pv 6)) (yap (qdl (ycd (qan (qaa yan) (yaf (qaa (pv 2)) (yaf (qaa (pv 3)) (yaf (qaa (pv 4)) qad))))) (qdl (ycd (qan (qaa yan) (yaf (qaa (pv 2)) (yaf (qaa (pv 3)) (yaf (qaa (pv 4)) (yaf (qaa (pv 5)) qad)))))) (qdl (ycd (qan (qaa yan) (yaf (qaa (pv 2)) (yaf (qaa (pv 3)) (yaf (qaa (pv 4)) (yaf (qaa (pv 5)) qad)))))) (qdl (ycd (qan (qaa yan) (yaf (qaa (pv 2)) (yaf (qaa (pv 3)) qad)))) qad)))))))
        (qae (ya6 (qe_bm PySem.F.plainAttrs_list PySem.F.slot_list_append PySem.F.type_list_append qc0 (qaa (pv 6)) (qdl (ycd (qan (qaa yan) (yaf (qaa (pv 2)) (yaf (qaa (pv 3)) (qew (ybu yaq (yap (qan (qaa yan) (qan (qaa yan) qad))) (qaa (pv 4)) (fun _ _=>rfl)) qad))))) qad)))))
        qat)
      (qae (yao (ybu yaq (qaa (pv 6)) (qa3 ycy (ybu yaq (qaa (pv 0)) (qaa qac) (fun _ _=>rfl)) (qa8 yal rfl (B.of rfl) boot_len (yaf (qaa (pv 6)) qad))) (fun _ _=>rfl))))))))))),?_⟩
    have a0:=Int.emod_nonneg d1 (b:=n) (by omega)
    have a1:=Int.emod_lt_of_pos d1 (b:=n) (by omega)
    refine ⟨_,rfl,D,_,_,_,rfl,rfl,SqL.of hDD,qal 1 rfl,_,rfl,_,_,rfl,rfl,by omega,?_⟩
    refine gn ?_
    dsimp only
    obtain ⟨a,ha⟩:∃ a,d1 % n=a:=⟨_,rfl⟩
    rw [ha] at a0 a1 ⊢
    refine ⟨_,rfl,_,_,rfl,rfl,_,rfl,D,_,_,_,rfl,rfl,SqL.of hDD,qal 2 rfl,_,rfl,_,_,rfl,rfl,_,_,rfl,_,_,rfl,rfl,(by show (0:Int) < (if n - 1 > 1 then n - 1 else 1); split <;> omega),_,_,rfl,rfl,_,rfl,_,_,rfl,rfl,by omega,?_⟩
    show yfw 3 (V.int ((a + 1 + d2 % (if n - 1 > 1 then n - 1 else 1)) % n)) _ _ _
    obtain ⟨b,hb,hb2⟩:∃ b,(a + 1 + d2 % (if n - 1 > 1 then n - 1 else 1)) % n=b∧(1 < n→a≠b∧0≤b∧b < n):=by
      refine ⟨_,rfl,fun hn1=>?_⟩
      have e:(if n - 1 > 1 then n - 1 else 1)=n - 1:=by split <;> omega
      rw [e]
      have m0:=Int.emod_nonneg d2 (b:=n - 1) (by omega)
      have m1:=Int.emod_lt_of_pos d2 (b:=n - 1) (by omega)
      rw [show a + 1 + d2 % (n - 1)=a + (1 + d2 % (n - 1)) by omega]
      obtain ⟨h1,h2,h3⟩:=yi0 (k:=1 + d2 % (n - 1)) a0 a1 (by omega) (by omega)
      exact ⟨fun z=>h1 z.symm,h2,h3⟩
    rw [hb]
    refine gn ?_
    dsimp only
    refine ⟨_,rfl,D,_,_,_,rfl,rfl,SqL.of hDD,qal 3 rfl,?_⟩
    refine ⟨_,rfl,D,_,_,_,rfl,rfl,SqL.of hDD,qal 4 rfl,?_⟩
    refine gn ?_
    dsimp only
    have bu:bitV (.int d3):=by obtain ⟨b,rfl⟩:=bit_of p3 q3; exact ⟨b,rfl⟩
    have bv:bitV (.int d4):=by obtain ⟨b,rfl⟩:=bit_of p4 q4; exact ⟨b,rfl⟩
    have g1:=qjv a0 a1 n64 bv
    have ia:At H (.int a) (.int a):=.int _
    have iv:At H (.int d4) (.int d4):=.int _
    refine qh0 (d:=.list ((ones a d4).map hD)) ?_ fun x1 H1 s1 x1a=>?_
    · show Lay [] _ _ (.list [.tuple [.str "stuck",.int a,.int d4],.tuple [.str "slow",.int a,.int d4],.tuple [.str "forgets",.int a,.int d4],.tuple [.str "misreads",.int a,.int d4],.tuple [.str "nowhere",.int a,.int d4]]) _
      repeat' (first | exact qcg | exact ydv | exact ybm | exact qcf | exact qda | exact qay | refine yag ?_ ?_ | refine yck ?_ | refine qax ?_ | exact yct rfl (.int _))
    -- behind the second sort
    refine ⟨fun σ' HX=>∃ (p:Addr) (us:List V) (hs:List Hm),σ'=[some (.ref D),some (.int n),some (.int a),some (.int b),some (.int d3),some (.int d4),some (.ref p)]∧Same H HX∧HX p=some (.lst us)∧HsV HX us hs∧1≤hs.length∧hs.length≤10∧∀ h∈hs,qi0 n h,?_,?_⟩
    · refine ⟨_,rfl,_,_,rfl,rfl,_,rfl,?_⟩
      by_cases hn1:1 < n
      · refine iteB (decide_eq_true hn1) ?_
        obtain ⟨hne,b0,b1⟩:=hb2 hn1
        have g2:=yjz a0 a1 b0 b1 hne n64 bu bv
        refine ⟨_,rfl,?_⟩
        refine yjy (L:=[]) (d:=.list ((twos a b d3 d4).map hD)) ?_ (fun b hb=>by cases hb) fun x2 H2 s2 x2a=>?_
        · show Lay [] _ _ (.list [.tuple [.str "turns",.int a,.int b,.int d3],.tuple [.str "sets",.int a,.int b,.int d3,.int d4],.tuple [.str "keeps",.int a,.int b,.int d3,.int d4],.tuple [.str "other",.int a,.int b]]) _
          repeat' (first | exact qcg | exact ydv | exact ybm | exact qcf | exact qda | exact qay | refine yag ?_ ?_ | refine yck ?_ | refine qax ?_ | exact yct rfl (.int _))
        obtain ⟨q,ys,rfl,hq,hwq⟩:=(x2a.same (yat _ _)).lstEq
        obtain ⟨p1,us1,rfl,hp1,hw1⟩:=(x1a.same s2).lstEq
        have l1:us1.length=5:=hw1.length
        have l2:ys.length=4:=hwq.length
        refine ⟨p1,q,us1,ys,rfl,rfl,hp1,hq,ykc (by omega),fun p hp=>?_⟩
        have nH:H p=none:=(s1.trans s2).free hp
        have hw:AtAll H2 (us1++ys) ((ones a d4++twos a b d3 d4).map hD):=by rw [List.map_append]; exact hw1.append hwq
        have hv2:=qkq (hs:=ones a d4++twos a b d3 d4) (fun h hh=>fr h (by
          rcases List.mem_append.mp hh with hh | hh
          · exact (g1 h hh).1
          · exact (g2 h (List.mem_append_left _ hh)).1)) hw
        generalize hG3:upd H2 p _=H3
        have s3:Same H2 H3:=by rw [← hG3]; exact (Same.refl H2).upd hp
        have f3:H3 p=some (.lst (us1++ys)):=by rw [← hG3]; exact qab
        clear hG3
        refine gn ?_
        dsimp only
        refine ⟨_,rfl,.inl ⟨rfl,_,SqL.of f3⟩,?_⟩
        refine lay_c (d:=hD (oneB a b d3)) ?_ fun v4 H4 s4 a4=>?_
        · show Lay [] _ _ (.tuple [.str "both",.int a,.int b,.str (if d3=0 then "and" else "or")]) _
          refine yck (yag qcf (yag (yct rfl (.int _)) (yag (yct rfl (.int _)) (yag ?_ qay))))
          have hix:atI [V.str "and",.str "or"] d3=some (.str (if d3=0 then "and" else "or")):=by
            rcases (by omega:d3=0∨d3=1) with rfl | rfl <;> rfl
          exact fun hL H7 s7 Q7 k7=>⟨(by show 2≤sizeLine; decide),fun q hq=>⟨_,rfl,q,_,_,_,rfl,rfl,SqL.of qab,hix,k7 _ _ ((Same.refl H7).upd hq) (.str _)⟩⟩
        · have hat:HAt H4 v4 (oneB a b d3):=hat_of (fr _ (g2 _ (by simp)).1) a4
          refine ⟨p,us1++ys,v4,rfl,rfl,s4 _ _ f3,ycl (by rw [List.length_append]; omega),?_⟩
          refine ⟨p,us1++ys++[v4],(ones a d4++twos a b d3 d4)++[oneB a b d3],rfl,(((s1.trans s2).trans s3).trans s4).at nH,qab,((hv2.same (s3.trans s4)).snoc hat).upL (s4 _ _ f3),Nat.le_of_ble_eq_true rfl,Nat.le_of_ble_eq_true rfl,fun h hh=>?_⟩
          rw [List.append_assoc] at hh
          rcases List.mem_append.mp hh with hh | hh
          · exact g1 h hh
          · exact g2 h hh
      · refine iteN (decide_eq_false hn1) ?_
        obtain ⟨p,us,rfl,hp,hw⟩:=x1a.lstEq
        exact ⟨p,us,ones a d4,rfl,s1,hp,qkq (fun h hh=>fr h (g1 h hh).1) hw,Nat.le_of_ble_eq_true rfl,Nat.le_of_ble_eq_true rfl,g1⟩
    · rintro σ1 HX ⟨p,us,hs,rfl,sX,eX,hvX,l1,l10,hg⟩
      have hul:=hvX.len
      have hDX:=sX _ _ hDD
      obtain ⟨j,hj,hjl⟩:∃ j:Nat,d0 % (us.length:Int)=(j:Int)∧j < us.length:=by
        have h1:=Int.emod_nonneg d0 (b:=(us.length:Int)) (by omega)
        have h2:=Int.emod_lt_of_pos d0 (b:=(us.length:Int)) (by omega)
        exact ⟨(d0 % (us.length:Int)).toNat,by omega,by omega⟩
      have hgj:hs[j]?=some (hs[j]'(by omega)):=List.getElem?_eq_getElem _
      refine ⟨_,rfl,_,rfl,D,_,_,_,rfl,rfl,SqL.of hDX,qal 0 rfl,_,rfl,p,_,rfl,.inl (SqL.of eX),_,_,rfl,rfl,(by show (0:Int) < (us.length:Int); omega),p,us,_,us[j],rfl,rfl,SqL.of eX,?_,k _ _ HX sX (hvX.at_ j _ _ (List.getElem?_eq_getElem hjl) hgj) (hg _ (List.mem_of_getElem? hgj))⟩
      show atI us (d0 % (us.length:Int))=_
      rw [hj]
      exact yht (List.getElem?_eq_getElem hjl)
end
end Mh
set_option Elab.async false
set_option linter.all false
set_option maxRecDepth 100000
set_option maxHeartbeats 4000000
namespace Mh
open PySem L2 PyProof.Rows Mx
theorem in5 {s a b c d e:Str}:inV (.str s) (([a,b,c,d,e]:List Str).map V.str)=decide (s=a∨s=b∨s=c∨s=d∨s=e):=by
  unfold inV
  rw [Bool.eq_iff_iff]
  simp [eqS]
theorem ykv {h:Hm} {ns:List Str} (o:okH h ns):(h.w="stuck"∨h.w="slow"∨h.w="forgets"∨h.w="misreads"∨h.w="nowhere")∨h.w="turns"∨(h.w="sets"∨h.w="keeps")∨h.w="other"∨h.w="both":=by
  have hk:KTD.inKeys h.w tabP=true:=by rw [← KTD.isSome_datumAt,o.tab]; rfl
  have:h.w="stuck"∨h.w="slow"∨h.w="forgets"∨h.w="misreads"∨h.w="turns"∨h.w="sets"∨h.w="keeps"∨h.w="nowhere"∨h.w="other"∨h.w="both":=by
    simpa [tabP,KTD.inKeys] using hk
  rcases this with e | e | e | e | e | e | e | e | e | e
  · exact .inl (.inl e)
  · exact .inl (.inr (.inl e))
  · exact .inl (.inr (.inr (.inl e)))
  · exact .inl (.inr (.inr (.inr (.inl e))))
  · exact .inr (.inl e)
  · exact .inr (.inr (.inl (.inl e)))
  · exact .inr (.inr (.inl (.inr e)))
  · exact .inl (.inr (.inr (.inr (.inr e))))
  · exact .inr (.inr (.inr (.inl e)))
  · exact .inr (.inr (.inr (.inr e)))
def two5:List Str:=["turns","sets","keeps","other","both"]
theorem two_is {h:Hm} {ns:List Str} (o:okH h ns):inV (.str h.w) (two5.map V.str)=decide (h.c.length=2):=by
  unfold two5
  rw [in5]
  rcases ykv o with hw | hw | hw | hw | hw
  · obtain ⟨a,b,hc,_⟩:=o.s1 (qc1 hw)
    rw [show h.c.length=1 by rw [hc]; rfl]
    rcases hw with hw | hw | hw | hw | hw <;> rw [hw] <;> decide +kernel
  · obtain ⟨a,b,x,hc,_⟩:=o.sTurns (by rw [hw]; exact ygq)
    rw [show h.c.length=2 by rw [hc]; rfl,hw]; decide +kernel
  · obtain ⟨a,b,x,y,hc,_⟩:=o.sSets (qe1 hw)
    rw [show h.c.length=2 by rw [hc]; rfl]
    rcases hw with hw | hw <;> rw [hw] <;> decide +kernel
  · obtain ⟨a,b,hc,_⟩:=o.sOther (by rw [hw]; exact yg1)
    rw [show h.c.length=2 by rw [hc]; rfl,hw]; decide +kernel
  · obtain ⟨a,b,v,hc,_⟩:=o.sBoth (by rw [hw]; exact qia)
    rw [show h.c.length=2 by rw [hc]; rfl,hw]; decide +kernel
theorem qjy {hs:List Hm} (o:Oks hs):(allC hs).length≤2 * hs.length:=by
  induction hs with
  | nil=>simp [allC]
  | cons h hs ih=>
    have:=ih fun g hg=>o g (List.mem_cons_of_mem _ hg)
    obtain ⟨ns,oh⟩:=o h (List.mem_cons_self ..)
    have hc:=oh.cl
    unfold allC at this ⊢
    rw [List.flatMap_cons,List.length_append,List.length_cons]
    omega
section
variable {P:Program} {w:World} {K:PySem.W.Frag} {mg:Str→Option Value} {base:Heap}
def qha:Sp:=fun vs H Q _=>∃ L us hs,vs=[.ref L]∧H L=some (.lst us)∧HsV H us hs∧Oks hs∧hs.length≤4∧∀ (D:Addr) (ns:List Int) (H':Hp),Same H H'→H D=none→H' D=some (.lst (ns.map V.int))→ns.Perm (uniq (allC hs))→ns.Pairwise (·≤·)→Q (.ref D) H'
abbrev qbu:Stmt:=top 59
theorem yed:FnScope ["_law_harms_here","_law_found","_law_harm_here"] ["_law_harms_here"] (yab qbu):=⟨rfl,rfl,rfl,by decide +kernel,rfl,by decide +kernel,by decide +kernel⟩
theorem qjk (B:Bl mg) (qb2:mg "set" = none) (F:FnAt K mg "_law_cells" qbu ["_law_harms_here"]):Has P w K mg base 1 "_law_cells" ["_law_harms_here"] qha:=by
  refine Has.ofQ F yed (fun vs H Q E h=>?_) (fun f cdv A outer s H vs Q E hr h=>?_)
  · obtain ⟨L,us,hs,rfl,_⟩:=h
    rfl
  · obtain ⟨L,us,hs,rfl,hL,hv,ok,h4,k⟩:=h
    have sc:=yed
    refine ⟨_,(qai rfl (yad (qaw (i:=1) sc.nd rfl (Or.inl rfl) (yap qad))
      (yad (qdw PassesOwn.never rfl (qfb (qaa (pv 0))) (qaq (i:=2) sc.nd rfl (Or.inl rfl))
        (yad (ya6 (qe_bm PySem.F.plainAttrs_list PySem.F.slot_list_append PySem.F.type_list_append qc0 (qaa (pv 1)) (qew (ybu ybw (qaa (pv 2)) (qaa qac) (fun _ _=>rfl)) qad)))
        (qae (ya2 (yav ybg (ybu ybw (qaa (pv 2)) (qaa qac) (fun _ _=>rfl)) (qe_tstrs (xs:=["turns","sets","keeps","other","both"]) (by decide +kernel)) (by with_unfolding_all rfl))
          (qae (ya6 (qe_bm PySem.F.plainAttrs_list PySem.F.slot_list_append PySem.F.type_list_append qc0 (qaa (pv 1)) (qew (ybu ybw (qaa (pv 2)) (qaa qac) (fun _ _=>rfl)) qad))))
          qat))))
      (qae (yao (qa8 (qcb rfl) rfl (B.of rfl) qcd (qhz (qbi (qb0 rfl) rfl qb2 qbv (yaf (qaa (pv 1)) qad)) qad))))))),?_⟩
    have z5:5≤sizeLine:=by decide
    have al:∀ i,(allC (hs.take i)).length≤8:=fun i=>by
      have h1:=qjy (hs:=hs.take i) fun h hh=>ok h (List.mem_of_mem_take hh)
      rw [List.length_take] at h1
      omega
    refine ⟨Nat.zero_le _,fun p hp=>?_⟩
    generalize hG1:upd H p _=H1
    have s1:Same H H1:=by rw [← hG1]; exact (Same.refl H).upd hp
    have f1:H1 p=some (.lst []):=by rw [← hG1]; exact qab
    clear hG1
    refine ⟨_,rfl,L,rfl,⟨us,SqL.of (s1 _ _ hL)⟩,ycr (xs:=us) (fun i σ H2=>∃ (o2:Option V),σ=[some (.ref L),some (.ref p),o2]∧Same H H2∧H2 p=some (.lst ((allC (hs.take i)).map V.int)))
      ⟨none,rfl,s1,f1⟩ (fun i σ H2 _ ⟨_,_,h,_⟩=>SqL.of (h _ _ hL)) ?_ ?_⟩
    · rintro i x σ H2 hx ⟨o2,rfl,s2,e2⟩
      obtain ⟨g,hg,hat⟩:=hv.get hx
      obtain ⟨nn,og⟩:=ok g (List.mem_of_getElem? hg)
      obtain ⟨a,rfl,ha⟩:=HAt.same s2 hat
      have ali:=al i
      refine ⟨_,rfl,.inl ⟨rfl,_,SqL.of e2⟩,?_⟩
      refine ⟨_,rfl,a,_,_,_,rfl,rfl,SqT.of ha,qal 1 og.at1,p,_,_,rfl,rfl,e2,ycl (by rw [List.length_map]; omega),?_⟩
      have nap:a≠p:=fun z=>by subst z; rw [e2] at ha; cases ha
      generalize hG3:upd H2 p _=H3
      have s3:Same H H3:=by rw [← hG3]; exact s2.at hp
      have f3:H3 p=some (.lst ((allC (hs.take i)).map V.int++[.int (g.cell 0)])):=by rw [← hG3]; exact qab
      have ha3:H3 a=some (.tup (hV g)):=by rw [← hG3,qaf nap]; exact ha
      clear hG3
      refine ⟨_,rfl,a,_,_,_,rfl,rfl,SqT.of ha3,qal 0 rfl,z5,fun t ht=>?_⟩
      have s4:Same H3 (upd H3 t (.tup (two5.map V.str))):=(Same.refl H3).upd ht
      refine ⟨t,two5.map V.str,rfl,.inr (SqT.of qab),rfl,rfl,_,rfl,?_⟩
      generalize hG4:upd H3 t _=H4
      have s4:Same H3 H4:=by rw [← hG4]; exact s4
      clear hG4
      rcases qck og with ⟨c,hc⟩ | ⟨c,c2,hc⟩
      · refine iteN (by show inV _ _=false; rw [two_is og,hc]; rfl) ?_
        refine ⟨_,rfl,s3.trans s4,?_⟩
        rw [s4 _ _ f3,ycc hg,hc,List.map_append]
        unfold Hm.cell
        rw [hc]
        rfl
      · refine iteB (by show inV _ _=true; rw [two_is og,hc]; rfl) ?_
        have h2:(hV g)[2]?=some (.int c2):=by unfold hV; rw [hc]; rfl
        refine ⟨_,rfl,.inl ⟨rfl,_,SqL.of (s4 _ _ f3)⟩,?_⟩
        refine ⟨_,rfl,a,_,_,_,rfl,rfl,SqT.of (s4 _ _ ha3),qal 2 h2,p,_,_,rfl,rfl,s4 _ _ f3,ycl (by rw [List.length_append,List.length_map]; simp; omega),?_⟩
        refine ⟨_,rfl,(s3.trans s4).at hp,?_⟩
        rw [qab,ycc hg,hc,List.map_append]
        unfold Hm.cell
        rw [hc]
        simp
    · rintro σ H2 ⟨o2,rfl,s2,e2⟩
      rw [hv.len,List.take_length] at e2
      have a8:=qjy ok
      have u8:=qez (allC hs)
      refine ⟨_,rfl,p,_,rfl,e2,by omega,fun q hq=>?_⟩
      have s6:Same H2 (upd H2 q (SetO P w q (uniq (allC hs)))):=(Same.refl H2).upd hq
      refine ⟨q,_,rfl,qab,by omega,fun l ns hl hpm hso=>?_⟩
      exact k l ns _ ((s2.trans s6).upd hl) ((s2.trans s6).free hl) qab hpm hso
end
end Mh
set_option Elab.async false
set_option linter.all false
set_option maxRecDepth 100000
set_option maxHeartbeats 4000000
namespace Mh
open PySem L2 PyProof.Rows Mx
theorem take5 {l:List Int} {a:Nat} (h:a + 5≤l.length):(l.drop a).take 5=[l.getD a 0,l.getD (a + 1) 0,l.getD (a + 2) 0,l.getD (a + 3) 0,l.getD (a + 4) 0]:=by
  have g:∀ k,k < l.length→l.getD k 0=l[k]?.getD 0:=fun k _=>List.getD_eq_getElem?_getD ..
  rw [List.drop_eq_getElem_cons (show a < l.length by omega),List.drop_eq_getElem_cons (show a + 1 < l.length by omega),List.drop_eq_getElem_cons (show a + 1 + 1 < l.length by omega),List.drop_eq_getElem_cons (show a + 1 + 1 + 1 < l.length by omega),List.drop_eq_getElem_cons (show a + 1 + 1 + 1 + 1 < l.length by omega)]
  simp only [List.take_succ_cons,List.take_zero,List.getD_eq_getElem?_getD]
  rw [List.getElem?_eq_getElem (show a < l.length by omega),List.getElem?_eq_getElem (show a + 1 < l.length by omega),List.getElem?_eq_getElem (show a + 2 < l.length by omega),List.getElem?_eq_getElem (show a + 3 < l.length by omega),List.getElem?_eq_getElem (show a + 4 < l.length by omega)]
  rfl
theorem cut_mid {xs:List V} {a b:Nat}:cutV xs (some (a:Int)) (some (b:Int))=(xs.drop (min a xs.length)).take (min b xs.length - min a xs.length):=by
  unfold cutV
  rw [HT.sIx_nat,HT.sIx_nat]
def dg16:List Int:=[4,20,64,64,2,2,20,64,64,2,2,20,64,64,2,2]
theorem dg_at {ds:List Int} (h:Dig ds dg16) {i:Nat} (hi:i < 3):ds.length=16∧0≤ds.getD (1 + 5 * i) 0∧0≤ds.getD (1 + 5 * i + 1) 0∧0≤ds.getD (1 + 5 * i + 2) 0∧(0≤ds.getD (1 + 5 * i + 3) 0∧ds.getD (1 + 5 * i + 3) 0 < 2)∧0≤ds.getD (1 + 5 * i + 4) 0∧ds.getD (1 + 5 * i + 4) 0 < 2:=by
  have g:∀ {j:Nat} {z:Int},dg16[j]?=some z→0≤ds.getD j 0∧ds.getD j 0 < z:=fun {j z} hz=>by
    obtain ⟨d,h1,h2,h3⟩:=h.get hz
    rw [List.getD_eq_getElem?_getD,h1]
    exact ⟨h2,h3⟩
  refine ⟨h.1,?_⟩
  rcases (by omega:i=0∨i=1∨i=2) with rfl | rfl | rfl
  · exact ⟨(g (j:=1) rfl).1,(g (j:=2) rfl).1,(g (j:=3) rfl).1,g (j:=4) rfl,(g (j:=5) rfl).1,(g (j:=5) rfl).2⟩
  · exact ⟨(g (j:=6) rfl).1,(g (j:=7) rfl).1,(g (j:=8) rfl).1,g (j:=9) rfl,(g (j:=10) rfl).1,(g (j:=10) rfl).2⟩
  · exact ⟨(g (j:=11) rfl).1,(g (j:=12) rfl).1,(g (j:=13) rfl).1,g (j:=14) rfl,(g (j:=15) rfl).1,(g (j:=15) rfl).2⟩
section
variable {P:Program} {w:World} {K:PySem.W.Frag} {mg:Str→Option Value} {base:Heap}
def ygw:Sp:=fun vs H Q _=>∃ (D:Addr) (ds:List Int) (n:Int),vs=[.ref D,.int n]∧H D=some (.lst (ds.map V.int))∧Dig ds dg16∧1≤n∧n≤64∧∀ (p:Addr) (us:List V) (hs:List Hm) (S:List Int) (H':Hp),Same H H'→H p=none→H' p=some (.lst us)→HsV H' us hs→okHs hs S→(∀ h∈hs,qi0 n h)→Q (.ref p) H'
abbrev ybs:Stmt:=top 60
theorem yee:FnScope ["_law_d","_law_size","_law_harms_here","_law_k","_law_more"] ["_law_d","_law_size"] (yab ybs):=⟨rfl,rfl,rfl,by decide +kernel,rfl,by decide +kernel,by decide +kernel⟩
theorem qjn (B:Bl mg) (qhw:Has P w K mg base 1 "_law_harm" ["_law_d","_law_size"] qh8) (qgr:Has P w K mg base 1 "_law_cells" ["_law_harms_here"] qha) (F:FnAt K mg "_law_harms" ybs ["_law_d","_law_size"]):Has P w K mg base 2 "_law_harms" ["_law_d","_law_size"] ygw:=by
  refine Has.ofQ F yee (fun vs H Q E h=>?_) (fun f cdv A outer s H vs Q E hr h=>?_)
  · obtain ⟨D,ds,n,rfl,_⟩:=h
    rfl
  · obtain ⟨D,ds,n,rfl,hD,hdg,n1,n64,k⟩:=h
    have sc:=yee
    refine ⟨_,(qai rfl (yad (qaw (i:=2) sc.nd rfl (Or.inl rfl) (yap qad))
      (yad (qdw PassesOwn.never rfl (qkg (yfj rfl (B.of rfl) (yaa (ybq yaq (pv 0) qac (fun _ _=>rfl)) yac))) (qaq (i:=3) sc.nd rfl (Or.inl rfl))
        (yad (qaw (i:=4) sc.nd rfl (Or.inl rfl) (qa3 ycg (qaa (pv 2)) (yap (qhz (yai qhw hr (qew (yg3 yda (qaa (pv 0)) (qbw (ycn qdg qac (ycn ydb qac (pv 3)))) (qbw (ycn qdg qac (ycn ydb qac (pv 3))))) (yaf (qaa (pv 1)) qad))) qad))))
        (qae (ya2 (yav qg9 (qa8 yal rfl (B.of rfl) boot_len (qhz (yai qgr hr (yaf (qaa (pv 4)) qad)) qad)) (qaa qac) (yah _))
          (qae (qaw (i:=2) sc.nd rfl (Or.inl rfl) (qaa (pv 4))))
          qat))))
      (qae (yao (qaa (pv 2))))))),?_⟩
    have z1:1≤sizeLine:=by decide
    obtain ⟨d0,g0,m0,m4⟩:=hdg.get (i:=0) (z:=4) rfl
    obtain ⟨nn,hnn⟩:∃ nn:Nat,d0=(nn:Int):=⟨d0.toNat,by omega⟩
    subst hnn
    refine ⟨Nat.zero_le _,fun p0 hp0=>?_⟩
    generalize hG1:upd H p0 _=H1
    have s1:Same H H1:=by rw [← hG1]; exact (Same.refl H).upd hp0
    have f1:H1 p0=some (.lst []):=by rw [← hG1]; exact qab
    clear hG1
    refine ⟨_,rfl,D,_,_,_,rfl,rfl,SqL.of (s1 _ _ hD),qal 0 (qd4 g0),nn,rfl,by omega,by omega,ye6 (n:=nn) (fun i σ H2=>∃ (p:Addr) (us:List V) (hs:List Hm) (S:List Int) (o3 o4:Option V),σ=[some (.ref D),some (.int n),some (.ref p),o3,o4]∧Same H H2∧H p=none∧H2 p=some (.lst us)∧HsV H2 us hs∧hs.length≤i∧okHs hs S∧∀ h∈hs,qi0 n h)
      ⟨p0,[],[],[],_,_,rfl,s1,hp0,f1,⟨rfl,fun i v h a b=>by simp at a⟩,by simp,⟨by simp,(fun _ h=>nomatch h),by simp,(fun _ h=>nomatch h)⟩,(fun _ h=>nomatch h)⟩ ?_ ?_⟩
    · rintro i σ H2 hi ⟨p,us,hs,S,o3,o4,rfl,s2,np,e2,hv,hl,ok,hg⟩
      obtain ⟨dl,q0,q1,q2,q3,q4⟩:=dg_at hdg (i:=i) (by omega)
      have cm5:CMul 5 (0 + (i:Int)):=.inl ⟨by decide,by decide⟩
      refine ⟨_,rfl,_,rfl,_,rfl,_,_,rfl,rfl,cm5,_,_,rfl,rfl,((1 + 5 * i:Nat):Int),congrArg V.int (by show (1:Int) + 5 * (0 + (i:Int))=_; omega),_,rfl,_,_,rfl,rfl,cm5,_,_,rfl,rfl,((6 + 5 * i:Nat):Int),congrArg V.int (by show (6:Int) + 5 * (0 + (i:Int))=_; omega),D,_,rfl,SqL.of (s2 _ _ hD),fun q hq=>?_⟩
      have ecut:cutV (ds.map V.int) (some ((1 + 5 * i:Nat):Int)) (some ((6 + 5 * i:Nat):Int))=[V.int (ds.getD (1 + 5 * i) 0),.int (ds.getD (1 + 5 * i + 1) 0),.int (ds.getD (1 + 5 * i + 2) 0),.int (ds.getD (1 + 5 * i + 3) 0),.int (ds.getD (1 + 5 * i + 4) 0)]:=by
        rw [cut_mid,List.length_map,dl,show min (6 + 5 * i) 16 - min (1 + 5 * i) 16=5 by omega,show min (1 + 5 * i) 16=1 + 5 * i by omega,← List.map_drop,← List.map_take,take5 (by omega)]
        rfl
      rw [ecut]
      generalize hG3:upd H2 q _=H3
      have s3:Same H2 H3:=by rw [← hG3]; exact (Same.refl H2).upd hq
      have f3:H3 q=some (.lst [V.int (ds.getD (1 + 5 * i) 0),.int (ds.getD (1 + 5 * i + 1) 0),.int (ds.getD (1 + 5 * i + 2) 0),.int (ds.getD (1 + 5 * i + 3) 0),.int (ds.getD (1 + 5 * i + 4) 0)]):=by rw [← hG3]; exact qab
      clear hG3 ecut
      refine ⟨_,rfl,q,_,_,_,_,_,n,rfl,f3,q0,q1,q2,q3.1,q3.2,q4.1,q4.2,n1,n64,fun v h H4 s4 hat hgd=>?_⟩
      refine ⟨z1,fun b hb=>?_⟩
      generalize hG5:upd H4 b _=H5
      have s5:Same H4 H5:=by rw [← hG5]; exact (Same.refl H4).upd hb
      have f5:H5 b=some (.lst [v]):=by rw [← hG5]; exact qab
      clear hG5
      have s25:=(s3.trans s4).trans s5
      have hul:=hv.len
      refine ⟨p,b,us,_,rfl,rfl,s25 _ _ e2,f5,ykc (by simp; omega),fun p2 hp2=>?_⟩
      generalize hG6:upd H5 p2 _=H6
      have s6:Same H5 H6:=by rw [← hG6]; exact (Same.refl H5).upd hp2
      have f6:H6 p2=some (.lst (us++[v])):=by rw [← hG6]; exact qab
      clear hG6
      have s26:=s25.trans s6
      have np2:H p2=none:=(s2.trans s25).free hp2
      have hv6:HsV H6 (us++[v]) (hs++[h]):=(hv.same s26).snoc (HAt.same (s5.trans s6) hat)
      have oks6:Oks (hs++[h]):=fun g hg'=>by
        rcases List.mem_append.mp hg' with hg' | hg'
        · exact ok.ok g hg'
        · rw [List.mem_singleton.mp hg']; exact hgd.1
      refine gn ?_
      dsimp only
      refine ⟨_,rfl,p2,_,_,rfl,f6,hv6,oks6,by simp; omega,fun DD ns H7 s7 nDD eDD hpm hso=>?_⟩
      refine ⟨DD,_,rfl,.inl (SqL.of eDD),_,_,rfl,rfl,_,rfl,?_⟩
      have s27:=s26.trans s7
      by_cases h4:ns.length < 4
      · refine iteB (decide_eq_true (by rw [List.length_map]; omega)) ?_
        refine ⟨_,rfl,p2,us++[v],hs++[h],ns,_,_,rfl,s2.trans s27,np2,s7 _ _ f6,hv6.same s7,by simp; omega,⟨by simp; omega,oks6,by omega,fun g hg' c hc=>?_⟩,fun g hg'=>?_⟩
        · exact hpm.mem_iff.mpr ((yeb _ c).mpr (List.mem_flatMap.mpr ⟨g,hg',hc⟩))
        · rcases List.mem_append.mp hg' with hg' | hg'
          · exact hg g hg'
          · rw [List.mem_singleton.mp hg']; exact hgd
      · refine iteN (decide_eq_false (by rw [List.length_map]; omega)) ?_
        exact ⟨p,us,hs,S,_,_,rfl,s2.trans s27,np,s27 _ _ e2,hv.same s27,by omega,ok,hg⟩
    · rintro σ H2 ⟨p,us,hs,S,o3,o4,rfl,s2,np,e2,hv,hl,ok,hg⟩
      exact ⟨_,rfl,k p us hs S H2 s2 np e2 hv ok hg⟩
end
end Mh
set_option Elab.async false
set_option linter.all false
set_option maxRecDepth 100000
set_option maxHeartbeats 4000000
namespace Mh
open PySem L2 PyProof.Rows Mx
def qcc:PyData→Bool | .int _=>true | _=>false
def bitD:PyData→Bool | .int i=>decide (i=0∨i=1) | _=>false
def oneD (xs:List V):PyData→Bool | .str x=>inV (.str x) xs | _=>false
section
variable {P:Program} {w:World} {K:PySem.W.Frag} {mg:Str→Option Value} {base:Heap}
def qc9:Sp:=fun vs H Q _=>∃ v d,vs=[v]∧AtX H v d∧Q (.bl (qcc d)) H
theorem og_whole (B:Bl mg) (F:FnAt K mg "is_whole" qb4 ["thing"]):Has P w K mg base 1 "is_whole" ["thing"] qc9:=by
  refine Has.ofQ F yc1 (fun vs H Q E h=>?_) (fun f cdv A outer s H vs Q E hr h=>?_)
  · obtain ⟨v,d,rfl,_⟩:=h
    rfl
  · obtain ⟨v,d,rfl,hv,q⟩:=h
    have sc:=yc1
    refine ⟨_,(qai rfl (qae (yao (qaa (yax (yae ya8 rfl (B.of rfl) boot_isinstance (yaa (pv 0) (yaa (ybf (v:=.ty "int") rfl (B.of rfl) boot_int rfl) yac))) (qbg (pe_not (yae ya8 rfl (B.of rfl) boot_isinstance (yaa (pv 0) (yaa (ybf (v:=.ty "bool") rfl (B.of rfl) boot_bool rfl) yac)))))))))),?_⟩
    refine ⟨_,rfl,_,_,_,_,rfl,hv.ty,kit_int d,_,rfl,?_⟩
    cases hi:isInt d with
    | false=>
      have e:qcc d=false:=by cases d <;> first | rfl | cases hi
      rw [e] at q
      exact iteF q
    | true=>
      refine iteT ⟨_,rfl,_,_,_,_,rfl,hv.ty,kit_bl d,_,rfl,?_⟩
      have e:qcc d=!isBl d:=by cases d <;> first | rfl | cases hi
      rw [e] at q
      exact q
def qii:Sp:=fun vs H Q _=>∃ v d,vs=[v]∧AtX H v d∧∀ H',Same H H'→Q (.bl (bitD d)) H'
theorem og_bit (qap:Has P w K mg base 1 "is_whole" ["thing"] qc9) (F:FnAt K mg "is_bit" yc3 ["thing"]):Has P w K mg base 2 "is_bit" ["thing"] qii:=by
  refine Has.ofQ F yef (fun vs H Q E h=>?_) (fun f cdv A outer s H vs Q E hr h=>?_)
  · obtain ⟨v,d,rfl,_⟩:=h
    rfl
  · obtain ⟨v,d,rfl,hv,q⟩:=h
    have sc:=yef
    refine ⟨_,(qai rfl (qae (yao (qaa (yax (qak qap hr (yaa (pv 0) yac)) (qbg (yar ybg (pv 0) (yh7 (yaa qac (yaa qac yac))) (by with_unfolding_all rfl)))))))),?_⟩
    refine ⟨_,rfl,v,d,rfl,hv,_,rfl,?_⟩
    cases hw:qcc d with
    | false=>
      have e:bitD d=false:=by cases d <;> first | rfl | cases hw
      rw [e] at q
      exact iteF (q H (Same.refl H))
    | true=>
      obtain ⟨i,rfl⟩:∃ i,d=.int i:=by cases d <;> first | exact ⟨_,rfl⟩ | cases hw
      have ev:v=.int i:=by
        rcases hv with h | ⟨e,_⟩
        · exact h.intEq
        · cases e
      subst ev
      refine iteT ⟨_,rfl,(by show 2≤sizeLine; decide),fun t ht=>⟨t,_,rfl,.inr (SqT.of qab),rfl,by decide,?_⟩⟩
      have e:inV (.int i) [.int 0,.int 1]=bitD (.int i):=by
        unfold bitD
        show ((0 == i) || ((1 == i) || false))=_
        rw [Bool.eq_iff_iff,decide_eq_true_eq,Bool.or_false,Bool.or_eq_true,beq_iff_eq,beq_iff_eq]
        constructor
        · rintro (h | h)
          · exact .inl h.symm
          · exact .inr h.symm
        · rintro (h | h)
          · exact .inl h.symm
          · exact .inr h.symm
      show Q (.bl (inV (.int i) [.int 0,.int 1])) _
      rw [e]
      exact q _ ((Same.refl H).upd ht)
def sg_one (K:PySem.W.Frag):Sp:=fun vs H Q _=>∃ v d a xs,vs=[v,.ref a]∧AtX H v d∧(∀ H',SqT K H' a xs)∧xs.all qed=true∧Q (.bl (oneD xs d)) H
theorem og_one (B:Bl mg) (F:FnAt K mg "is_one_of" ybp ["thing","words"]):Has P w K mg base 1 "is_one_of" ["thing","words"] (sg_one K):=by
  refine Has.ofQ F qcr (fun vs H Q E h=>?_) (fun f cdv A outer s H vs Q E hr h=>?_)
  · obtain ⟨v,d,a,xs,rfl,_⟩:=h
    rfl
  · obtain ⟨v,d,a,xs,rfl,hv,ha,hx,q⟩:=h
    have sc:=qcr
    refine ⟨_,(qai rfl (qae (yao (qaa (yax (yae ya8 rfl (B.of rfl) boot_isinstance (yaa (pv 0) (yaa (ybf (v:=.ty "str") rfl (B.of rfl) boot_str rfl) yac))) (qbg (yar ybg (pv 0) (pv 1) (by with_unfolding_all rfl)))))))),?_⟩
    refine ⟨_,rfl,_,_,_,_,rfl,hv.ty,qjj d,_,rfl,?_⟩
    cases hs:isStr d with
    | false=>
      have e:oneD xs d=false:=by cases d <;> first | rfl | cases hs
      rw [e] at q
      exact iteF q
    | true=>
      obtain ⟨x,rfl⟩:∃ x,d=.str x:=by cases d <;> first | exact ⟨_,rfl⟩ | cases hs
      have ev:v=.str x:=by
        rcases hv with h | ⟨e,_⟩
        · exact h.strEq
        · cases e
      subst ev
      exact iteT ⟨_,rfl,_,rfl,a,xs,rfl,.inr (ha _),rfl,hx,q⟩
def yj5:PyData→Bool | .int i=>decide (0≤i∧i < 64) | _=>false
def ykp:Sp:=fun vs H Q _=>∃ v d,vs=[v]∧AtX H v d∧Q (.bl (yj5 d)) H
theorem og_cell (qbj:∃ t,mg "MOST_CELLS" = some (.int 64 t)) (qap:Has P w K mg base 1 "is_whole" ["thing"] qc9) (F:FnAt K mg "is_cell" yco ["thing"]):Has P w K mg base 2 "is_cell" ["thing"] ykp:=by
  refine Has.ofQ F qdo (fun vs H Q E h=>?_) (fun f cdv A outer s H vs Q E hr h=>?_)
  · obtain ⟨v,d,rfl,_⟩:=h
    rfl
  · obtain ⟨v,d,rfl,hv,q⟩:=h
    have sc:=qdo
    refine ⟨_,(qai rfl (qae (yao (qaa (yax (qak qap hr (yaa (pv 0) yac)) (yax (yar yew (pv 0) qac (yah _)) (qbg (yar qg9 (pv 0) (qcu qbj) (yah _))))))))),?_⟩
    refine ⟨_,rfl,v,d,rfl,hv,_,rfl,?_⟩
    cases hw:qcc d with
    | false=>
      have e:yj5 d=false:=by cases d <;> first | rfl | cases hw
      rw [e] at q
      exact iteF q
    | true=>
      obtain ⟨i,rfl⟩:∃ i,d=.int i:=by cases d <;> first | exact ⟨_,rfl⟩ | cases hw
      have ev:v=.int i:=by
        rcases hv with h | ⟨e,_⟩
        · exact h.intEq
        · cases e
      subst ev
      have e:yj5 (.int i)=decide (0≤i∧i < 64):=rfl
      rw [e] at q
      refine iteT ⟨_,rfl,_,_,rfl,rfl,_,rfl,?_⟩
      by_cases h0:0≤i
      · refine iteD h0 ⟨_,rfl,_,_,rfl,rfl,?_⟩
        rw [show decide (0≤i∧i < 64)=decide (i < 64) by simp [h0]] at q
        exact q
      · refine qdi h0 ?_
        rw [decide_eq_false (fun z=>h0 z.1)] at q
        exact q
def qdt (nm:Str) (d:PyData):Bool:=if nm="cell" then yj5 d else if nm="bit" then bitD d else oneD [.str "and",.str "or"] d
def qkx:Sp:=fun vs H Q _=>∃ nm v d,vs=[.str nm,v]∧AtX H v d∧∀ H',Same H H'→Q (.bl (qdt nm d)) H'
theorem og_part (yeh:GTup K mg "JOININGS" [.str "and",.str "or"]) (ye9:Has P w K mg base 2 "is_cell" ["thing"] ykp) (ych:Has P w K mg base 2 "is_bit" ["thing"] qii) (yd0:Has P w K mg base 1 "is_one_of" ["thing","words"] (sg_one K)) (F:FnAt K mg "is_part" qcn ["name","thing"]):Has P w K mg base 3 "is_part" ["name","thing"] qkx:=by
  refine Has.ofQ F qdp (fun vs H Q E h=>?_) (fun f cdv A outer s H vs Q E hr h=>?_)
  · obtain ⟨nm,v,d,rfl,_⟩:=h
    rfl
  · obtain ⟨nm,v,d,rfl,hv,q⟩:=h
    have sc:=qdp
    refine ⟨_,(qai rfl (yad (ya2 (yav ycz (qaa (pv 0)) (qaa yan) (yah _))
        (qae (yao (yai ye9 hr (yaf (qaa (pv 1)) qad))))
        qat)
      (yad (ya2 (yav ycz (qaa (pv 0)) (qaa yan) (yah _))
        (qae (yao (yai ych hr (yaf (qaa (pv 1)) qad))))
        qat)
      (qae (yao (yai yd0 hr (yaf (qaa (pv 1)) (yaf (qaa (qkz yeh)) qad)))))))),?_⟩
    unfold qdt at q
    refine ⟨_,rfl,rfl,_,rfl,?_⟩
    by_cases h1:nm="cell"
    · rw [if_pos h1] at q
      exact iteB (by rw [h1]; decide +kernel) ⟨_,rfl,v,d,rfl,hv,q H (Same.refl H)⟩
    · rw [if_neg h1] at q
      refine iteN (by simpa using h1) ⟨_,rfl,rfl,_,rfl,?_⟩
      by_cases h2:nm="bit"
      · rw [if_pos h2] at q
        exact iteB (by rw [h2]; decide +kernel) ⟨_,rfl,v,d,rfl,hv,q⟩
      · rw [if_neg h2] at q
        exact iteN (by simpa using h2) ⟨_,rfl,fun g hg=>⟨v,d,g,_,rfl,hv,hg,by decide,q H (Same.refl H)⟩⟩
def qgs:PyData→Bool | .tuple (.str x :: _)=>KTD.inKeys x tabP | _=>false
def qjw:Sp:=fun vs H Q _=>∃ v d,vs=[v]∧AtX H v d∧Q (.bl (qgs d)) H
theorem og_word (B:Bl mg) {aP:Addr} (gP:mg "PARTS" = some (.ref aP)) (TP:TabK K aP tabP) (F:FnAt K mg "has_word" yb4 ["thing"]):Has P w K mg base 1 "has_word" ["thing"] qjw:=by
  refine Has.ofQ F qc2 (fun vs H Q E h=>?_) (fun f cdv A outer s H vs Q E hr h=>?_)
  · obtain ⟨v,d,rfl,_⟩:=h
    rfl
  · obtain ⟨v,d,rfl,hv,q⟩:=h
    have sc:=qc2
    refine ⟨_,(qai rfl (qae (yao (qaa (yax (yae ya8 rfl (B.of rfl) boot_isinstance (yaa (pv 0) (yaa (ybf (v:=.ty "tuple") rfl (B.of rfl) boot_tuple rfl) yac))) (yax (yar yfv (yae yal rfl (B.of rfl) boot_len (yaa (pv 0) yac)) qac (yah _)) (yax (yae ya8 rfl (B.of rfl) boot_isinstance (yaa (ybq ybw (pv 0) qac (fun _ _=>rfl)) (yaa (ybf (v:=.ty "str") rfl (B.of rfl) boot_str rfl) yac))) (qbg (yar (qid (D:=tabP)) (ybq ybw (pv 0) qac (fun _ _=>rfl)) (ybd (v:=.ref aP) rfl gP rfl) (by with_unfolding_all rfl)))))))))),?_⟩
    refine ⟨_,rfl,_,_,_,_,rfl,hv.ty,kit_tup d,_,rfl,?_⟩
    cases hs:isTup d with
    | false=>
      have e:qgs d=false:=by cases d <;> first | rfl | cases hs
      rw [e] at q
      exact iteF q
    | true=>
      obtain ⟨ds,rfl⟩:∃ ds,d=.tuple ds:=by cases d <;> first | exact ⟨_,rfl⟩ | cases hs
      have hv':At H v (.tuple ds):=by
        rcases hv with h | ⟨e,_⟩
        · exact h
        · cases e
      obtain ⟨a,vs,rfl,ha,hw⟩:=hv'.tupEq
      refine iteT ⟨_,rfl,a,_,rfl,.inr (SqT.of ha),_,_,rfl,rfl,_,rfl,?_⟩
      cases hw with
      | nil=>exact qdi (by simp) q
      | cons h1 rr=>
        rename_i x d1 xs ds1
        refine iteD (by simp) ?_
        refine ⟨_,rfl,a,_,_,_,rfl,rfl,SqT.of ha,qal 0 rfl,_,_,_,_,rfl,AtX.ty (.inl h1),qjj d1,_,rfl,?_⟩
        cases hs1:isStr d1 with
        | false=>
          have e:qgs (.tuple (d1 :: ds1))=false:=by cases d1 <;> first | rfl | cases hs1
          rw [e] at q
          exact iteF q
        | true=>
          obtain ⟨o,rfl⟩:∃ o,d1=.str o:=by cases d1 <;> first | exact ⟨_,rfl⟩ | cases hs1
          have:=h1.strEq
          subst this
          exact iteT ⟨_,rfl,a,_,_,_,rfl,rfl,SqT.of ha,qal 0 rfl,aP,o,rfl,rfl,TP,q⟩
end
end Mh
set_option Elab.async false
set_option linter.all false
set_option maxRecDepth 100000
set_option maxHeartbeats 4000000
namespace Mh
open PySem L2 PyProof.Rows Mx
structure okP (h:Hm) (ns:List Str):Prop where
  tab:KTD.datumAt h.w tabP=some (yaw h.c.length ns)
  rest:Rest ns h.r
  cl:1≤h.c.length∧h.c.length≤2
  rl:ns.length≤2
  rg:∀ x∈h.c,0≤x∧x < 64
theorem okP.full {h:Hm} {ns:List Str} (o:okP h ns) (nd:h.c.Nodup):okH h ns:=⟨o.tab,o.rest,o.cl,o.rl,nd,o.rg⟩
theorem okP.len {h:Hm} {ns:List Str} (o:okP h ns):(h.c.map V.int++h.r).length=(yaw h.c.length ns).length:=by
  unfold yaw
  simp [o.rest.len]
theorem okP.cellAt {h:Hm} {ns:List Str} (o:okP h ns) {i:Nat} {x y:V} (hx:(yaw h.c.length ns)[i]?=some x) (hy:(h.c.map V.int++h.r)[i]?=some y) :
    (x=.str "cell"∧∃ c,h.c[i]?=some c∧y=.int c)∨(h.c.length≤i∧((x=.str "bit"∧bitV y)∨(x=.str "how"∧howV y))):=by
  unfold yaw at hx
  by_cases hi:i < h.c.length
  · rw [List.getElem?_append_left (by simpa using hi),List.getElem?_replicate,if_pos hi] at hx
    rw [List.getElem?_append_left (by simpa using hi)] at hy
    obtain ⟨c,hc,rfl⟩:=ycv hy
    exact .inl ⟨(Option.some.inj hx).symm,c,hc,rfl⟩
  · rw [List.getElem?_append_right (by simpa using Nat.le_of_not_lt hi)] at hx
    rw [List.getElem?_append_right (by simpa using Nat.le_of_not_lt hi)] at hy
    simp only [List.length_replicate,List.length_map] at hx hy
    obtain ⟨n,hn,rfl⟩:=ycv hx
    rcases o.rest.get hn hy with ⟨rfl,hb⟩ | ⟨rfl,hb⟩
    · exact .inr ⟨Nat.le_of_not_lt hi,.inl ⟨rfl,hb⟩⟩
    · exact .inr ⟨Nat.le_of_not_lt hi,.inr ⟨rfl,hb⟩⟩
section
variable {P:Program} {w:World} {K:PySem.W.Frag} {mg:Str→Option Value} {base:Heap}
def yfk:Sp:=fun vs H Q _=>∃ v h ns,vs=[v]∧HAt H v h∧okP h ns∧∀ D H',Same H H'→H D=none→H' D=some (.lst (h.c.map V.int))→Q (.ref D) H'
theorem qhq (B:Bl mg) (qex:mg "zip" = none) {aP:Addr} (gP:mg "PARTS" = some (.ref aP)) (TP:TabK K aP tabP) (F:FnAt K mg "cells_in" qb1 ["harm"]):Has P w K mg base 1 "cells_in" ["harm"] yfk:=by
  refine Has.of F qc3 (fun vs H Q E h=>?_) (fun f cdv A outer s H vs Q E hr h=>?_)
  · obtain ⟨v,h,ns,rfl,_⟩:=h
    rfl
  · obtain ⟨v,h,ns,rfl,⟨a,rfl,ha⟩,ok,k⟩:=h
    have sc:=qc3
    refine ⟨_,(yaj (qbc (qcl rfl (qbf rfl) (M:=["name","part"]) (ix:=[none,none]) (yic rfl qex (yaa (ybq (qim (D:=tabP)) (ybd (v:=.ref aP) rfl gP rfl) (ybq ybw (pv 0) qac (fun _ _=>rfl)) (fun _ _=>rfl)) (yaa (ydr yin (pv 0) (qbw qac) ycf) yac))) (fun _ _ _ _=>(qfh (K:=K) (n:=2) rfl rfl (qaz (qaq (i:=0) (show List.Nodup (["name","part"]:List Str) by decide +kernel) rfl (Or.inl rfl)) (qaz (qaq (i:=1) (show List.Nodup (["name","part"]:List Str) by decide +kernel) rfl (Or.inl rfl)) qct)))) (fun _ _ _ _=>(qje (qbn ycz (pv 0) yan (yah _)))) (fun _ _ _ _=>(pv 1))))),?_⟩
    refine ⟨_,rfl,a,_,_,_,rfl,rfl,SqT.of ha,qal 0 rfl,aP,h.w,_,rfl,rfl,TP,ok.tab,fun pn hpn=>?_⟩
    refine ⟨_,rfl,_,rfl,a,_,rfl,SqT.of ha,yh1 h,fun q hq=>?_⟩
    rw [ygi]
    have s1:Same H (upd H q (.tup (h.c.map V.int++h.r))):=(Same.refl H).upd hq
    have e1:upd H q (.tup (h.c.map V.int++h.r)) q=some (.tup (h.c.map V.int++h.r)):=qab
    revert s1 e1
    generalize upd H q (.tup (h.c.map V.int++h.r))=H1
    intro s1 e1
    refine ⟨true,true,pn,q,_,_,rfl,hpn _,SqT.of e1,fun D hD=>?_⟩
    refine qe4 (K:=K) (ok.len.symm) (fun i H'=>Same H1 H'∧H' D=some (.lst ((h.c.take i).map V.int))) ⟨(Same.refl H1).upd hD,qab⟩ ?_ ?_ ?_
    · rintro i H2 ⟨s2,e2⟩
      exact ⟨hpn _,SqT.of (s2 _ _ e1)⟩
    · rintro H2 ⟨s2,e2⟩
      rw [List.take_of_length_le (by simp [yaw])] at e2
      exact k D H2 (s1.trans s2) (s1.free hD) e2
    · rintro i x y p H2 hx hy ⟨s2,e2⟩ hp
      have s3:Same H2 (upd H2 p (.tup [x,y])):=(Same.refl H2).upd hp
      refine ⟨p,_,rfl,SqT.of qab,rfl,?_⟩
      revert s3
      generalize upd H2 p (.tup [x,y])=H3
      intro s3
      refine ⟨_,_,rfl,_,_,rfl,rfl,qbb.set (qbb.set (qbb.refl _) rfl) rfl,?_⟩
      rcases ok.cellAt hx hy with ⟨rfl,c,hc,rfl⟩ | ⟨hge,hh⟩
      · refine ⟨_,rfl,rfl,_,rfl,iteB (by decide +kernel) ?_⟩
        refine ⟨_,rfl,_,s3 _ _ e2,ycl ?_,(s2.trans s3).at hD,?_⟩
        · have:=ok.cl
          simp
          omega
        · rw [qab,List.take_add_one,hc]; simp
      · have hxn:∃ nm,x=.str nm∧nm≠"cell":=by
          rcases hh with ⟨rfl,_⟩ | ⟨rfl,_⟩
          · exact ⟨_,rfl,by decide +kernel⟩
          · exact ⟨_,rfl,by decide +kernel⟩
        obtain ⟨nm,rfl,hnm⟩:=hxn
        refine ⟨_,rfl,rfl,_,rfl,iteN (by simpa using hnm) ?_⟩
        refine ⟨s2.trans s3,?_⟩
        rw [qgx hge]
        exact s3 _ _ e2
end
def qbe (x:Str):Nat:=if x∈[("turns" : Str),"sets","keeps","other","both"] then 2 else 1
theorem qjo {x:Str} (h:KTD.inKeys x tabP=true):∃ ns:List Str,KTD.datumAt x tabP=some (yaw (qbe x) ns)∧ns.length≤2∧∀ n∈ns,n="bit"∨n="how":=by
  have:x="stuck"∨x="slow"∨x="forgets"∨x="misreads"∨x="turns"∨x="sets"∨x="keeps"∨x="nowhere"∨x="other"∨x="both":=by
    simpa [tabP,KTD.inKeys] using h
  rcases this with rfl | rfl | rfl | rfl | rfl | rfl | rfl | rfl | rfl | rfl
  · exact ⟨["bit"],by decide +kernel,by decide,by decide +kernel⟩
  · exact ⟨["bit"],by decide +kernel,by decide,by decide +kernel⟩
  · exact ⟨["bit"],by decide +kernel,by decide,by decide +kernel⟩
  · exact ⟨["bit"],by decide +kernel,by decide,by decide +kernel⟩
  · exact ⟨["bit"],by decide +kernel,by decide,by decide +kernel⟩
  · exact ⟨["bit","bit"],by decide +kernel,by decide,by decide +kernel⟩
  · exact ⟨["bit","bit"],by decide +kernel,by decide,by decide +kernel⟩
  · exact ⟨["bit"],by decide +kernel,by decide,by decide +kernel⟩
  · exact ⟨[],by decide +kernel,by decide,by decide +kernel⟩
  · exact ⟨["how"],by decide +kernel,by decide,by decide +kernel⟩
end Mh
set_option Elab.async false
set_option linter.all false
set_option maxRecDepth 100000
set_option maxHeartbeats 4000000
namespace Mh
open PySem L2 PyProof.Rows Mx
def qbh:List Str→List PyData→Bool
  | [],[]=>true
  | n :: ns,p :: ps=>qdt n p && qbh ns ps
  | _,_=>false
theorem qf6:∀ {nms:List Str} {ps:List PyData},qbh nms ps=true→ps.length=nms.length
  | [],[],_=>rfl
  | n :: ns,p :: ps,h=>by
    have h':(qdt n p && qbh ns ps)=true:=h
    rw [Bool.and_eq_true] at h'
    rw [List.length_cons,List.length_cons,qf6 h'.2]
  | [],_ :: _,h=>by cases h
  | _ :: _,[],h=>by cases h
theorem qf1:∀ {nms:List Str} {ps:List PyData},ps.length=nms.length→qbh nms ps=((nms.zip ps).map fun x=>qdt x.1 x.2).all id
  | [],[],_=>rfl
  | n :: ns,p :: ps,h=>by
    show (qdt n p && qbh ns ps)=_
    rw [qf1 (nms:=ns) (ps:=ps) (by simpa using h)]
    rfl
  | [],_ :: _,h=>by cases h
  | _ :: _,[],h=>by cases h
def nmL (n:Nat) (ns:List Str):List Str:=List.replicate n ("cell" : Str)++ns
theorem qep (n:Nat) (ns:List Str):yaw n ns=(nmL n ns).map V.str:=by simp [yaw,nmL]
def intD:PyData→Int | .int i=>i | _=>0
def ybz (n:Nat) (ps:List PyData):List Int:=(ps.take n).map intD
theorem yjc {H:Hp}:∀ {ns:List Str} {ps:List PyData} {ws:List V},(∀ n∈ns,n="bit"∨n="how")→AtAll H ws ps→qbh ns ps=true→Rest ns ws
  | [],[],_,_,.nil,_=>.nil
  | n :: ns,p :: ps,_,hn,.cons a r,h=>by
    have h':(qdt n p && qbh ns ps)=true:=h
    rw [Bool.and_eq_true] at h'
    have ih:=yjc (fun x hx=>hn x (List.mem_cons_of_mem _ hx)) r h'.2
    have hp:=h'.1
    unfold qdt at hp
    rcases hn n (List.mem_cons_self ..) with rfl | rfl
    · rw [if_neg (by decide +kernel),if_pos rfl] at hp
      obtain ⟨i,rfl⟩:∃ i,p=.int i:=by cases p <;> first | exact ⟨_,rfl⟩ | exact absurd hp (by simp [bitD])
      have:=a.intEq
      subst this
      have hi:i=0∨i=1:=of_decide_eq_true hp
      refine .bit ?_ ih
      rcases hi with rfl | rfl
      · exact ⟨false,rfl⟩
      · exact ⟨true,rfl⟩
    · rw [if_neg (by decide +kernel),if_neg (by decide +kernel)] at hp
      obtain ⟨x,rfl⟩:∃ x,p=.str x:=by cases p <;> first | exact ⟨_,rfl⟩ | exact absurd hp (by simp [oneD])
      have:=a.strEq
      subst this
      refine .how ?_ ih
      have h1:inV (.str x) [.str "and",.str "or"]=true:=hp
      have e:∀ {a b:Str},¬ b=a→eqV (V.str a) (V.str b)=false:=fun {a b} h=>by simp [eqV]; exact fun z=>h z.symm
      by_cases h0:x="and"
      · exact .inl (by rw [h0])
      by_cases h2:x="or"
      · exact .inr (by rw [h2])
      exfalso
      revert h1
      simp [inV,e h0,e h2]
  | [],_ :: _,_,_,_,h=>by cases h
  | _ :: _,[],_,_,_,h=>by cases h
theorem yh4 {H:Hp} {ns:List Str} (hn:∀ x∈ns,x="bit"∨x="how"):∀ (n:Nat) {ps:List PyData} {ws:List V},AtAll H ws ps→qbh (nmL n ns) ps=true→
    ws=(ybz n ps).map V.int++ws.drop n∧Rest ns (ws.drop n)∧(ybz n ps).length=n∧∀ x∈ybz n ps,0≤x∧x < 64
  | 0,ps,ws,a,h=>⟨rfl,yjc hn a h,rfl,fun x hx=>by cases hx⟩
  | n + 1,[],ws,a,h=>by
    have h':qbh ("cell" :: nmL n ns) []=true:=h
    cases h'
  | n + 1,p :: ps,_,.cons a r,h=>by
    have h':(qdt "cell" p && qbh (nmL n ns) ps)=true:=h
    rw [Bool.and_eq_true] at h'
    obtain ⟨i1,i2,i3,i4⟩:=yh4 hn n r h'.2
    have hp:=h'.1
    unfold qdt at hp
    rw [if_pos rfl] at hp
    obtain ⟨i,rfl⟩:∃ i,p=.int i:=by cases p <;> first | exact ⟨_,rfl⟩ | exact absurd hp (by simp [yj5])
    have:=a.intEq
    subst this
    have hi:0≤i∧i < 64:=of_decide_eq_true hp
    refine ⟨?_,i2,?_,fun x hx=>?_⟩
    · show _=V.int i :: ((ybz n ps).map V.int++_)
      rw [List.drop_succ_cons,← i1]
    · show (intD (.int i) :: ybz n ps).length=_
      rw [List.length_cons,i3]
    · have hx':x∈i :: ybz n ps:=hx
      rcases List.mem_cons.mp hx' with rfl | hx'
      · exact hi
      · exact i4 x hx'
theorem yg6 (x:Str):1≤qbe x∧qbe x≤2:=by
  unfold qbe
  split <;> omega
theorem hm_of {H:Hp} {a:Addr} {x:Str} {ps:List PyData} {ws:List V} {ns:List Str} (ha:H a=some (.tup (.str x :: ws))) (hw:AtAll H ws ps) (ht:KTD.datumAt x tabP=some (yaw (qbe x) ns)) (hl:ns.length≤2) (hn:∀ n∈ns,n="bit"∨n="how") (hp:qbh (nmL (qbe x) ns) ps=true) :
    ∃ h,HAt H (.ref a) h∧okP h ns∧h.c=ybz (qbe x) ps:=by
  obtain ⟨i1,i2,i3,i4⟩:=yh4 hn (qbe x) hw hp
  have:=yg6 x
  refine ⟨⟨x,ybz (qbe x) ps,ws.drop (qbe x)⟩,⟨a,rfl,?_⟩,⟨?_,i2,?_,hl,i4⟩,rfl⟩
  · unfold hV
    rw [ha]
    show some (HO.tup (V.str x :: ws))=some (HO.tup (V.str x :: ((ybz (qbe x) ps).map V.int++ws.drop (qbe x))))
    rw [← i1]
  · show KTD.datumAt x tabP=some (yaw (ybz (qbe x) ps).length ns)
    rw [i3]
    exact ht
  · show 1≤(ybz (qbe x) ps).length∧(ybz (qbe x) ps).length≤2
    rw [i3]
    exact this
theorem qez:∀ (c:List Int),c.length≤2→decide ((uniq c).length=c.length)=decide c.Nodup
  | [],_=>by rw [yek List.nodup_nil]; rfl
  | [a],_=>by rw [yek (by simp)]; simp
  | [a,b],_=>by
    by_cases h:a=b
    · subst h
      have e:uniq [a,a]=[a]:=by simp [uniq,ya5]
      rw [e]
      simp
    · have hn:[a,b].Nodup:=by simp [h]
      rw [yek hn,decide_eq_true hn]
      simp
  | _ :: _ :: _ :: _,h=>by simp at h
end Mh
set_option Elab.async false
set_option linter.all false
set_option maxRecDepth 100000
set_option maxHeartbeats 4000000
namespace Mh
open PySem L2 PyProof.Rows Mx
theorem qjd (u:V) (ws:List V):cutV (u :: ws) (some 1) none=ws:=qe2 1
theorem tail_ne1 (u:V) (ws:List V):¬ (HT.sIx (u :: ws).length 0 (some 1)=0∧HT.sIx (u :: ws).length (u :: ws).length none=(u :: ws).length):=by
  rintro ⟨h0,_⟩
  unfold HT.sIx at h0
  simp at h0
section
variable {P:Program} {w:World} {K:PySem.W.Frag} {mg:Str→Option Value} {base:Heap}
def yie:Sp:=fun vs H Q _=>∃ v x ps n ns,vs=[v]∧At H v (.tuple (.str x :: ps))∧KTD.datumAt x tabP=some (yaw n ns)∧n≤2∧ns.length≤2∧∀ H',Same H H'→Q (.bl (qbh (nmL n ns) ps)) H'
theorem og_parts (B:Bl mg) (qex:mg "zip" = none) (qcz:mg "all" = none) {aP:Addr} (gP:mg "PARTS" = some (.ref aP)) (TP:TabK K aP tabP) (yfm:Has P w K mg base 3 "is_part" ["name","thing"] qkx) (F:FnAt K mg "has_parts" ybr ["thing"]):Has P w K mg base 4 "has_parts" ["thing"] yie:=by
  refine Has.of F ycp (fun vs H Q E h=>?_) (fun f cdv A outer s H vs Q E hr h=>?_)
  · obtain ⟨v,x,ps,n,ns,rfl,_⟩:=h
    rfl
  · obtain ⟨v,x,ps,n,ns,rfl,hv,ht,hn2,hl2,k⟩:=h
    obtain ⟨a,vs,rfl,ha,hw⟩:=hv.tupEq
    cases hw with
    | cons h1 hw=>
    rename_i u ws
    have:=h1.strEq
    subst this
    have hwl:=hw.length
    have hnl:(nmL n ns).length=n + ns.length:=by simp [nmL]
    have hnm:(yaw n ns).length=n + ns.length:=by rw [qep,List.length_map,hnl]
    have sc:=ycp
    refine ⟨_,(qar (yca (i:=1) sc.nd rfl (Or.inl rfl) (ybq (qim (D:=tabP)) (ybd (v:=.ref aP) rfl gP rfl) (ybq ybw (pv 0) qac (fun _ _=>rfl)) (fun _ _=>rfl)))
      (yaj (qbc (yax (yar ycz (yae yal rfl (B.of rfl) boot_len (yaa (pv 0) yac)) (ycn qdg (yae yal rfl (B.of rfl) boot_len (yaa (pv 1) yac)) qac) (yah _)) (qbg (yae (yb9 rfl) rfl qcz ycb (yaa (qcl rfl (qbf rfl) (M:=["name","part"]) (ix:=[none,none]) (yic rfl qex (yaa (pv 1) (yaa (ydr yin (pv 0) (qbw qac) ycf) yac))) (fun _ _ _ _=>(qfh (K:=K) (n:=2) rfl rfl (qaz (qaq (i:=0) (show List.Nodup (["name","part"]:List Str) by decide +kernel) rfl (Or.inl rfl)) (qaz (qaq (i:=1) (show List.Nodup (["name","part"]:List Str) by decide +kernel) rfl (Or.inl rfl)) qct)))) (fun _ _ _ _=>yc5) (fun _ _ _ _=>(qak yfm hr (yaa (pv 0) (yaa (pv 1) yac))))) yac))))))),?_⟩
    refine ⟨_,rfl,a,_,_,_,rfl,rfl,SqT.of ha,qal 0 rfl,aP,x,_,rfl,rfl,TP,ht,fun pn hpn=>?_⟩
    refine ⟨_,rfl,a,_,rfl,.inr (SqT.of ha),_,rfl,pn,_,rfl,.inr (hpn _),_,_,rfl,rfl,rfl,_,rfl,?_⟩
    by_cases hlen:ps.length=(nmL n ns).length
    rotate_left
    · refine iteN (decide_eq_false (fun z=>?_)) ?_
      · have:=V.int.inj z
        rw [List.length_cons,hnm] at this
        omega
      · have e:qbh (nmL n ns) ps=false:=by
          cases hb:qbh (nmL n ns) ps with
          | false=>rfl
          | true=>exact absurd (qf6 hb) hlen
        rw [e] at k
        exact k H (Same.refl H)
    refine iteB (decide_eq_true ?_) ?_
    · congr 1
      rw [List.length_cons,hnm]
      omega
    refine ⟨_,rfl,_,rfl,_,rfl,a,_,rfl,SqT.of ha,tail_ne1 _ _,fun q hq=>?_⟩
    rw [qjd]
    have s1:Same H (upd H q (.tup ws)):=(Same.refl H).upd hq
    have e1:upd H q (.tup ws) q=some (.tup ws):=qab
    revert s1 e1
    generalize upd H q (.tup ws)=H1
    intro s1 e1
    refine ⟨true,true,pn,q,_,_,rfl,hpn _,SqT.of e1,fun D hD=>?_⟩
    refine qe4 (K:=K) (xs:=yaw n ns) (ys:=ws) (by omega) (fun i H'=>Same H1 H'∧H' D=some (.lst (((((nmL n ns).zip ps).take i).map fun z=>qdt z.1 z.2).map V.bl))) ⟨(Same.refl H1).upd hD,qab⟩ ?_ ?_ ?_
    · rintro i H2 ⟨s2,e2⟩
      exact ⟨hpn _,SqT.of (s2 _ _ e1)⟩
    · rintro H2 ⟨s2,e2⟩
      rw [List.take_of_length_le (by rw [List.length_zip]; omega)] at e2
      refine ⟨D,_,rfl,e2,?_⟩
      rw [← qf1 hlen]
      exact k _ (s1.trans s2)
    · rintro i xx y p H2 hx hy ⟨s2,e2⟩ hp
      rw [qep] at hx
      obtain ⟨nm,hnm',rfl⟩:=ycv hx
      obtain ⟨dy,hdy,hay⟩:=hw.get hy
      have hi:i < n + ns.length:=by have:=(List.getElem?_eq_some_iff.mp hnm').1; omega
      have s3:Same H2 (upd H2 p (.tup [.str nm,y])):=(Same.refl H2).upd hp
      refine ⟨p,_,rfl,SqT.of qab,rfl,?_⟩
      refine ⟨_,_,rfl,_,_,rfl,rfl,qbb.set (qbb.set (qbb.refl _) rfl) rfl,yes ?_⟩
      refine ⟨_,rfl,_,rfl,nm,y,dy,rfl,.inl (hay.same ((s1.trans s2).trans s3)),fun H3 s4=>?_⟩
      have s23:Same H2 H3:=s3.trans s4
      refine ⟨_,s23 _ _ e2,ycl ?_,(s2.trans s23).at hD,?_⟩
      · rw [List.length_map,List.length_map,List.length_take]
        omega
      · rw [qab,List.take_add_one,List.getElem?_zip_eq_some (z:=(nm,dy)) |>.mpr ⟨hnm',hdy⟩]
        simp
def nmOf (x:Str):List Str:=((KTD.datumAt x tabP).getD []).filterMap fun v=>match v with | .str s=>some s | _=>none
theorem yhk {x:Str} {n:Nat} {ns:List Str} (h:KTD.datumAt x tabP=some (yaw n ns)):nmOf x=nmL n ns:=by
  unfold nmOf
  rw [h,qep]
  show (List.map V.str (nmL n ns)).filterMap _=_
  rw [List.filterMap_map]
  exact List.filterMap_some
def yhc:PyData→Bool
  | .tuple (.str x :: ps)=>KTD.inKeys x tabP && (qbh (nmOf x) ps && decide (ybz (qbe x) ps).Nodup)
  | _=>false
def qe8:PyData→List Int
  | .tuple (.str x :: ps)=>ybz (qbe x) ps
  | _=>[]
theorem yj9 {d:PyData} (h:qgs d=true):∃ x ps,d=.tuple (.str x :: ps)∧KTD.inKeys x tabP=true:=by
  match d,h with
  | .tuple (.str x :: ps),h=>exact ⟨x,ps,rfl,h⟩
theorem noword {d:PyData} (h:qgs d=false):yhc d=false:=by
  match d with
  | .tuple (.str x :: ps)=>
    have h':KTD.inKeys x tabP=false:=h
    show (KTD.inKeys x tabP && _)=false
    rw [h']
    rfl
  | .tuple []=>rfl
  | .tuple (.none :: _)=>rfl
  | .tuple (.bool _ :: _)=>rfl
  | .tuple (.int _ :: _)=>rfl
  | .tuple (.list _ :: _)=>rfl
  | .tuple (.tuple _ :: _)=>rfl
  | .tuple (.dict _ :: _)=>rfl
  | .none=>rfl
  | .bool _=>rfl
  | .int _=>rfl
  | .str _=>rfl
  | .list _=>rfl
  | .dict _=>rfl
theorem yje {H:Hp} {v:V} {d:PyData} (hv:At H v d) (h:yhc d=true):∃ g ns,HAt H v g∧okH g ns∧g.c=qe8 d:=by
  have hw:qgs d=true:=by
    cases hq:qgs d with
    | true=>rfl
    | false=>rw [noword hq] at h; cases h
  obtain ⟨x,ps,rfl,hk⟩:=yj9 hw
  have h':(KTD.inKeys x tabP && (qbh (nmOf x) ps && decide (ybz (qbe x) ps).Nodup))=true:=h
  rw [Bool.and_eq_true,Bool.and_eq_true] at h'
  obtain ⟨ns,ht,hl,hn⟩:=qjo hk
  obtain ⟨a,vs,rfl,ha,hwa⟩:=hv.tupEq
  cases hwa with
  | cons h1 hwa=>
  have:=h1.strEq
  subst this
  have hp:=h'.2.1
  rw [yhk ht] at hp
  obtain ⟨g,hg,ok,hc⟩:=hm_of ha hwa ht hl hn hp
  exact ⟨g,ns,hg,ok.full (by rw [hc]; exact of_decide_eq_true h'.2.2),hc⟩
def qi8:Sp:=fun vs H Q _=>∃ v d,vs=[v]∧AtX H v d∧∀ H',Same H H'→Q (.bl (yhc d)) H'
theorem og_harm (B:Bl mg) (qb2:mg "set" = none) (qej:Has P w K mg base 1 "has_word" ["thing"] qjw) (yd3:Has P w K mg base 4 "has_parts" ["thing"] yie) (qa9:Has P w K mg base 1 "cells_in" ["harm"] yfk) (F:FnAt K mg "is_harm" ycm ["thing"]):Has P w K mg base 5 "is_harm" ["thing"] qi8:=by
  refine Has.of F ydo (fun vs H Q E h=>?_) (fun f cdv A outer s H vs Q E hr h=>?_)
  · obtain ⟨v,d,rfl,_⟩:=h
    rfl
  · obtain ⟨v,d,rfl,hv,k⟩:=h
    have sc:=ydo
    refine ⟨_,(qar (ydg (PW.pt (qiu (ydt (qdb (qak qej hr (yaa (pv 0) yac)))) (qgu (ydt (qdb (qak yd3 hr (yaa (pv 0) yac)))))))
        (yaj (qbc yc2))
        qbr)
      (qar (yca (i:=1) sc.nd rfl (Or.inl rfl) (qak qa9 hr (yaa (pv 0) yac)))
      (yaj (qbc (yar ycz (yae qc8 rfl (B.of rfl) boot_len (yaa (qco (qb0 rfl) rfl qb2 qbv (yaa (pv 1) yac)) yac)) (yae yal rfl (B.of rfl) boot_len (yaa (pv 1) yac)) (yah _)))))),?_⟩
    refine ⟨_,rfl,v,d,rfl,hv,_,rfl,?_⟩
    cases hw:qgs d with
    | false=>
      rw [noword hw] at k
      exact iteT (iteT (k H (Same.refl H)))
    | true=>
      refine iteF ?_
      obtain ⟨x,ps,rfl,hk⟩:=yj9 hw
      have hv':At H v (.tuple (.str x :: ps)):=by
        rcases hv with h | ⟨e,_⟩
        · exact h
        · cases e
      obtain ⟨ns,ht,hl,hn⟩:=qjo hk
      have eh:yhc (.tuple (.str x :: ps))=(KTD.inKeys x tabP && (qbh (nmOf x) ps && decide (ybz (qbe x) ps).Nodup)):=rfl
      rw [eh,hk,yhk ht,Bool.true_and] at k
      refine ⟨_,rfl,v,x,ps,_,ns,rfl,hv',ht,(yg6 x).2,hl,fun H1 s1=>⟨_,rfl,?_⟩⟩
      cases hp:qbh (nmL (qbe x) ns) ps with
      | false=>
        rw [hp] at k
        exact iteB rfl (k H1 s1)
      | true=>
        rw [hp,Bool.true_and] at k
        refine iteN rfl ?_
        obtain ⟨a,vs,rfl,ha,hwa⟩:=(hv'.same s1).tupEq
        cases hwa with
        | cons h1 hwa=>
        have:=h1.strEq
        subst this
        obtain ⟨g,hg,ok,hc⟩:=hm_of ha hwa ht hl hn hp
        refine ⟨_,rfl,_,g,ns,rfl,hg,ok,fun D H2 s2 hD e2=>?_⟩
        refine ⟨_,rfl,D,g.c,rfl,e2,by have:=ok.cl; omega,fun p hp=>?_⟩
        refine ⟨p,_,rfl,qab,?_⟩
        have s3:Same H2 (upd H2 p (SetO P w p (uniq g.c))):=(Same.refl H2).upd hp
        refine ⟨_,rfl,D,_,rfl,.inl (SqL.of (s3 _ _ e2)),rfl,?_⟩
        rw [← hc,← qez g.c ok.cl.2] at k
        have e:decide (V.int ((uniq g.c).length:Int)=V.int ((g.c.map V.int).length:Int))=decide ((uniq g.c).length=g.c.length):=by
          rw [List.length_map]
          apply decide_eq_decide.mpr
          constructor
          · intro z; have:=V.int.inj z; omega
          · intro z; rw [z]
        rw [e]
        exact k _ ((s1.trans s2).trans s3)
end
end Mh
set_option Elab.async false
set_option linter.all false
set_option maxRecDepth 100000
set_option maxHeartbeats 4000000
namespace Mh
open PySem L2 PyProof.Rows Mx
def optN:Option Nat→V | none=>.non | some n=>.int n
def accH (ds:List PyData) (i:Nat):List Int:=(ds.take i).flatMap qe8
def ydd (ds:List PyData) (i:Nat):Bool:=!(yhc (ds.getD i .none)) || decide (3 < (uniq (accH ds (i + 1))).length)
def qao:PyData→Option (Option Nat)
  | .list ds=>if 3 < ds.length then some none else ((List.range ds.length).find? (ydd ds)).map some
  | _=>some none
theorem yfs {ds:List PyData} {i:Nat} (hl:¬ 3 < ds.length) (hi:i < ds.length) (hb:ydd ds i=true) (ho:∀ j,j < i→ydd ds j=false):qao (.list ds)=some (some i):=by
  show (if 3 < ds.length then some none else ((List.range ds.length).find? (ydd ds)).map some)=_
  rw [if_neg hl,List.find?_range_eq_some.mpr ⟨hb,by simpa using hi,fun j hj=>by rw [ho j hj]; rfl⟩]
  rfl
theorem ye5 {ds:List PyData} (hl:¬ 3 < ds.length) (ho:∀ j,j < ds.length→ydd ds j=false):qao (.list ds)=none:=by
  show (if 3 < ds.length then some none else ((List.range ds.length).find? (ydd ds)).map some)=_
  rw [if_neg hl,List.find?_range_eq_none.mpr fun j hj=>by rw [ho j hj]; rfl]
  rfl
theorem qj8 {ds:List PyData} {i:Nat} {d:PyData} (h:ds[i]?=some d):accH ds (i + 1)=accH ds i++qe8 d:=by
  unfold accH
  rw [List.take_add_one,h,List.flatMap_append]
  simp
section
variable {P:Program} {w:World} {K:PySem.W.Frag} {mg:Str→Option Value} {base:Heap}
def qe3 (C:Addr):Sp:=fun vs H Q E=>∃ v d,vs=[v]∧AtX H v d∧(qao d=none→∀ H',Same H H'→Q .non H')∧(∀ b,qao d=some b→∀ a H',Same H H'→XAt H' a C [("number",optN b)]→E (.ref a) none H')
theorem og_harms {C:Addr} (B:Bl mg) (xH:XInit P w K mg base "NoHarms" C ["self","number"] (sp_x1 C "number")) (qb2:mg "set" = none) (ydh:∃ t,mg "MOST_HARMS" = some (.int 3 t)) (yc9:∃ t,mg "MOST_UNLIKE" = some (.int 3 t)) (qfe:Has P w K mg base 5 "is_harm" ["thing"] qi8) (qa9:Has P w K mg base 1 "cells_in" ["harm"] yb6)
    (F:FnAt K mg "look_at_harms" ya4 ["thing"]):HasX P w K mg base 6 "look_at_harms" ["thing"] (qe3 C):=by
  refine HasX.of F ybo (fun vs H Q E h=>?_) (fun f cdv A outer s H vs Q E hr h=>?_)
  · obtain ⟨v,d,rfl,_⟩:=h
    rfl
  · obtain ⟨v,d,rfl,hv,q1,q2⟩:=h
    have z1:1≤sizeLine:=by decide
    have sc:=ybo
    refine ⟨_,(qai rfl (yad (ya2 (QW.pt (yd2 (ybv (yba (qa8 ya8 rfl (B.of rfl) boot_isinstance (yaf (qaa (pv 0)) (yaf (qaa (ybf (v:=.ty "list") rfl (B.of rfl) boot_list rfl)) qad))))) (qcw (yav yfv (qa8 yal rfl (B.of rfl) boot_len (yaf (qaa (pv 0)) qad)) (qaa (qcu ydh)) (yah _)))))
        (qae (yd1 (qb8 (pe_xI xH hr (yaa qdc yac)))))
        qat)
      (yad (qaw (i:=1) sc.nd rfl (Or.inl rfl) (yap qad))
      (qae (qdw yh6 rfl (qkg (qel rfl (B.of rfl) (yaa (pv 0) yac))) (yfz rfl (qaz (qaq (i:=2) sc.nd rfl (Or.inl rfl)) (qaz (qaq (i:=3) sc.nd rfl (Or.inl rfl)) qct)))
        (yad (ya2 (ybv (yba (yai qfe hr (yaf (qaa (pv 3)) qad))))
          (qae (yd1 (qb8 (pe_xI xH hr (yaa (pv 2) yac)))))
          qat)
        (yad (ya6 (qaa (qgj PySem.F.plainAttrs_list PySem.F.slot_list_extend PySem.F.type_list_extend qec (pv 1) (yaa (qak qa9 hr (yaa (pv 3) yac)) yac))))
        (qae (ya2 (yav yfv (qa8 qc8 rfl (B.of rfl) boot_len (qhz (qbi (qb0 rfl) rfl qb2 qbv (yaf (qaa (pv 1)) qad)) qad)) (qaa (qcu yc9)) (yah _))
          (qae (yd1 (qb8 (pe_xI xH hr (yaa (pv 2) yac)))))
          qat))))))))),?_⟩
    have hraise:∀ {H1:Hp} {a:Addr} (b:Option Nat),qao d=some b→Same H H1→H1 a=none→∀ dd H4,XD H4 a C (some dd) [("number",optN b)]→SetX a dd none (upd H1 a (.ext (yce a C none))) H4→(∃ a' C' dx,V.ref a=V.ref a'∧XTy K C'∧H4 a'=some (.ext (yce a' C' dx))∧E (.ref a') none (upd H4 a' (.ext (qch a' C' dx)))):=fun {H1 a} b hb s1 ha dd H4 x4 s4=>by
      obtain ⟨r1,r2,r3⟩:=raised_x ha x4 s4
      exact ⟨a,C,some dd,rfl,xH.2.2.1.toXTy,r1,q2 b hb a _ (s1.trans r2) r3⟩
    refine ⟨_,rfl,_,_,_,_,rfl,hv.ty,yhp d,_,rfl,?_⟩
    cases hs:isLst d with
    | false=>
      have e:qao d=some none:=by cases d <;> first | rfl | cases hs
      refine iteT (iteT ⟨z1,fun a ha=>⟨a,_,rfl,.inl ⟨rfl,rfl,qab⟩,fun dd H1 x1 s1=>⟨rfl,?_⟩⟩⟩)
      exact hraise none e (Same.refl H) ha dd H1 x1 s1
    | true=>
      obtain ⟨ds,rfl⟩:∃ ds,d=.list ds:=by cases d <;> first | exact ⟨_,rfl⟩ | cases hs
      have hv':At H v (.list ds):=by
        rcases hv with h | ⟨e,_⟩
        · exact h
        · cases e
      obtain ⟨L,us,rfl,hL,hu⟩:=hv'.lstEq
      have hul:=hu.length
      refine iteF ⟨_,rfl,L,us,rfl,.inl (SqL.of hL),_,_,rfl,rfl,_,rfl,?_⟩
      by_cases h3:3 < ds.length
      · have e:qao (.list ds)=some none:=by
          show (if 3 < ds.length then some none else _)=_
          rw [if_pos h3]
        refine iteD (by omega) ⟨z1,fun a ha=>⟨a,_,rfl,.inl ⟨rfl,rfl,qab⟩,fun dd H1 x1 s1=>⟨rfl,?_⟩⟩⟩
        exact hraise none e (Same.refl H) ha dd H1 x1 s1
      refine qdi (by omega) ?_
      refine ⟨Nat.zero_le _,fun p hp=>?_⟩
      have npL:L≠p:=qah hL hp
      refine ⟨_,rfl,L,us,rfl,SqL.of (by rw [qaf npL]; exact hL),yea (xs:=us) (fun i σ H2=>∃ (o2 o3:Option V),σ=[some (.ref L),some (.ref p),o2,o3]∧Same H H2∧H2 p=some (.lst ((accH ds i).map V.int))∧(accH ds i).length≤2 * i∧∀ j,j < i→ydd ds j=false)
        ⟨none,none,rfl,(Same.refl H).upd hp,qab,Nat.le_refl _,fun j hj=>absurd hj (by omega)⟩ (fun i σ H2 _ ⟨_,_,_,h,_⟩=>SqL.of (h _ _ hL)) ?_ ?_⟩
      · rintro i x pp σ H2 hx ⟨o2,o3,rfl,s2,e2,l2,ho⟩ hpp
        obtain ⟨dx,hdx,hat⟩:=hu.get hx
        have hil:i < ds.length:=(List.getElem?_eq_some_iff.mp hdx).1
        have hget:ds.getD i .none=dx:=by rw [List.getD_eq_getElem?_getD,hdx]; rfl
        have sP:Same H2 (upd H2 pp (.tup [.int i,x])):=(Same.refl H2).upd hpp
        refine ⟨pp,_,rfl,SqT.of qab,rfl,_,_,rfl,_,_,rfl,rfl,?_⟩
        refine ⟨_,rfl,x,dx,rfl,.inl (hat.same (s2.trans sP)),fun H3 s3=>⟨_,rfl,?_⟩⟩
        have s23:Same H2 H3:=sP.trans s3
        cases hb:yhc dx with
        | false=>
          have e:qao (.list ds)=some (some i):=yfs h3 hil (by unfold ydd; rw [hget,hb]; rfl) ho
          refine iteT ⟨_,rfl,z1,fun a ha=>⟨a,_,rfl,.inl ⟨rfl,rfl,qab⟩,fun dd H1 x1 s1=>⟨rfl,?_⟩⟩⟩
          exact hraise (some i) e (s2.trans s23) ha dd H1 x1 s1
        | true=>
          refine iteF ?_
          obtain ⟨g,ns,hg,ok,hc⟩:=yje (hat.same (s2.trans s23)) hb
          refine ⟨_,rfl,.inl ⟨rfl,_,SqL.of (s23 _ _ e2)⟩,?_⟩
          refine ⟨_,rfl,x,g,ns,rfl,hg,ok,fun D H4 s4 hD eD=>?_⟩
          have s24:=s23.trans s4
          have hcl:=ok.cl.2
          have ea:accH ds (i + 1)=accH ds i++g.c:=by rw [qj8 hdx,hc]
          have hlt:(accH ds (i + 1)).length≤2 * (i + 1):=by rw [ea,List.length_append]; omega
          refine ⟨p,D,_,_,rfl,rfl,s24 _ _ e2,eD,?_,?_⟩
          · rw [List.length_map,List.length_map]
            exact Nat.le_of_lt (ycl (by omega))
          rw [← List.map_append,← ea]
          have s5:Same H (upd H4 p (.lst ((accH ds (i + 1)).map V.int))):=(s2.trans s24).at hp
          have e5:upd H4 p (.lst ((accH ds (i + 1)).map V.int)) p=some (.lst ((accH ds (i + 1)).map V.int)):=qab
          revert s5 e5
          generalize upd H4 p (.lst ((accH ds (i + 1)).map V.int))=H5
          intro s5 e5
          refine ⟨_,rfl,p,_,rfl,e5,by omega,fun q hq=>?_⟩
          have s6:Same H5 (upd H5 q (SetO P w q (uniq (accH ds (i + 1))))):=(Same.refl H5).upd hq
          refine ⟨q,_,rfl,qab,_,_,rfl,rfl,_,rfl,?_⟩
          by_cases hu3:3 < (uniq (accH ds (i + 1))).length
          · have e:qao (.list ds)=some (some i):=yfs h3 hil (by unfold ydd; rw [hget,hb,decide_eq_true hu3]; rfl) ho
            refine iteD (by omega) ⟨_,rfl,z1,fun a ha=>⟨a,_,rfl,.inl ⟨rfl,rfl,qab⟩,fun dd H1 x1 s1=>⟨rfl,?_⟩⟩⟩
            exact hraise (some i) e (s5.trans s6) ha dd H1 x1 s1
          · refine qdi (by omega) ⟨_,_,rfl,s5.trans s6,s6 _ _ e5,hlt,fun j hj=>?_⟩
            by_cases ej:j=i
            · subst ej
              unfold ydd
              rw [hget,hb,decide_eq_false hu3]
              rfl
            · exact ho j (by omega)
      · rintro σ H2 ⟨o2,o3,rfl,s2,e2,l2,ho⟩
        exact q1 (ye5 h3 fun j hj=>ho j (by omega)) _ s2
end
end Mh
set_option Elab.async false
set_option linter.all false
set_option maxRecDepth 100000
set_option maxHeartbeats 4000000
namespace Mh
open PySem L2 PyProof.Rows Mx
theorem hs_of {H:Hp}:∀ {us:List V} {ds:List PyData},AtAll H us ds→(∀ d∈ds,yhc d=true)→∃ hs,HsV H us hs∧(∀ h∈hs,∃ ns,okH h ns)∧allC hs=ds.flatMap qe8∧hs.length=ds.length
  | [],[],.nil,_=>⟨[],⟨rfl,fun i v h h1=>by simp at h1⟩,fun h hh=>(by cases hh),rfl,rfl⟩
  | u :: us,d :: ds,.cons a r,hd=>by
    obtain ⟨hs,h1,h2,h3,h4⟩:=hs_of r fun x hx=>hd x (List.mem_cons_of_mem _ hx)
    obtain ⟨g,ns,hg,ok,hc⟩:=yje a (hd d (List.mem_cons_self ..))
    refine ⟨g :: hs,⟨by simp [h1.len],fun i v h e1 e2=>?_⟩,fun h hh=>?_,?_,by simp [h4]⟩
    · cases i with
      | zero=>cases e1; cases e2; exact hg
      | succ i=>exact h1.at_ i v h e1 e2
    · rcases List.mem_cons.mp hh with rfl | hh
      · exact ⟨ns,ok⟩
      · exact h2 h hh
    · unfold allC at h3 ⊢
      rw [List.flatMap_cons,List.flatMap_cons,h3,hc]
def ya7:PyData→List Int | .list ds=>ds.flatMap qe8 | _=>[]
theorem yf4 {H:Hp} {v:V} {d:PyData} (hv:AtX H v d) (hb:qao d=none):∃ L us hs S,v=.ref L∧H L=some (.lst us)∧HsV H us hs∧okHs hs S∧allC hs=ya7 d:=by
  obtain ⟨ds,rfl⟩:∃ ds,d=.list ds:=by cases d <;> first | exact ⟨_,rfl⟩ | cases hb
  have hv':At H v (.list ds):=by
    rcases hv with h | ⟨e,_⟩
    · exact h
    · cases e
  obtain ⟨L,us,rfl,hL,hu⟩:=hv'.lstEq
  have hb':(if 3 < ds.length then some none else ((List.range ds.length).find? (ydd ds)).map some)=none:=hb
  by_cases h3:3 < ds.length
  · rw [if_pos h3] at hb'; cases hb'
  rw [if_neg h3] at hb'
  have hn:(List.range ds.length).find? (ydd ds)=none:=by
    cases hz:(List.range ds.length).find? (ydd ds) with
    | none=>rfl
    | some i=>rw [hz] at hb'; cases hb'
  have hall:=List.find?_range_eq_none.mp hn
  have hbad:∀ i,i < ds.length→ydd ds i=false:=fun i hi=>by
    have:=hall i hi
    cases hz:ydd ds i with
    | false=>rfl
    | true=>rw [hz] at this; cases this
  obtain ⟨hs,h1,h2,h4,h5⟩:=hs_of hu fun x hx=>by
    obtain ⟨i,hi⟩:=List.getElem?_of_mem hx
    have hil:=(List.getElem?_eq_some_iff.mp hi).1
    have:=hbad i hil
    unfold ydd at this
    rw [List.getD_eq_getElem?_getD,hi] at this
    rw [Bool.or_eq_false_iff] at this
    simpa using this.1
  refine ⟨L,us,hs,uniq (allC hs),rfl,hL,h1,⟨by omega,h2,?_,fun h hh c hc=>?_⟩,h4⟩
  · rw [h4]
    cases hz:ds.length with
    | zero=>
      have:ds=[]:=List.length_eq_zero_iff.mp hz
      rw [this]
      decide
    | succ n=>
      have:=hbad n (by omega)
      unfold ydd at this
      rw [Bool.or_eq_false_iff] at this
      have h6:=of_decide_eq_false this.2
      unfold accH at h6
      rw [List.take_of_length_le (by omega)] at h6
      omega
  · exact (yeb _ c).mpr (List.mem_flatMap.mpr ⟨h,hh,hc⟩)
section
variable {P:Program} {w:World} {K:PySem.W.Frag} {mg:Str→Option Value} {base:Heap}
def qfd (C:Addr):Sp:=fun vs H Q E=>∃ v d,vs=[v]∧AtX H v d∧(qao d=none→∀ (D:Addr) (ns:List Int) (H':Hp),Same H H'→H D=none→H' D=some (.lst (ns.map V.int))→ns.Perm (uniq (ya7 d))→ns.Pairwise (·≤·)→Q (.ref D) H')∧(∀ b,qao d=some b→∀ a H',Same H H'→XAt H' a C [("number",optN b)]→E (.ref a) none H')
theorem qhy {C:Addr} (B:Bl mg) (qb2:mg "set" = none) (qas:HasX P w K mg base 6 "look_at_harms" ["thing"] (qe3 C)) (qa9:Has P w K mg base 1 "cells_in" ["harm"] yb6) (F:FnAt K mg "cells_of" qb3 ["harms"]):HasX P w K mg base 7 "cells_of" ["harms"] (qfd C):=by
  refine HasX.of F qc7 (fun vs H Q E h=>?_) (fun f cdv A outer s H vs Q E hr h=>?_)
  · obtain ⟨v,d,rfl,_⟩:=h
    rfl
  · obtain ⟨v,d,rfl,hv0,k,kx⟩:=h
    have sc:=qc7
    refine ⟨_,(qai rfl (yad (ya6 (qaa (yc7 qas qfc hr (yaa (pv 0) yac))))
      (yad (qaw (i:=1) sc.nd rfl (Or.inl rfl) (yap qad))
      (yad (qdw yh6 rfl (qfb (qaa (pv 0))) (qaq (i:=2) sc.nd rfl (Or.inl rfl))
        (qae (ya6 (qaa (qgj PySem.F.plainAttrs_list PySem.F.slot_list_extend PySem.F.type_list_extend qec (pv 1) (yaa (qak qa9 hr (yaa (pv 2) yac)) yac))))))
      (qae (yao (qa8 (qcb rfl) rfl (B.of rfl) qcd (qhz (qbi (qb0 rfl) rfl qb2 qbv (yaf (qaa (pv 1)) qad)) qad)))))))),?_⟩
    refine ⟨_,rfl,v,d,rfl,hv0,fun hb H1 s1=>?_,kx⟩
    obtain ⟨L,us,hs,S,rfl,hL,hv,ok,hA⟩:=yf4 hv0 hb
    refine ⟨Nat.zero_le _,fun p hp=>?_⟩
    have hp0:H p=none:=s1.free hp
    have npL:L≠p:=qah hL hp0
    refine ⟨_,rfl,L,rfl,⟨us,SqL.of (by rw [qaf npL]; exact s1 _ _ hL)⟩,ycr (xs:=us) (fun i σ H2=>∃ (o2:Option V),σ=[some (.ref L),some (.ref p),o2]∧Same H H2∧H2 p=some (.lst ((allC (hs.take i)).map V.int)))
      ⟨none,rfl,s1.upd hp,qab⟩ (fun i σ H2 _ ⟨_,_,h,_⟩=>SqL.of (h _ _ hL)) ?_ ?_⟩
    · rintro i x σ H2 hx ⟨o2,rfl,s2,e2⟩
      obtain ⟨g,hg,hat⟩:=hv.get hx
      obtain ⟨ns,og⟩:=ok.ok g (List.mem_of_getElem? hg)
      refine ⟨_,rfl,.inl ⟨rfl,_,SqL.of e2⟩,?_⟩
      refine ⟨_,rfl,x,g,ns,rfl,HAt.same s2 hat,og,fun D H4 s4 hD eD=>?_⟩
      have hsub:∀ h∈hs.take (i + 1),h∈hs:=fun h hh=>List.mem_of_mem_take hh
      have hlt:(allC (hs.take (i + 1))).length≤6:=by
        have h1:=ok.clen hsub
        have h2:=ok.len
        rw [List.length_take] at h1
        omega
      refine ⟨p,D,_,_,rfl,rfl,s4 _ _ e2,eD,?_,?_⟩
      · rw [← List.length_append,← List.map_append,← ycc hg,List.length_map]
        exact Nat.le_of_lt (ycl (by omega))
      rw [← List.map_append,← ycc hg]
      exact ⟨_,rfl,(s2.trans s4).at hp0,qab⟩
    · rintro σ H2 ⟨o2,rfl,s2,e2⟩
      rw [hv.len,List.take_length] at e2
      have hc:=ok.clen (l:=hs) (fun h hh=>hh)
      have h3:=ok.len
      refine ⟨_,rfl,p,_,rfl,e2,by omega,fun q hq=>?_⟩
      have s6:Same H2 (upd H2 q (SetO P w q (uniq (allC hs)))):=(Same.refl H2).upd hq
      refine ⟨q,_,rfl,qab,by have:=ok.few (l:=hs) (fun h hh=>hh); omega,fun l ns hl hpm hso=>?_⟩
      exact k hb l ns _ ((s2.trans s6).upd hl) ((s2.trans s6).free hl) qab (by rw [← hA]; exact hpm) hso
end
end Mh
set_option Elab.async false
set_option linter.all false
set_option maxRecDepth 100000
set_option maxHeartbeats 4000000
namespace Mh
open PySem L2 PyProof.Rows Mx
def yhf:PyData→Bool | .int i=>decide (1≤i∧i≤64) | _=>false
def ydz (n:Int):PyData→Bool | .list ds=>decide ((ds.length:Int)=n) && (ds.map bitD).all id | _=>false
def qcp (dz dh dc:PyData):Bool:=yhf dz && (decide (∀ c∈ya7 dh,c < intD dz) && ydz (intD dz) dc)
theorem last_max {ns:List Int} {x:Int} (h:(ns++[x]).Pairwise (·≤·)):∀ y∈ns++[x],y≤x:=by
  intro y hy
  rw [List.pairwise_append] at h
  rcases List.mem_append.mp hy with hy | hy
  · exact h.2.2 y hy x (List.mem_singleton.mpr rfl)
  · rw [List.mem_singleton.mp hy]; exact Int.le_refl _
section
variable {P:Program} {w:World} {K:PySem.W.Frag} {mg:Str→Option Value} {base:Heap}
def qkc:Sp:=fun vs H Q _=>∃ v d,vs=[v]∧AtX H v d∧Q (.bl (yhf d)) H
theorem og_size (qbj:∃ t,mg "MOST_CELLS" = some (.int 64 t)) (qap:Has P w K mg base 1 "is_whole" ["thing"] qc9) (F:FnAt K mg "is_size" ycj ["thing"]):Has P w K mg base 2 "is_size" ["thing"] qkc:=by
  refine Has.ofQ F qds (fun vs H Q E h=>?_) (fun f cdv A outer s H vs Q E hr h=>?_)
  · obtain ⟨v,d,rfl,_⟩:=h
    rfl
  · obtain ⟨v,d,rfl,hv,q⟩:=h
    have sc:=qds
    refine ⟨_,(qai rfl (qae (yao (qaa (yax (qak qap hr (yaa (pv 0) yac)) (yax (yar yew (pv 0) qac (yah _)) (qbg (yar op_le (pv 0) (qcu qbj) (yah _))))))))),?_⟩
    refine ⟨_,rfl,v,d,rfl,hv,_,rfl,?_⟩
    cases hw:qcc d with
    | false=>
      have e:yhf d=false:=by cases d <;> first | rfl | cases hw
      rw [e] at q
      exact iteF q
    | true=>
      obtain ⟨i,rfl⟩:∃ i,d=.int i:=by cases d <;> first | exact ⟨_,rfl⟩ | cases hw
      have ev:v=.int i:=by
        rcases hv with h | ⟨e,_⟩
        · exact h.intEq
        · cases e
      subst ev
      have e:yhf (.int i)=decide (1≤i∧i≤64):=rfl
      rw [e] at q
      refine iteT ⟨_,rfl,_,_,rfl,rfl,_,rfl,?_⟩
      by_cases h0:1≤i
      · refine iteD (by omega) ⟨_,rfl,_,_,rfl,rfl,?_⟩
        rw [show decide (1≤i∧i≤64)=decide (i≤64) by simp [h0]] at q
        exact q
      · refine qdi (by omega) ?_
        rw [decide_eq_false (fun z=>h0 z.1)] at q
        exact q
def ykb:Sp:=fun vs H Q _=>∃ v d,∃ n:Int,vs=[v,.int n]∧AtX H v d∧n≤64∧∀ H',Same H H'→Q (.bl (ydz n d)) H'
theorem og_cont (B:Bl mg) (qcz:mg "all" = none) (ych:Has P w K mg base 2 "is_bit" ["thing"] qii) (F:FnAt K mg "are_contents" qa7 ["thing","size"]):Has P w K mg base 3 "are_contents" ["thing","size"] ykb:=by
  refine Has.of F qbz (fun vs H Q E h=>?_) (fun f cdv A outer s H vs Q E hr h=>?_)
  · obtain ⟨v,d,n,rfl,_⟩:=h
    rfl
  · obtain ⟨v,d,n,rfl,hv,hn,k⟩:=h
    have sc:=qbz
    refine ⟨_,(yaj (qbc (yax (yae ya8 rfl (B.of rfl) boot_isinstance (yaa (pv 0) (yaa (ybf (v:=.ty "list") rfl (B.of rfl) boot_list rfl) yac))) (yax (yar ycz (yae yal rfl (B.of rfl) boot_len (yaa (pv 0) yac)) (pv 1) (yah _)) (qbg (yae (yb9 rfl) rfl qcz ycb (yaa (qcl rfl (qbf rfl) (M:=["part"]) (ix:=[none]) (ycs (pv 0)) (fun _ _ _ _=>(qaq (i:=0) (show List.Nodup (["part"]:List Str) by decide +kernel) rfl (Or.inl rfl))) (fun _ _ _ _=>yc5) (fun _ _ _ _=>(qak ych hr (yaa (pv 0) yac)))) yac))))))),?_⟩
    refine ⟨_,rfl,_,_,_,_,rfl,hv.ty,yhp d,_,rfl,?_⟩
    cases hs:isLst d with
    | false=>
      have e:ydz n d=false:=by cases d <;> first | rfl | cases hs
      rw [e] at k
      exact iteF (k H (Same.refl H))
    | true=>
      obtain ⟨ds,rfl⟩:∃ ds,d=.list ds:=by cases d <;> first | exact ⟨_,rfl⟩ | cases hs
      have hv':At H v (.list ds):=by
        rcases hv with h | ⟨e,_⟩
        · exact h
        · cases e
      obtain ⟨C,us,rfl,hC,hu⟩:=hv'.lstEq
      have hul:=hu.length
      have ec:ydz n (.list ds)=(decide ((ds.length:Int)=n) && (ds.map bitD).all id):=rfl
      rw [ec] at k
      refine iteT ⟨_,rfl,C,_,rfl,.inl (SqL.of hC),_,rfl,rfl,_,rfl,?_⟩
      by_cases hl:(ds.length:Int)=n
      rotate_left
      · rw [decide_eq_false hl] at k
        exact iteN (decide_eq_false (fun z=>hl (by have:=V.int.inj z; omega))) (k H (Same.refl H))
      rw [decide_eq_true hl,Bool.true_and] at k
      refine iteB (decide_eq_true (by rw [hul,hl])) ?_
      refine ⟨_,rfl,C,rfl,⟨_,SqL.of hC⟩,fun D hD=>qdh (n:=us.length) (fun i H'=>Same H H'∧H' D=some (.lst (((ds.take i).map bitD).map V.bl))) ⟨(Same.refl H).upd hD,qab⟩ ?_ ?_⟩
      · rintro H3 ⟨s3,e3⟩
        rw [hul,List.take_length] at e3
        refine ⟨⟨_,SqL.of (s3 _ _ hC),Nat.le_refl _⟩,?_⟩
        exact ⟨D,_,rfl,e3,k _ s3⟩
      · rintro i H3 hi ⟨s3,e3⟩
        refine ⟨⟨_,_,SqL.of (s3 _ _ hC),List.getElem?_eq_getElem hi⟩,?_⟩
        rintro x H4 ⟨rfl,hx⟩
        obtain ⟨dx,hdx,hax⟩:=hu.get (hx _ (SqL.of (s3 _ _ hC)))
        refine ⟨qbb.set (qbb.refl _) rfl,yes ?_⟩
        refine ⟨_,rfl,x,dx,rfl,.inl (hax.same s3),fun H5 s5=>?_⟩
        refine ⟨_,s5 _ _ e3,ycl (by rw [List.length_map,List.length_map,List.length_take]; omega),(s3.trans s5).at hD,?_⟩
        rw [qab,List.take_add_one,hdx]
        simp
def yfd (C2 CM:Addr):Sp:=fun vs H Q E=>∃ vz vh vc dz dh dc,vs=[vz,vh,vc]∧AtX H vz dz∧AtX H vh dh∧AtX H vc dc∧(qao dh=none→qcp dz dh dc=true→∀ H',Same H H'→Q .non H')∧
  (qao dh=none→qcp dz dh dc=false→∀ a H',Same H H'→XAt H' a CM []→E (.ref a) none H')∧(∀ b,qao dh=some b→∀ a H',Same H H'→XAt H' a C2 [("number",optN b)]→E (.ref a) none H')
theorem ykl {C2 CM:Addr} (B:Bl mg) (xM:qfu K mg "NoMemory" CM) (yel:HasX P w K mg base 7 "cells_of" ["harms"] (qfd C2)) (yfe:Has P w K mg base 2 "is_size" ["thing"] qkc) (ycu:Has P w K mg base 3 "are_contents" ["thing","size"] ykb) (F:FnAt K mg "look_at_memory" ya0 ["size","harms","contents"]) :
    HasX P w K mg base 8 "look_at_memory" ["size","harms","contents"] (yfd C2 CM):=by
  refine HasX.of F qbk (fun vs H Q E h=>?_) (fun f cdv A outer s H vs Q E hr h=>?_)
  · obtain ⟨vz,vh,vc,dz,dh,dc,rfl,_⟩:=h
    rfl
  · obtain ⟨vz,vh,vc,dz,dh,dc,rfl,hz,hh,hc,q1,q2,q3⟩:=h
    have z1:1≤sizeLine:=by decide
    have sc:=qbk
    refine ⟨_,(qai rfl (yad (qaw (i:=3) sc.nd rfl (Or.inl rfl) (qaa (yc7 yel qfc hr (yaa (pv 1) yac))))
      (yad (ya2 (ybv (yba (yai yfe hr (yaf (qaa (pv 0)) qad))))
        (qae (yd1 (qb8 (qhp xM (yaa yan yac)))))
        qat)
      (yad (ya2 (QW.pt (qw_and (yav yfv (qa8 yal rfl (B.of rfl) boot_len (yaf (qaa (pv 3)) qad)) (qaa qac) (yah _)) (qi9 (yav yew (ybu yaq (qaa (pv 3)) (qaa (qht yfl qac)) (fun _ _=>rfl)) (qaa (pv 0)) (yah _)))))
        (qae (yd1 (qb8 (qhp xM (yaa yan yac)))))
        qat)
      (qae (ya2 (ybv (yba (yai ycu hr (yaf (qaa (pv 2)) (yaf (qaa (pv 0)) qad)))))
        (qae (yd1 (qb8 (qhp xM (yaa yan yac)))))
        qat)))))),?_⟩
    refine ⟨_,rfl,vh,dh,rfl,hh,fun hb D ns H1 s1 hD eD hpm hso=>?_,q3⟩
    have ref:qcp dz dh dc=false→∀ {H2:Hp} {a:Addr},Same H1 H2→H2 a=none→E (.ref a) none (upd (upd H2 a (.ext (yce a CM none))) a (.ext (qch a CM none))):=fun hm H2 a s2 ha=>by
      rw [qd6]
      exact q2 hb hm a _ ((s1.trans s2).upd ha) (.inr (.inr (.inl ⟨rfl,qab⟩)))
    refine ⟨_,rfl,vz,dz,rfl,hz.same s1,_,rfl,?_⟩
    cases hsz:yhf dz with
    | false=>
      have hm:qcp dz dh dc=false:=by unfold qcp; rw [hsz]; rfl
      exact iteT ⟨z1,fun a ha=>⟨a,CM,none,rfl,xM.2.2.1,qab,ref hm (Same.refl H1) ha⟩⟩
    | true=>
      refine iteF ?_
      obtain ⟨n,rfl⟩:∃ n,dz=.int n:=by cases dz <;> first | exact ⟨_,rfl⟩ | cases hsz
      have ev:vz=.int n:=by
        rcases hz with h | ⟨e,_⟩
        · exact h.intEq
        · cases e
      subst ev
      have hn:1≤n∧n≤64:=of_decide_eq_true hsz
      have hmem:∀ c,c∈ns↔c∈ya7 dh:=fun c=>by rw [hpm.mem_iff,yeb]
      have em:qcp (.int n) dh dc=(decide (∀ c∈ya7 dh,c < n) && ydz n dc):=by unfold qcp; rw [hsz]; rfl
      have cont:(∀ c∈ya7 dh,c < n)→qcp (.int n) dh dc=ydz n dc:=fun h=>by rw [em,decide_eq_true h,Bool.true_and]
      refine ⟨_,rfl,D,_,rfl,.inl (SqL.of eD),_,_,rfl,rfl,_,rfl,?_⟩
      by_cases hl:0 < ns.length
      · refine iteD (by rw [List.length_map]; omega) ?_
        obtain ⟨x,hx⟩:∃ x,ns=ns.dropLast++[x]:=⟨ns.getLast (by intro z; rw [z] at hl; simp at hl),(List.dropLast_concat_getLast _).symm⟩
        have hmax:∀ y∈ns,y≤x:=by rw [hx] at hso ⊢; exact last_max hso
        have hxm:x∈ns:=by rw [hx]; simp
        refine ⟨_,rfl,_,rfl,D,_,_,_,rfl,rfl,SqL.of eD,(show atI (ns.map V.int) (-1)=some (.int x) by rw [hx,List.map_append]; exact qh6 _ _),_,rfl,_,_,rfl,rfl,_,rfl,?_⟩
        by_cases hge:n≤x
        · have hm:qcp (.int n) dh dc=false:=by
            rw [em,decide_eq_false (fun z=>by have:=z x ((hmem x).mp hxm); omega)]
            rfl
          exact iteD (by omega) ⟨z1,fun a ha=>⟨a,CM,none,rfl,xM.2.2.1,qab,ref hm (Same.refl H1) ha⟩⟩
        · have hlt:∀ c∈ya7 dh,c < n:=fun c hc'=>by have:=hmax c ((hmem c).mpr hc'); omega
          refine qdi (by omega) ?_
          refine ⟨_,rfl,_,rfl,vc,dc,n,rfl,hc.same s1,hn.2,fun H2 s2=>⟨_,rfl,?_⟩⟩
          cases hcd:ydz n dc with
          | false=>exact iteT ⟨z1,fun a ha=>⟨a,CM,none,rfl,xM.2.2.1,qab,ref (by rw [cont hlt,hcd]) s2 ha⟩⟩
          | true=>exact iteF (q1 hb (by rw [cont hlt,hcd]) H2 (s1.trans s2))
      · refine qdi (by rw [List.length_map]; omega) ?_
        have hlt:∀ c∈ya7 dh,c < n:=fun c hc'=>by
          have h1:=(hmem c).mpr hc'
          have h2:ns=[]:=List.length_eq_zero_iff.mp (by omega)
          rw [h2] at h1
          cases h1
        refine ⟨_,rfl,_,rfl,vc,dc,n,rfl,hc.same s1,hn.2,fun H2 s2=>⟨_,rfl,?_⟩⟩
        cases hcd:ydz n dc with
        | false=>exact iteT ⟨z1,fun a ha=>⟨a,CM,none,rfl,xM.2.2.1,qab,ref (by rw [cont hlt,hcd]) s2 ha⟩⟩
        | true=>exact iteF (q1 hb (by rw [cont hlt,hcd]) H2 (s1.trans s2))
end
end Mh
set_option Elab.async false
set_option linter.all false
set_option maxRecDepth 100000
set_option maxHeartbeats 4000000
namespace Mh
open PySem L2 PyProof.Rows Mx
theorem qdm {X:Cx} {sts:List Stmt}:QSs X sts qkv:=⟨yjo⟩
def yem (n:Nat):PyData→Bool | .int i=>decide (0≤i∧i < n) | _=>false
section
variable {P:Program} {w:World} {K:PySem.W.Frag} {mg:Str→Option Value} {base:Heap} {C:Addr}
def yhv (CB:Addr):Sp:=fun vs H Q E=>∃ v d,vs=[v]∧AtX H v d∧(bitD d=true→∀ H',Same H H'→Q .non H')∧(bitD d=false→∀ a H',Same H H'→XAt H' a CB []→E (.ref a) none H')
theorem og_lbit {CB:Addr} (xB:qfu K mg "NoBit" CB) (ych:Has P w K mg base 2 "is_bit" ["thing"] qii) (F:FnAt K mg "look_at_bit" ybk ["thing"]):HasX P w K mg base 3 "look_at_bit" ["thing"] (yhv CB):=by
  refine HasX.of F qdx (fun vs H Q E h=>?_) (fun f cdv A outer s H vs Q E hr h=>?_)
  · obtain ⟨v,d,rfl,_⟩:=h
    rfl
  · obtain ⟨v,d,rfl,hv,q1,q2⟩:=h
    have sc:=qdx
    refine ⟨_,(qai rfl (qae (ya2 (ybv (yba (yai ych hr (yaf (qaa (pv 0)) qad))))
        (qae (yd1 (qb8 (qhp xB (yaa yan yac)))))
        qat))),?_⟩
    refine ⟨_,rfl,v,d,rfl,hv,fun H1 s1=>⟨_,rfl,?_⟩⟩
    cases hb:bitD d with
    | true=>exact iteF (q1 hb H1 s1)
    | false=>
      refine iteT ⟨(by show 1≤sizeLine; decide),fun a ha=>⟨a,CB,none,rfl,xB.2.2.1,qab,?_⟩⟩
      rw [qd6]
      exact q2 hb a _ (s1.upd ha) (.inr (.inr (.inl ⟨rfl,qab⟩)))
def qde (C CA:Addr):Sp:=fun vs H Q E=>∃ m L Cc us hs cs v d,vs=[.ref m,v]∧MemO H C m L Cc us hs cs∧AtX H v d∧(yem cs.length d=true→Q .non H)∧(yem cs.length d=false→∀ a H',Same H H'→XAt H' a CA []→E (.ref a) none H')
theorem qj9 {CA:Addr} (B:Bl mg) (xA:qfu K mg "NoAddress" CA) (cm:CM K C) (qap:Has P w K mg base 1 "is_whole" ["thing"] qc9) (F:yb0 K C "look_at_address" "Memory.look_at_address" yak ["self","address"]):ydc P w K mg base C 2 "look_at_address" ["self","address"] (qde C CA):=by
  refine ydc.of F qbo (fun vs H Q E h=>?_) (fun f cdv A outer s H vs Q E hr h=>?_)
  · obtain ⟨m,L,Cc,us,hs,cs,v,d,rfl,_⟩:=h
    rfl
  · obtain ⟨m,L,Cc,us,hs,cs,v,d,rfl,⟨⟨dx,ho⟩,mm⟩,hv,q1,q2⟩:=h
    have ref:yem cs.length d=false→∀ {a:Addr},H a=none→E (.ref a) none (upd (upd H a (.ext (yce a CA none))) a (.ext (qch a CA none))):=fun hm a ha=>by
      rw [qd6]
      exact q2 hm a _ ((Same.refl H).upd ha) (.inr (.inr (.inl ⟨rfl,qab⟩)))
    have z1:1≤sizeLine:=by decide
    have sc:=qbo
    refine ⟨_,(qai rfl (qae (ya2 (QW.pt (yd2 (ybv (yba (yai qap hr (yaf (qaa (pv 1)) qad)))) (yd2 (yav qg9 (qaa (pv 1)) (qaa qac) (yah _)) (qcw (yav yew (qaa (pv 1)) (qa8 yal rfl (B.of rfl) boot_len (qir (ydk (qaa (pv 0)) rfl) qad)) (yah _))))))
        (qae (yd1 (qb8 (qhp xA (yaa yan yac)))))
        qat))),?_⟩
    refine ⟨_,rfl,v,d,rfl,hv,_,rfl,?_⟩
    cases hw:qcc d with
    | false=>
      have e:yem cs.length d=false:=by cases d <;> first | rfl | cases hw
      exact iteT (iteT ⟨z1,fun a ha=>⟨a,CA,none,rfl,xA.2.2.1,qab,ref e ha⟩⟩)
    | true=>
      refine iteF ?_
      obtain ⟨i,rfl⟩:∃ i,d=.int i:=by cases d <;> first | exact ⟨_,rfl⟩ | cases hw
      have ev:v=.int i:=by
        rcases hv with h | ⟨e,_⟩
        · exact h.intEq
        · cases e
      subst ev
      have e:yem cs.length (.int i)=decide (0≤i∧i < cs.length):=rfl
      refine ⟨_,rfl,_,_,rfl,rfl,_,rfl,?_⟩
      by_cases h0:i < 0
      · exact iteD h0 (iteT ⟨z1,fun a ha=>⟨a,CA,none,rfl,xA.2.2.1,qab,ref (by rw [e,decide_eq_false (fun z=>by omega)]) ha⟩⟩)
      refine qdi h0 ?_
      refine ⟨_,rfl,_,rfl,m,C,dx,_,_,rfl,ho,cm.c,cm.nc,lk_c,Cc,_,rfl,.inl (SqL.of mm.hc),_,_,rfl,rfl,_,rfl,?_⟩
      by_cases h1:i < cs.length
      · exact qdi (by rw [List.length_map]; omega) (q1 (by rw [e,decide_eq_true ⟨by omega,h1⟩]))
      · exact iteD (by rw [List.length_map]; omega) ⟨z1,fun a ha=>⟨a,CA,none,rfl,xA.2.2.1,qab,ref (by rw [e,decide_eq_false (fun z=>h1 z.2)]) ha⟩⟩
def qg0 (C C2 CM:Addr):Sp:=fun vs H Q E=>∃ x vz vh vc dz dh dc,vs=[.ref x,vz,vh,vc]∧AtX H vz dz∧AtX H vh dh∧AtX H vc dc∧(qao dh=none→qcp dz dh dc=false)∧
  (qao dh=none→∀ a H',Same H H'→XAt H' a CM []→E (.ref a) none H')∧(∀ b,qao dh=some b→∀ a H',Same H H'→XAt H' a C2 [("number",optN b)]→E (.ref a) none H')
end
end Mh
set_option Elab.async false
set_option linter.all false
set_option maxRecDepth 100000
set_option maxHeartbeats 4000000
namespace Mh
open PySem L2 PyProof.Rows Mx
theorem yhh {P:Program} {w:World} {K:PySem.W.Frag} {mg:Str→Option Value} {base:Heap} {CX:CXT} {k:Nat} {f:Addr} {fd:FuncData} {ps:List Str} {sp1 sp2:Sp} (h1:FnOk P w K mg base CX k f fd ps sp1) (h2:FnOk P w K mg base CX k f fd ps sp2):FnOk P w K mg base CX k f fd ps (fun vs H Q E=>sp1 vs H Q E∨sp2 vs H Q E):=
  ⟨fun vs H Q E h=>h.elim (h1.len vs H Q E) (h2.len vs H Q E),fun A outer s H args us vs Q E hr he hb hv hs=>hs.elim (h1.run A outer s H args us vs Q E hr he hb hv) (h2.run A outer s H args us vs Q E hr he hb hv)⟩
section
variable {P:Program} {w:World} {K:PySem.W.Frag} {mg:Str→Option Value} {base:Heap} {C:Addr}
theorem yjf {f0:Addr} {fd0:FuncData} (B:Bl mg) (cm:CM K C) (qa2:Has P w K mg base 8 "look_at_memory" ["size","harms","contents"] ybl) (yd8:Has P w K mg base 3 "settle" ["harms","cells"] yec) (F:Fun K "__init__" "Memory.__init__" yam f0 fd0):FnOk P w K mg base CX0 9 f0 fd0 ["self","size","harms","contents"] (qcy C):=by
  refine Fun.okQ F yay (fun vs H Q E h=>?_) (fun cdv A outer s H vs Q E hr h=>?_)
  · obtain ⟨x,dx,L0,C0,us,hs,S,cs,rfl,_⟩:=h
    rfl
  · obtain ⟨x,dx,L0,C0,us,hs,S,cs,rfl,hx,hL,hv,ok,hi,hC,hb,l1,l64,k⟩:=h
    have sc:=yay
    refine ⟨_,(qai rfl (yad (ya6 (yai qa2 hr (yaf (qaa (pv 1)) (yaf (qaa (pv 2)) (yaf (qaa (pv 3)) qad)))))
      (yad (yfi (qaa (pv 0)) (qbi qbs rfl (B.of rfl) boot_list (yaf (qaa (pv 2)) qad)) rfl)
      (yad (yfi (qaa (pv 0)) (qbi qbs rfl (B.of rfl) boot_list (yaf (qaa (pv 3)) qad)) rfl)
      (qae (ya6 (yai yd8 hr (qir (ydk (qaa (pv 0)) rfl) (qir (ydk (qaa (pv 0)) rfl) qad))))))))),?_⟩
    refine ⟨_,rfl,_,rfl,_,rfl,L0,us,hs,S,C0,cs,rfl,hL,hv,ok,hi,hC,hb,l1,l64,fun H1 s1=>?_⟩
    refine ⟨_,rfl,L0,_,rfl,.inl (SqL.of (s1 _ _ hL)),fun L n1=>?_⟩
    have s2:Same H1 (upd H1 L (.lst us)):=(Same.refl H1).upd n1
    have f2:upd H1 L (.lst us) L=some (.lst us):=qab
    revert s2 f2
    generalize upd H1 L (.lst us)=H2
    intro s2 f2
    have s12:=s1.trans s2
    refine ⟨_,rfl,x,C,dx,_,rfl,s12 _ _ hx,cm.c,cm.nh,by simp,?_⟩
    have nLx:L≠x:=fun z=>by subst z; rw [s1 _ _ hx] at n1; cases n1
    have u3:∀ b u,b≠x→H2 b=some u→upd H2 x (.ins C dx (putF "harms" (.ref L) [])) b=some u:=fun b u h e=>by rw [qaf h]; exact e
    have f3:upd H2 x (.ins C dx (putF "harms" (.ref L) [])) x=some (.ins C dx [("harms",.ref L)]):=qab
    revert u3 f3
    generalize upd H2 x (.ins C dx (putF "harms" (.ref L) []))=H3
    intro u3 f3
    have nx:∀ {b:Addr} {xs:List V},H b=some (.lst xs)→b≠x:=fun e z=>by subst z; rw [hx] at e; cases e
    refine ⟨_,rfl,C0,_,rfl,.inl (SqL.of (u3 _ _ (nx hC) (s12 _ _ hC))),fun Cc n4=>?_⟩
    have nCx:Cc≠x:=fun z=>by subst z; rw [f3] at n4; cases n4
    have nLC:L≠Cc:=fun z=>by subst z; rw [u3 _ _ nLx f2] at n4; cases n4
    have s4:Same H3 (upd H3 Cc (.lst (cs.map V.int))):=(Same.refl H3).upd n4
    have f4:upd H3 Cc (.lst (cs.map V.int)) Cc=some (.lst (cs.map V.int)):=qab
    revert s4 f4
    generalize upd H3 Cc (.lst (cs.map V.int))=H4
    intro s4 f4
    refine ⟨_,rfl,x,C,dx,_,rfl,s4 _ _ f3,cm.c,cm.nc,by simp,?_⟩
    have u5:∀ b u,b≠x→H4 b=some u→upd H4 x (.ins C dx (putF "cells" (.ref Cc) [("harms",.ref L)])) b=some u:=fun b u h e=>by rw [qaf h]; exact e
    have f5:upd H4 x (.ins C dx (putF "cells" (.ref Cc) [("harms",.ref L)])) x=some (.ins C dx (fsM L Cc)):=by
      rw [qab]
      have:putF "cells" (V.ref Cc) [("harms",.ref L)]=fsM L Cc:=by
        unfold fsM putF
        rw [if_neg (by decide +kernel)]
        rfl
      rw [this]
    revert u5 f5
    generalize upd H4 x (.ins C dx (putF "cells" (.ref Cc) [("harms",.ref L)]))=H5
    intro u5 f5
    have hc0:H Cc=none:=by
      cases e:H Cc with
      | none=>rfl
      | some u=>have:=u3 _ _ nCx (s12 _ _ e); rw [n4] at this; cases this
    have hl0:H L=none:=s1.free n1
    have up:∀ b u,b≠x→H b=some u→H5 b=some u:=fun b u h e=>u5 _ _ h (s4 _ _ (u3 _ _ h (s12 _ _ e)))
    have m5:Mem H5 L Cc us hs cs:=⟨nLC,u5 _ _ nLx (s4 _ _ (u3 _ _ nLx f2)),⟨hv.len,fun i v h a b=>by
      obtain ⟨z,e,hz⟩:=hv.at_ i v h a b
      exact ⟨z,e,up _ _ (fun q=>by subst q; rw [hx] at hz; cases hz) hz⟩⟩,ok.ok,u5 _ _ nCx f4⟩
    refine ⟨_,rfl,x,C,dx,_,_,rfl,f5,cm.c,cm.nh,lk_h,_,rfl,x,C,dx,_,_,rfl,f5,cm.c,cm.nc,lk_c,L,Cc,us,hs,cs,rfl,m5,hi,l64,?_⟩
    refine k L Cc _ (fun b u h e=>?_) hl0 hc0 ⟨⟨dx,?_⟩,m5.upd _⟩
    · rw [qaf (fun z=>by subst z; rw [hc0] at e; cases e)]
      exact up b u h e
    · rw [qaf (fun z=>nCx z.symm)]
      exact f5
theorem qj5 {f0:Addr} {fd0:FuncData} {C2 CM':Addr} (qa2:HasX P w K mg base 8 "look_at_memory" ["size","harms","contents"] (yfd C2 CM')) (F:Fun K "__init__" "Memory.__init__" yam f0 fd0):FnOk P w K mg base (CX1 P w) 9 f0 fd0 ["self","size","harms","contents"] (qg0 C C2 CM'):=by
  refine FnOk.ofX F yay (fun vs H Q E h=>?_) (fun cdv A outer s H vs Q E hr h=>?_)
  · obtain ⟨x,vz,vh,vc,dz,dh,dc,rfl,_⟩:=h
    rfl
  · obtain ⟨x,vz,vh,vc,dz,dh,dc,rfl,hz,hh,hc,h0,q1,q2⟩:=h
    have sc:=yay
    refine ⟨_,(qai rfl (yad (ya6 (qaa (yc7 qa2 qfc hr (yaa (pv 1) (yaa (pv 2) (yaa (pv 3) yac)))))) qdm)),?_⟩
    exact ⟨_,rfl,_,rfl,_,rfl,vz,vh,vc,dz,dh,dc,rfl,hz,hh,hc,fun hb z=>(by rw [h0 hb] at z; cases z),fun hb _=>q1 hb,q2⟩
end
end Mh
set_option Elab.async false
set_option linter.all false
set_option maxRecDepth 100000
set_option maxHeartbeats 4000000
namespace Mh
open PySem L2 PyProof.Rows Mx
def vD:V→PyData | .int i=>.int i | .str x=>.str x | .bl b=>.bool b | _=>.none
def hmD (h:Hm):PyData:=.tuple (.str h.w :: (h.c.map PyData.int++h.r.map vD))
theorem rest_at {H:Hp} {ns:List Str} {vs:List V} (h:Rest ns vs):AtAll H vs (vs.map vD):=by
  induction h with
  | nil=>exact .nil
  | bit hb _ ih=>obtain ⟨b,rfl⟩:=hb; exact .cons (.int _) ih
  | how hb _ ih=>rcases hb with rfl | rfl <;> exact .cons (.str _) ih
theorem hm_at {H:Hp} {v:V} {h:Hm} {ns:List Str} (x:HAt H v h) (ok:okH h ns):At H v (hmD h):=by
  obtain ⟨a,rfl,ha⟩:=x
  exact .tup ha (.cons (.str _) ((qgd h.c).append (rest_at ok.rest)))
theorem yit {ns:List Str} {vs:List V} (h:Rest ns vs):qbh ns (vs.map vD)=true:=by
  induction h with
  | nil=>rfl
  | bit hb _ ih=>
    obtain ⟨b,rfl⟩:=hb
    show (qdt "bit" (.int (b2i b)) && _)=true
    rw [ih]
    cases b <;> decide +kernel
  | how hb _ ih=>
    rcases hb with rfl | rfl
    · show (qdt "how" (.str "and") && _)=true
      rw [ih]
      decide +kernel
    · show (qdt "how" (.str "or") && _)=true
      rw [ih]
      decide +kernel
theorem ye4 {ns:List Str} {r:List PyData} (hr:qbh ns r=true):∀ (c:List Int),(∀ x∈c,0≤x∧x < 64)→qbh (nmL c.length ns) (c.map PyData.int++r)=true
  | [],_=>hr
  | x :: c,h=>by
    show (qdt "cell" (.int x) && qbh (nmL c.length ns) (c.map PyData.int++r))=true
    rw [ye4 hr c fun y hy=>h y (List.mem_cons_of_mem _ hy),Bool.and_true]
    unfold qdt
    rw [if_pos rfl]
    exact decide_eq_true (h x (List.mem_cons_self ..))
theorem qiz {ns:List Str} {r:List V} (h:Rest ns r):∀ n∈ns,n="bit"∨n="how":=by
  induction h with
  | nil=>intro n hn; cases hn
  | bit _ _ ih=>
    intro n hn
    rcases List.mem_cons.mp hn with rfl | hn
    · exact .inl rfl
    · exact ih n hn
  | how _ _ ih=>
    intro n hn
    rcases List.mem_cons.mp hn with rfl | hn
    · exact .inr rfl
    · exact ih n hn
theorem yjr {h:Hm} {ns:List Str} (ok:okH h ns):qbe h.w=h.c.length:=by
  have hk:KTD.inKeys h.w tabP=true:=by rw [← KTD.isSome_datumAt,ok.tab]; rfl
  obtain ⟨ns',ht,_,hn'⟩:=qjo hk
  have hrest:=qiz ok.rest
  have e:=ht.symm.trans ok.tab
  have e2:=Option.some.inj e
  have cnt:∀ (n:Nat) (ms:List Str),(∀ x∈ms,x="bit"∨x="how")→(yaw n ms).countP (fun v=>decide (v=V.str "cell"))=n:=fun n ms hm=>by
    unfold yaw
    rw [List.countP_append,List.countP_replicate,List.countP_eq_zero.mpr]
    · simp
    · intro v hv
      obtain ⟨x,hx,rfl⟩:=List.mem_map.mp hv
      rcases hm x hx with rfl | rfl <;> decide +kernel
  have h1:=cnt (qbe h.w) ns' hn'
  rw [e2,cnt _ ns hrest] at h1
  exact h1.symm
theorem ygt {h:Hm} {ns:List Str} (ok:okH h ns):yhc (hmD h)=true∧qe8 (hmD h)=h.c:=by
  have hk:KTD.inKeys h.w tabP=true:=by rw [← KTD.isSome_datumAt,ok.tab]; rfl
  have hc:ybz (qbe h.w) (h.c.map PyData.int++h.r.map vD)=h.c:=by
    unfold ybz
    rw [yjr ok,List.take_append_of_le_length (by simp),List.take_of_length_le (by simp),List.map_map]
    simp [Function.comp_def,intD]
  refine ⟨?_,hc⟩
  show (KTD.inKeys h.w tabP && (qbh (nmOf h.w) (h.c.map PyData.int++h.r.map vD) && decide (ybz (qbe h.w) (h.c.map PyData.int++h.r.map vD)).Nodup))=true
  rw [hk,hc,yhk ok.tab,ye4 (yit ok.rest) h.c ok.rg,decide_eq_true ok.nd]
  rfl
end Mh
set_option Elab.async false
set_option linter.all false
set_option maxRecDepth 100000
set_option maxHeartbeats 4000000
namespace Mh
open PySem L2 PyProof.Rows Mx
theorem HsV.cons {H:Hp} {u:V} {us:List V} {h:Hm} {hs:List Hm} (x:HsV H (u :: us) (h :: hs)):HAt H u h∧HsV H us hs:=
  ⟨x.at_ 0 u h rfl rfl,⟨by have:=x.len; simpa using this,fun i v g h1 h2=>x.at_ (i + 1) v g h1 h2⟩⟩
theorem hs_at {H:Hp}:∀ {us:List V} {hs:List Hm},HsV H us hs→(∀ h∈hs,∃ ns,okH h ns)→AtAll H us (hs.map hmD)
  | [],[],_,_=>.nil
  | u :: us,h :: hs,x,o=>by
    obtain ⟨x1,x2⟩:=x.cons
    obtain ⟨ns,ok⟩:=o h (List.mem_cons_self ..)
    exact .cons (hm_at x1 ok) (hs_at x2 fun g hg=>o g (List.mem_cons_of_mem _ hg))
  | [],_ :: _,x,_=>by have:=x.len; simp at this
  | _ :: _,[],x,_=>by have:=x.len; simp at this
theorem yei:∀ {hs:List Hm},(∀ h∈hs,∃ ns,okH h ns)→(hs.map hmD).flatMap qe8=allC hs
  | [],_=>rfl
  | h :: hs,o=>by
    obtain ⟨ns,ok⟩:=o h (List.mem_cons_self ..)
    have ih:=yei (hs:=hs) fun g hg=>o g (List.mem_cons_of_mem _ hg)
    unfold allC at ih ⊢
    rw [List.map_cons,List.flatMap_cons,List.flatMap_cons,ih,(ygt ok).2]
theorem hs_good {H:Hp} {L:Addr} {us:List V} {hs:List Hm} {S:List Int} (hL:H L=some (.lst us)) (hv:HsV H us hs) (ok:okHs hs S):At H (.ref L) (.list (hs.map hmD))∧qao (.list (hs.map hmD))=none∧ya7 (.list (hs.map hmD))=allC hs:=by
  refine ⟨.lst hL (hs_at hv ok.ok),ye5 (by rw [List.length_map]; have:=ok.len; omega) fun j hj=>?_,yei ok.ok⟩
  rw [List.length_map] at hj
  unfold ydd
  have e1:(hs.map hmD).getD j .none=hmD hs[j]:=by rw [List.getD_eq_getElem?_getD,List.getElem?_map,List.getElem?_eq_getElem hj]; rfl
  obtain ⟨ns,og⟩:=ok.ok _ (List.getElem_mem hj)
  have e2:accH (hs.map hmD) (j + 1)=allC (hs.take (j + 1)):=by
    unfold accH
    rw [← List.map_take]
    exact yei fun g hg=>ok.ok g (List.mem_of_mem_take hg)
  rw [e1,(ygt og).1,e2,decide_eq_false (by have:=ok.few (l:=hs.take (j + 1)) (fun h hh=>List.mem_of_mem_take hh); omega)]
  rfl
theorem qhb {x:Int} (h:0≤x∧x < 64):Sm 0 0 (.int x):=by
  have:∀ n:Nat,n < 64→(PyData.int (n:Int)).showable=true∧PyData.leavesShort 40 (.int (n:Int))=true:=by decide +kernel
  have h1:=this x.toNat (by omega)
  rw [show ((x.toNat:Nat):Int)=x by omega] at h1
  exact ⟨h1.1,by simp [PyData.depth],h1.2,by simp [PyData.bulk]⟩
theorem hm_sm {h:Hm} {ns:List Str} (ok:okH h ns):Sm 1 100 (hmD h):=by
  have hk:KTD.inKeys h.w tabP=true:=by rw [← KTD.isSome_datumAt,ok.tab]; rfl
  have hw:Sm 0 8 (.str h.w):=by
    have:h.w="stuck"∨h.w="slow"∨h.w="forgets"∨h.w="misreads"∨h.w="turns"∨h.w="sets"∨h.w="keeps"∨h.w="nowhere"∨h.w="other"∨h.w="both":=by
      simpa [tabP,KTD.inKeys] using hk
    rcases this with e | e | e | e | e | e | e | e | e | e <;> rw [e] <;> exact ⟨by decide +kernel,by decide +kernel,by decide +kernel,by decide +kernel⟩
  have hr:∀ {ns:List Str} {r:List V},Rest ns r→∀ x∈r.map vD,Sm 0 8 x:=fun {ns r} h=>by
    induction h with
    | nil=>intro x hx; cases hx
    | bit hb _ ih=>
      obtain ⟨b,rfl⟩:=hb
      intro x hx
      rcases List.mem_cons.mp hx with rfl | hx
      · cases b <;> exact ⟨by decide +kernel,by decide +kernel,by decide +kernel,by decide +kernel⟩
      · exact ih x hx
    | how hb _ ih=>
      intro x hx
      rcases List.mem_cons.mp hx with rfl | hx
      · rcases hb with rfl | rfl <;> exact ⟨by decide +kernel,by decide +kernel,by decide +kernel,by decide +kernel⟩
      · exact ih x hx
  refine (Sm.tuple (n:=5) (D:=0) (B:=8) (fun x hx=>?_) ?_).mono
  · rcases List.mem_cons.mp hx with rfl | hx
    · exact hw
    · rcases List.mem_append.mp hx with hx | hx
      · obtain ⟨c,hc,rfl⟩:=List.mem_map.mp hx
        exact (qhb (ok.rg c hc)).mono
      · exact hr ok.rest x hx
  · have h1:=ok.cl
    have h2:=ok.rl
    have h3:=ok.rest.len
    simp
    omega
theorem hs_sm {hs:List Hm} {S:List Int} (ok:okHs hs S):Sm 2 400 (.list (hs.map hmD)):=
  (Sm.list (n:=3) (D:=1) (B:=100) (fun x hx=>by
    obtain ⟨h,hh,rfl⟩:=List.mem_map.mp hx
    obtain ⟨ns,og⟩:=ok.ok h hh
    exact hm_sm og) (by rw [List.length_map]; exact ok.len)).mono
end Mh
set_option Elab.async false
set_option linter.all false
set_option maxRecDepth 100000
set_option maxHeartbeats 4000000
namespace L2
open PySem PySem.Spec PyProof.Rows PySem.W Mx
section
variable {X:Cx} {e:Expr} {es:List Expr} {t:TA} {C:Addr} {x:Str} {p pos:Pos} {E:XK}
theorem qe_makeX {k n:Nat} {ps:List Str} {sp:Sp} (h:yf6 X.prog X.w X.K X.mg X.base C k x ps sp) (hx:ydl (CX1 X.prog X.w) X E) (hr:Room n X.A) (ha:QA X (e :: es) t) (hk:k + 1≤n:=by decide) (hg:Gl X x:=by rfl)
    (hdb:(x == ("__debug__" : Str))=false:=by decide) (he:starEach (e :: es) X.env=(false,eval e X.env) :: starEach es X.env:=by rfl) (hpl:(backTo pos (starEach es X.env)).any (·.1)=false:=by rfl) :
    QE X (.Call (.Name x p) (e :: es) [] pos) (tMake C sp [] E t):=by
  obtain ⟨f,fd,h1,h2,h3,h4⟩:=h
  exact ⟨qkk h2 h4 (hr.mono hk) hg h1 h3 .nil hx ha.of hdb he hpl⟩
end
end L2
namespace Mh
open PySem L2 PyProof.Rows Mx
def cntD:PyData→Bool | .int i=>decide (1≤i∧i≤8) | _=>false
def incB (ns:List Int) (n:Int):Bool:=decide (ns.Pairwise (· < ·)) && (ns.map fun c=>decide (0≤c∧c < n)).all id
def sprB (n:Int):PyData→Bool | .list ds=>(ds.map qcc).all id && incB (ds.map intD) n | _=>false
theorem yid:∀ (a b:List Int),PyData.eqvAll (a.map PyData.int) (b.map PyData.int)=decide (a=b)
  | [],[]=>rfl
  | [],_ :: _=>rfl
  | _ :: _,[]=>rfl
  | x :: a,y :: b=>by
    show ((PyData.int x).eqv (.int y) && PyData.eqvAll (a.map PyData.int) (b.map PyData.int))=_
    rw [yid a b]
    have:(PyData.int x).eqv (.int y)=decide (x=y):=by simp [PyData.eqv]; rfl
    rw [this,Bool.eq_iff_iff]
    simp
theorem qgh {H:Hp}:∀ {us:List V} {ds:List PyData},AtAll H us ds→(ds.map qcc).all id=true→us=(ds.map intD).map V.int
  | [],[],.nil,_=>rfl
  | u :: us,d :: ds,.cons a r,h=>by
    have h':(qcc d && (ds.map qcc).all id)=true:=h
    rw [Bool.and_eq_true] at h'
    obtain ⟨i,rfl⟩:∃ i,d=.int i:=by
      have:=h'.1
      cases d <;> first | exact ⟨_,rfl⟩ | cases this
    have e:=a.intEq
    subst e
    rw [List.map_cons,List.map_cons,qgh r h'.2]
    rfl
theorem inc_iff {ns ns':List Int} (hp:ns'.Perm (uniq ns)) (hs:ns'.Pairwise (·≤·)):(ns=ns')↔ns.Pairwise (· < ·):=by
  constructor
  · intro e
    subst e
    have nd:ns.Nodup:=hp.nodup_iff.mpr (qf5 ns)
    exact (hs.and nd).imp fun ⟨h1,h2⟩=>by omega
  · intro h
    exact (yg5 (hp.trans (by rw [yfr h])) hs (h.imp fun h=>by omega)).symm
section
variable {P:Program} {w:World} {K:PySem.W.Frag} {mg:Str→Option Value} {base:Heap}
def qih:Sp:=fun vs H Q _=>∃ v d,vs=[v]∧AtX H v d∧Q (.bl (cntD d)) H
theorem og_count (ydy:∃ t,mg "MOST_ROWS" = some (.int 8 t)) (qap:Has P w K mg base 1 "is_whole" ["thing"] qc9) (F:FnAt K mg "is_count" qb7 ["thing"]):Has P w K mg base 2 "is_count" ["thing"] qih:=by
  refine Has.ofQ F qc4 (fun vs H Q E h=>?_) (fun f cdv A outer s H vs Q E hr h=>?_)
  · obtain ⟨v,d,rfl,_⟩:=h
    rfl
  · obtain ⟨v,d,rfl,hv,q⟩:=h
    have sc:=qc4
    refine ⟨_,(qai rfl (qae (yao (qaa (yax (qak qap hr (yaa (pv 0) yac)) (yax (yar yew (pv 0) qac (yah _)) (qbg (yar op_le (pv 0) (qcu ydy) (yah _))))))))),?_⟩
    refine ⟨_,rfl,v,d,rfl,hv,_,rfl,?_⟩
    cases hw:qcc d with
    | false=>
      have e:cntD d=false:=by cases d <;> first | rfl | cases hw
      rw [e] at q
      exact iteF q
    | true=>
      obtain ⟨i,rfl⟩:∃ i,d=.int i:=by cases d <;> first | exact ⟨_,rfl⟩ | cases hw
      have ev:v=.int i:=by
        rcases hv with h | ⟨e,_⟩
        · exact h.intEq
        · cases e
      subst ev
      have e:cntD (.int i)=decide (1≤i∧i≤8):=rfl
      rw [e] at q
      refine iteT ⟨_,rfl,_,_,rfl,rfl,_,rfl,?_⟩
      by_cases h0:1≤i
      · refine iteD (by omega) ⟨_,rfl,_,_,rfl,rfl,?_⟩
        rw [show decide (1≤i∧i≤8)=decide (i≤8) by simp [h0]] at q
        exact q
      · refine qdi (by omega) ?_
        rw [decide_eq_false (fun z=>h0 z.1)] at q
        exact q
def yg8:Sp:=fun vs H Q _=>∃ v d,∃ n:Int,vs=[v,.int n]∧AtX H v d∧(∀ ds,d=.list ds→ds.length≤60)∧∀ H',Same H H'→Q (.bl (sprB n d)) H'
theorem qf7 (B:Bl mg) (qcz:mg "all" = none) (qb2:mg "set" = none) (qap:Has P w K mg base 1 "is_whole" ["thing"] qc9) (F:FnAt K mg "are_spares" ybh ["thing","count"]):Has P w K mg base 2 "are_spares" ["thing","count"] yg8:=by
  refine Has.ofQ F qci (fun vs H Q E h=>?_) (fun f cdv A outer s H vs Q E hr h=>?_)
  · obtain ⟨v,d,n,rfl,_⟩:=h
    rfl
  · obtain ⟨v,d,n,rfl,hv,h60,k⟩:=h
    have sc:=qci
    refine ⟨_,(qai rfl (yad (ya2 (QW.pt (yd2 (ybv (yba (qa8 ya8 rfl (B.of rfl) boot_isinstance (yaf (qaa (pv 0)) (yaf (qaa (ybf (v:=.ty "list") rfl (B.of rfl) boot_list rfl)) qad))))) (qcw (ybv (yba (qa8 (yb9 rfl) rfl qcz ycb (qa_lc (qaa (qcl rfl (qbf rfl) (M:=["part"]) (ix:=[none]) (ycs (pv 0)) (fun _ _ _ _=>(qaq (i:=0) (show List.Nodup (["part"]:List Str) by decide +kernel) rfl (Or.inl rfl))) (fun _ _ _ _=>yc5) (fun _ _ _ _=>(qak qap hr (yaa (pv 0) yac))))) qad)))))))
        (qae (yao (qaa yc2)))
        qat)
      (qae (yao (qaa (yax (yar (qkt hr) (pv 0) (yae (qcb rfl) rfl (B.of rfl) qcd (yaa (qco (qb0 rfl) rfl qb2 qbv (yaa (pv 0) yac)) yac)) (yah _)) (qbg (yae (yb9 rfl) rfl qcz ycb (yaa (qcl rfl (qbf rfl) (M:=["part","count"]) (ix:=[none,some 1]) (ycs (pv 0)) (fun _ _ _ _=>(qaq (i:=0) (show List.Nodup (["part","count"]:List Str) by decide +kernel) rfl (Or.inl rfl))) (fun _ _ _ _=>yc5) (fun _ _ _ _=>(yax (yar yew (pv 0) qac (yah _)) (qbg (yar qg9 (pv 0) (pv 1) (yah _)))))) yac))))))))),?_⟩
    refine ⟨_,rfl,_,_,_,_,rfl,hv.ty,yhp d,_,rfl,?_⟩
    cases hs:isLst d with
    | false=>
      have e:sprB n d=false:=by cases d <;> first | rfl | cases hs
      rw [e] at k
      exact iteT (iteT (k H (Same.refl H)))
    | true=>
      obtain ⟨ds,rfl⟩:∃ ds,d=.list ds:=by cases d <;> first | exact ⟨_,rfl⟩ | cases hs
      have hv':At H v (.list ds):=by
        rcases hv with h | ⟨e,_⟩
        · exact h
        · cases e
      obtain ⟨L,us,rfl,hL,hu⟩:=hv'.lstEq
      have hul:=hu.length
      have le:=h60 ds rfl
      have es:sprB n (.list ds)=((ds.map qcc).all id && incB (ds.map intD) n):=rfl
      rw [es] at k
      refine iteF ?_
      refine ⟨_,rfl,L,rfl,⟨_,SqL.of hL⟩,fun D hD=>qdh (n:=us.length) (fun i H'=>Same H H'∧H' D=some (.lst (((ds.take i).map qcc).map V.bl))) ⟨(Same.refl H).upd hD,qab⟩ ?_ ?_⟩
      rotate_left
      · rintro i H3 hi ⟨s3,e3⟩
        refine ⟨⟨_,_,SqL.of (s3 _ _ hL),List.getElem?_eq_getElem hi⟩,?_⟩
        rintro x H4 ⟨rfl,hx⟩
        obtain ⟨dx,hdx,hax⟩:=hu.get (hx _ (SqL.of (s3 _ _ hL)))
        refine ⟨qbb.set (qbb.refl _) rfl,yes ?_⟩
        refine ⟨_,rfl,x,dx,rfl,.inl (hax.same s3),?_⟩
        refine ⟨_,e3,ycl (by rw [List.length_map,List.length_map,List.length_take]; omega),s3.at hD,?_⟩
        rw [qab,List.take_add_one,hdx]
        simp
      · rintro H3 ⟨s3,e3⟩
        rw [hul,List.take_length] at e3
        refine ⟨⟨_,SqL.of (s3 _ _ hL),Nat.le_refl _⟩,?_⟩
        refine ⟨D,_,rfl,e3,_,rfl,?_⟩
        cases hw:(ds.map qcc).all id with
        | false=>
          rw [hw] at k
          exact iteT (k H3 s3)
        | true=>
          rw [hw,Bool.true_and] at k
          refine iteF ?_
          have eu:=qgh hu hw
          generalize hns:ds.map intD=ns at k eu
          have hnl:ns.length=ds.length:=by rw [← hns,List.length_map]
          subst eu
          have hL3:=s3 _ _ hL
          have ule:=L2.qez ns
          refine ⟨_,rfl,_,rfl,L,_,rfl,hL3,by omega,fun q hq=>?_⟩
          have s4:Same H3 (upd H3 q (SetO P w q (uniq ns))):=(Same.refl H3).upd hq
          refine ⟨q,_,rfl,qab,by rw [List.length_map] at hul; omega,fun l ns' hl hpm hso=>?_⟩
          have s5:=s4.upd (o:=.lst (ns'.map V.int)) hl
          refine ⟨_,_,qek (s5 _ _ hL3),qek qab,qcm _,qcm _,qeh _,_,rfl,?_⟩
          have ee:PyData.eqv (yg9 ns) (yg9 ns')=decide (ns.Pairwise (· < ·)):=by
            show PyData.eqvAll _ _=_
            rw [yid]
            exact decide_eq_decide.mpr (inc_iff hpm hso)
          rw [ee]
          generalize hG5:upd _ l _=H5
          have s35:Same H H5:=by rw [← hG5]; exact s3.trans s5
          by_cases hin:ns.Pairwise (· < ·)
          rotate_left
          · refine iteN (decide_eq_false hin) ?_
            have:=k H5 s35
            unfold incB at this
            rw [decide_eq_false hin] at this
            exact this
          refine iteB (decide_eq_true hin) ?_
          have hL5:=s35 _ _ hL
          refine ⟨_,rfl,L,rfl,⟨_,SqL.of hL5⟩,fun D2 hD2=>qdh (n:=ns.length) (fun i H'=>Same H5 H'∧H' D2=some (.lst (((ns.take i).map fun c=>decide (0≤c∧c < n)).map V.bl))) ⟨(Same.refl H5).upd hD2,qab⟩ ?_ ?_⟩
          · rintro H6 ⟨s6,e6⟩
            rw [List.take_length] at e6
            refine ⟨⟨_,SqL.of (s6 _ _ hL5),by simp⟩,?_⟩
            refine ⟨D2,_,rfl,e6,?_⟩
            have:=k H6 (s35.trans s6)
            unfold incB at this
            rw [decide_eq_true hin,Bool.true_and] at this
            exact this
          · rintro i H6 hi ⟨s6,e6⟩
            refine ⟨⟨_,_,SqL.of (s6 _ _ hL5),by rw [List.getElem?_map,List.getElem?_eq_getElem hi]; rfl⟩,?_⟩
            rintro x H6 ⟨rfl,hx⟩
            obtain ⟨c,hc,rfl⟩:=ycv (hx _ (SqL.of (s6 _ _ hL5)))
            refine ⟨qbb.set (qbb.refl _) rfl,yes ?_⟩
            have fin:∀ {b:Bool},b=decide (0≤c∧c < n)→Same H5 (upd H6 D2 (.lst (((ns.take i).map fun c=>decide (0≤c∧c < n)).map V.bl++[V.bl b])))∧upd H6 D2 (.lst (((ns.take i).map fun c=>decide (0≤c∧c < n)).map V.bl++[V.bl b])) D2=some (.lst (((ns.take (i + 1)).map fun c=>decide (0≤c∧c < n)).map V.bl)):=fun {b} hb=>by
              refine ⟨s6.at hD2,?_⟩
              rw [qab,List.take_add_one,hc,hb]
              simp
            refine ⟨_,rfl,_,_,rfl,rfl,_,rfl,?_⟩
            by_cases h0:0≤c
            · refine iteD (by omega) ⟨_,rfl,_,rfl,_,_,rfl,rfl,?_⟩
              exact ⟨_,e6,ycl (by rw [List.length_map,List.length_map,List.length_take]; omega),fin (by simp [h0])⟩
            · refine qdi (by omega) ?_
              exact ⟨_,e6,ycl (by rw [List.length_map,List.length_map,List.length_take]; omega),fin (by rw [decide_eq_false (fun z=>h0 z.1)])⟩
def qfo (CM:Addr):Sp:=fun vs H Q E=>∃ v1 v2 d1 d2,vs=[v1,v2]∧AtX H v1 d1∧AtX H v2 d2∧((cntD d1 && cntD d2)=true→Q .non H)∧((cntD d1 && cntD d2)=false→∀ a H',Same H H'→XAt H' a CM []→E (.ref a) none H')
theorem qju {CM:Addr} (xM:qfu K mg "NoMemory" CM) (qcx:Has P w K mg base 2 "is_count" ["thing"] qih) (F:FnAt K mg "look_at_counts" qa0 ["rows","lines"]):HasX P w K mg base 3 "look_at_counts" ["rows","lines"] (qfo CM):=by
  refine HasX.of F qbm (fun vs H Q E h=>?_) (fun f cdv A outer s H vs Q E hr h=>?_)
  · obtain ⟨v1,v2,d1,d2,rfl,_⟩:=h
    rfl
  · obtain ⟨v1,v2,d1,d2,rfl,h1,h2,q1,q2⟩:=h
    have ref:(cntD d1 && cntD d2)=false→∀ {a:Addr},H a=none→E (.ref a) none (upd (upd H a (.ext (yce a CM none))) a (.ext (qch a CM none))):=fun hm a ha=>by
      rw [qd6]
      exact q2 hm a _ ((Same.refl H).upd ha) (.inr (.inr (.inl ⟨rfl,qab⟩)))
    have z1:1≤sizeLine:=by decide
    have sc:=qbm
    refine ⟨_,(qai rfl (qae (ya2 (QW.pt (yd2 (ybv (yba (yai qcx hr (yaf (qaa (pv 0)) qad)))) (qcw (ybv (yba (yai qcx hr (yaf (qaa (pv 1)) qad)))))))
        (qae (yd1 (qb8 (qhp xM (yaa yan yac)))))
        qat))),?_⟩
    refine ⟨_,rfl,v1,d1,rfl,h1,_,rfl,?_⟩
    cases e1:cntD d1 with
    | false=>exact iteT (iteT ⟨z1,fun a ha=>⟨a,CM,none,rfl,xM.2.2.1,qab,ref (by rw [e1]; rfl) ha⟩⟩)
    | true=>
      refine iteF ⟨_,rfl,v2,d2,rfl,h2,_,rfl,?_⟩
      cases e2:cntD d2 with
      | false=>exact iteT ⟨z1,fun a ha=>⟨a,CM,none,rfl,xM.2.2.1,qab,ref (by rw [e1,e2]; rfl) ha⟩⟩
      | true=>exact iteF (q1 (by rw [e1,e2]; rfl))
def qen (CS:Addr):Sp:=fun vs H Q E=>∃ v1 v2 d1 d2,∃ r l:Int,vs=[.int r,.int l,v1,v2]∧AtX H v1 d1∧AtX H v2 d2∧(∀ ds,d1=.list ds→ds.length≤60)∧(∀ ds,d2=.list ds→ds.length≤60)∧(sprB r d1 && sprB l d2)=false∧∀ a H',Same H H'→XAt H' a CS []→E (.ref a) none H'
theorem qi3 {CS:Addr} (xS:qfu K mg "NoSpares" CS) (qce:Has P w K mg base 2 "are_spares" ["thing","count"] yg8) (F:FnAt K mg "look_at_spares" ya1 ["rows","lines","spare_rows","spare_lines"]):HasX P w K mg base 3 "look_at_spares" ["rows","lines","spare_rows","spare_lines"] (qen CS):=by
  refine HasX.of F ybj (fun vs H Q E h=>?_) (fun f cdv A outer s H vs Q E hr h=>?_)
  · obtain ⟨v1,v2,d1,d2,r,l,rfl,_⟩:=h
    rfl
  · obtain ⟨v1,v2,d1,d2,r,l,rfl,h1,h2,l1,l2,hb,q2⟩:=h
    have ref:∀ {H2:Hp},Same H H2→∀ {a:Addr},H2 a=none→E (.ref a) none (upd (upd H2 a (.ext (yce a CS none))) a (.ext (qch a CS none))):=fun {H2} s2 a ha=>by
      rw [qd6]
      exact q2 a _ (s2.upd ha) (.inr (.inr (.inl ⟨rfl,qab⟩)))
    have z1:1≤sizeLine:=by decide
    have sc:=ybj
    refine ⟨_,(qai rfl (qae (ya2 (QW.pt (yd2 (ybv (yba (yai qce hr (yaf (qaa (pv 2)) (yaf (qaa (pv 0)) qad))))) (qcw (ybv (yba (yai qce hr (yaf (qaa (pv 3)) (yaf (qaa (pv 1)) qad))))))))
        (qae (yd1 (qb8 (qhp xS (yaa yan yac)))))
        qat))),?_⟩
    refine ⟨_,rfl,_,rfl,v1,d1,r,rfl,h1,l1,fun H1 s1=>⟨_,rfl,?_⟩⟩
    cases e1:sprB r d1 with
    | false=>exact iteT (iteT ⟨z1,fun a ha=>⟨a,CS,none,rfl,xS.2.2.1,qab,ref s1 ha⟩⟩)
    | true=>
      refine iteF ⟨_,rfl,_,rfl,v2,d2,l,rfl,h2.same s1,l2,fun H2 s2=>⟨_,rfl,?_⟩⟩
      rw [e1,Bool.true_and] at hb
      rw [hb]
      exact iteT ⟨z1,fun a ha=>⟨a,CS,none,rfl,xS.2.2.1,qab,ref (s1.trans s2) ha⟩⟩
end
end Mh
set_option Elab.async false
set_option linter.all false
set_option maxRecDepth 100000
set_option maxHeartbeats 4000000
namespace Mh
open PySem L2 PyProof.Rows Mx
theorem qjp {H:Hp}:∀ {us:List V} {ds:List PyData},AtAll H us ds→(ds.map bitD).all id=true→∃ cs:List Int,us=cs.map V.int∧bits cs∧cs.length=ds.length
  | [],[],.nil,_=>⟨[],rfl,fun c h=>(by cases h),rfl⟩
  | u :: us,d :: ds,.cons a r,h=>by
    have h':(bitD d && (ds.map bitD).all id)=true:=h
    rw [Bool.and_eq_true] at h'
    obtain ⟨cs,rfl,hb,hl⟩:=qjp r h'.2
    have hd:=h'.1
    obtain ⟨i,rfl⟩:∃ i,d=.int i:=by cases d <;> first | exact ⟨_,rfl⟩ | exact absurd hd (by simp [bitD])
    have:=a.intEq
    subst this
    have hi:i=0∨i=1:=of_decide_eq_true hd
    refine ⟨i :: cs,rfl,fun c hc=>?_,by simp [hl]⟩
    rcases List.mem_cons.mp hc with rfl | hc
    · rcases hi with rfl | rfl
      · exact ⟨false,rfl⟩
      · exact ⟨true,rfl⟩
    · exact hb c hc
theorem qig {H:Hp} {vz vh vc:V} {dz dh dc:PyData} (hz:AtX H vz dz) (hh:AtX H vh dh) (hc:AtX H vc dc) (hb:qao dh=none) (hm:qcp dz dh dc=true) :
    ∃ L us hs S C cs,vz=.int (cs.length:Nat)∧vh=.ref L∧vc=.ref C∧H L=some (.lst us)∧HsV H us hs∧okHs hs S∧InR hs cs.length∧H C=some (.lst (cs.map V.int))∧bits cs∧1≤cs.length∧cs.length≤64:=by
  obtain ⟨L,us,hs,S,rfl,hL,hv,ok,hA⟩:=yf4 hh hb
  have hm':(yhf dz && (decide (∀ c∈ya7 dh,c < intD dz) && ydz (intD dz) dc))=true:=hm
  rw [Bool.and_eq_true,Bool.and_eq_true] at hm'
  obtain ⟨h1,h2,h3⟩:=hm'
  obtain ⟨n,rfl⟩:∃ n,dz=.int n:=by cases dz <;> first | exact ⟨_,rfl⟩ | cases h1
  have ev:vz=.int n:=by
    rcases hz with h | ⟨e,_⟩
    · exact h.intEq
    · cases e
  have hn:1≤n∧n≤64:=of_decide_eq_true h1
  have h2':∀ c∈ya7 dh,c < n:=of_decide_eq_true h2
  obtain ⟨ds,rfl⟩:∃ ds,dc=.list ds:=by cases dc <;> first | exact ⟨_,rfl⟩ | cases h3
  have hc':At H vc (.list ds):=by
    rcases hc with h | ⟨e,_⟩
    · exact h
    · cases e
  obtain ⟨C,ws,rfl,hC,hw⟩:=hc'.lstEq
  have h3':(decide ((ds.length:Int)=n) && (ds.map bitD).all id)=true:=h3
  rw [Bool.and_eq_true] at h3'
  have hl:(ds.length:Int)=n:=of_decide_eq_true h3'.1
  obtain ⟨cs,rfl,hbt,hcl⟩:=qjp hw h3'.2
  refine ⟨L,us,hs,S,C,cs,?_,rfl,rfl,hL,hv,ok,fun h hh' x hx=>?_,hC,hbt,by omega,by omega⟩
  · rw [ev,← hl,hcl]
  · obtain ⟨ns,og⟩:=ok.ok h hh'
    have hx2:=h2' x (by rw [← hA]; exact List.mem_flatMap.mpr ⟨h,hh',hx⟩)
    exact ⟨(og.rg x hx).1,by omega⟩
section
variable {P:Program} {w:World} {K:PySem.W.Frag} {mg:Str→Option Value} {base:Heap} {C:Addr}
def qho (C C2 CM:Addr):Sp:=fun vs H Q E=>qcy C vs H Q E∨qg0 C C2 CM vs H Q E
theorem mx_init {C2 CM':Addr} (B:Bl mg) (cm:CM K C) (hg:Has P w K mg base 8 "look_at_memory" ["size","harms","contents"] ybl) (yd8:Has P w K mg base 3 "settle" ["harms","cells"] yec) (qa2:HasX P w K mg base 8 "look_at_memory" ["size","harms","contents"] (yfd C2 CM'))
    (F:yb0 K C "__init__" "Memory.__init__" yam ["self","size","harms","contents"]):ydc P w K mg base C 9 "__init__" ["self","size","harms","contents"] (qho C C2 CM'):=by
  obtain ⟨f,fd,h1,h2,h3⟩:=F
  exact ⟨f,fd,h1,h3,yhh (yjf B cm hg yd8 h2).x (qj5 qa2 h2)⟩
end
mutual
theorem At.keep {H H':Hp} (s:∀ b o,(∀ C dx fs,o≠HO.ins C dx fs)→H b=some o→H' b=some o):∀ {v:V} {d:PyData},At H v d→At H' v d
  | _,_,.non=>.non
  | _,_,.bl b=>.bl b
  | _,_,.int i=>.int i
  | _,_,.str x=>.str x
  | _,_,.lst e t=>.lst (s _ _ (fun _ _ _ z=>by cases z) e) (AtAll.keep s t)
  | _,_,.tup e t=>.tup (s _ _ (fun _ _ _ z=>by cases z) e) (AtAll.keep s t)
theorem AtAll.keep {H H':Hp} (s:∀ b o,(∀ C dx fs,o≠HO.ins C dx fs)→H b=some o→H' b=some o):∀ {vs:List V} {ds:List PyData},AtAll H vs ds→AtAll H' vs ds
  | _,_,.nil=>.nil
  | _,_,.cons a b=>.cons (At.keep s a) (AtAll.keep s b)
end
theorem AtX.keep {H H':Hp} (s:∀ b o,(∀ C dx fs,o≠HO.ins C dx fs)→H b=some o→H' b=some o) {v:V} {d:PyData} (h:AtX H v d):AtX H' v d:=by
  rcases h with h | ⟨e,a,ea,h⟩
  · exact .inl (At.keep s h)
  · exact .inr ⟨e,a,ea,s _ _ (fun _ _ _ z=>by cases z) h⟩
def qgo (d0 d1 dh dc d4 d5:PyData):Str:=if (cntD d0 && cntD d1)=true∧qcp (.int (intD d0 * intD d1)) dh dc=true then (if (sprB (intD d0) d4 && sprB (intD d1) d5)=true then "made" else "spares") else "memory"
def qdd (d0 d1 dh dc d4 d5:PyData):Str:=match qao dh with
  | some _=>"harms"
  | none=>qgo d0 d1 dh dc d4 d5
def DueX (H':Hp) (a C2 CM CS:Addr) (due:Str):Prop:=(due="harms"∧∃ b,XAt H' a C2 [("number",optN b)])∨(due="memory"∧XAt H' a CM [])∨(due="spares"∧XAt H' a CS [])
theorem qgb {H:Hp} {v:V} {d:PyData} (h:AtX H v d) (c:cntD d=true):∃ i:Int,d=.int i∧v=.int i∧1≤i∧i≤8:=by
  obtain ⟨i,rfl⟩:∃ i,d=.int i:=by cases d <;> first | exact ⟨_,rfl⟩ | cases c
  have ev:v=.int i:=by
    rcases h with h | ⟨e,_⟩
    · exact h.intEq
    · cases e
  have:=of_decide_eq_true c
  exact ⟨i,rfl,ev,this.1,this.2⟩
section
variable {P:Program} {w:World} {K:PySem.W.Frag} {mg:Str→Option Value} {base:Heap} {C N:Addr}
def yg0 (C N C2 CM CS:Addr):Sp:=fun vs H Q E=>∃ x dx v0 v1 vh vc v4 v5 d0 d1 dh dc d4 d5,vs=[.ref x,v0,v1,vh,vc,v4,v5]∧H x=some (.ins N dx [])∧AtX H v0 d0∧AtX H v1 d1∧AtX H vh dh∧AtX H vc dc∧AtX H v4 d4∧AtX H v5 d5∧
  (∀ ds,d4=.list ds→ds.length≤60)∧(∀ ds,d5=.list ds→ds.length≤60)∧qdd d0 d1 dh dc d4 d5≠"made"∧∀ a H',(∀ b u,b≠x→H b=some u→H' b=some u)→DueX H' a C2 CM CS (qdd d0 d1 dh dc d4 d5)→E (.ref a) none H'
theorem ykw {f0:Addr} {fd0:FuncData} {C2 CM' CS:Addr} (cm:CM K C) (cn:CN K N) (qas:HasX P w K mg base 6 "look_at_harms" ["thing"] (qe3 C2)) (qa1:HasX P w K mg base 3 "look_at_counts" ["rows","lines"] (qfo CM')) (yaz:HasX P w K mg base 3 "look_at_spares" ["rows","lines","spare_rows","spare_lines"] (qen CS))
    (hx_Memory:yf6 P w K mg base C 9 "Memory" ["self","size","harms","contents"] (qho C C2 CM')) (F:Fun K "__init__" "Mended.__init__" qam f0 fd0) :
    FnOk P w K mg base (CX1 P w) 11 f0 fd0 ["self","rows","lines","harms","contents","spare_rows","spare_lines"] (yg0 C N C2 CM' CS):=by
  refine FnOk.ofX F ybe (fun vs H Q E h=>?_) (fun cdv A outer s H vs Q E hr h=>?_)
  · obtain ⟨x,dx,v0,v1,vh,vc,v4,v5,d0,d1,dh,dc,d4,d5,rfl,_⟩:=h
    rfl
  · obtain ⟨x,dx,v0,v1,vh,vc,v4,v5,d0,d1,dh,dc,d4,d5,rfl,hx,a0,a1,ah,ac,a4,a5,l4,l5,hbad,q⟩:=h
    have sc:=ybe
    refine ⟨_,(qai rfl (yad (ya6 (qaa (yc7 qas qfc hr (yaa (pv 3) yac)))) (yad (ya6 (qaa (yc7 qa1 qfc hr (yaa (pv 1) (yaa (pv 2) yac))))) (yad (yfi (qaa (pv 0)) (qe_makeX hx_Memory qfc hr (ycw (qa3 ydb (qaa (pv 1)) (qaa (pv 2))) (yaf (qaa (pv 3)) (yaf (qaa (pv 4)) qad)))) rfl) (yad (ya6 (qaa (yc7 yaz qfc hr (yhm (pv 1) (yhm (pv 2) (yhm (pv 5) (yhm (pv 6) yac))))))) qdm))))),?_⟩
    have keepS:∀ {H':Hp},Same H H'→∀ b u,b≠x→H b=some u→H' b=some u:=fun s b u _ e=>s _ _ e
    refine ⟨_,rfl,vh,dh,rfl,ah,fun hb H1 s1=>?_,fun b hb a H' s' xa=>?_⟩
    rotate_left
    · refine q a H' (keepS s') (.inl ⟨?_,b,xa⟩)
      unfold qdd
      rw [hb]
    have em:qdd d0 d1 dh dc d4 d5=qgo d0 d1 dh dc d4 d5:=by
      unfold qdd
      rw [hb]
    unfold qgo at em
    refine ⟨_,rfl,_,rfl,v0,v1,d0,d1,rfl,a0.same s1,a1.same s1,fun hc=>?_,fun hc a H' s' xa=>?_⟩
    rotate_left
    · refine q a H' (keepS (s1.trans s')) (.inr (.inl ⟨?_,xa⟩))
      rw [em,if_neg (fun z=>by rw [hc] at z; exact absurd z.1 (by simp))]
    have hc':=hc
    rw [Bool.and_eq_true] at hc'
    obtain ⟨r,rfl,rfl,r1,r8⟩:=qgb a0 hc'.1
    obtain ⟨l,rfl,rfl,l1,l8⟩:=qgb a1 hc'.2
    refine ⟨_,rfl,_,rfl,_,_,rfl,rfl,cmul8 (by omega) r8 (by omega) l8,_,rfl,_,rfl,?_⟩
    intro m dm nm ndm nmd
    generalize hG2:upd (upd H1 dm (.own m)) m (.ins C dm [])=H2
    have s2:Same H1 H2:=by rw [← hG2]; exact ((Same.refl H1).upd (o:=.own m) ndm).upd (o:=.ins C dm []) (p:=m) (by rw [qaf (fun z=>nmd z.symm)]; exact nm)
    have f2:H2 m=some (.ins C dm []):=by rw [← hG2]; exact qab
    clear hG2
    have s12:=s1.trans s2
    have am:AtX H2 (.int (r * l)) (.int (r * l)):=.inl (.int _)
    cases hm:qcp (.int (r * l)) dh dc with
    | false=>
      refine .inr ⟨m,.int (r * l),vh,vc,.int (r * l),dh,dc,rfl,am,ah.same s12,ac.same s12,fun _=>hm,fun _ a H' s' xa=>?_,fun b z=>(by rw [hb] at z; cases z)⟩
      refine q a H' (keepS (s12.trans s')) (.inr (.inl ⟨?_,xa⟩))
      rw [em,if_neg (fun z=>by have:=z.2; simp only [intD] at this; rw [hm] at this; cases this)]
    | true=>
      obtain ⟨L,us,hs,S,Cc,cs,e1,rfl,rfl,hL,hv,ok,hi,hC,hbt,c1,c2⟩:=qig am (ah.same s12) (ac.same s12) hb hm
      refine .inl ⟨m,dm,L,Cc,us,hs,S,cs,?_,f2,hL,hv,ok,hi,hC,hbt,c1,c2,fun L' C' H3 st3 nL nCc mo=>⟨rfl,?_⟩⟩
      · show [V.ref m,V.int (r * l),V.ref L,V.ref Cc]=_
        rw [e1]
      have nmx:m≠x:=fun z=>by subst z; rw [s1 _ _ hx] at nm; cases nm
      have up3:∀ {b:Addr} {u:HO},H b=some u→H3 b=some u:=fun {b u} e=>st3 b u (fun z=>by subst z; have:=s1 _ _ e; rw [nm] at this; cases this) (s12 _ _ e)
      refine ⟨_,rfl,x,N,dx,_,rfl,up3 hx,cn.c,cn.nh,by simp,?_⟩
      generalize hG4:upd H3 x _=H4
      have up4:∀ b u,b≠x→H b=some u→H4 b=some u:=fun b u h e=>by rw [← hG4,qaf h]; exact up3 e
      clear hG4
      have hh:∀ {v d},AtX H v d→AtX H4 v d:=fun {v d} h=>AtX.keep (fun b o ho e=>up4 b o (fun z=>by subst z; rw [hx] at e; exact ho _ _ _ (Option.some.inj e).symm) e) h
      have hsp:(sprB r d4 && sprB l d5)=false:=by
        cases hz:(sprB r d4 && sprB l d5) with
        | false=>rfl
        | true=>exact absurd (by rw [em,if_pos ⟨hc,hm⟩,if_pos (show (sprB (intD (.int r)) d4 && sprB (intD (.int l)) d5)=true from hz)]) hbad
      refine ⟨_,rfl,_,rfl,_,rfl,_,rfl,v4,v5,d4,d5,r,l,rfl,hh a4,hh a5,l4,l5,hsp,fun a H' s' xa=>?_⟩
      refine q a H' (fun b u h e=>s' _ _ (up4 b u h e)) (.inr (.inr ⟨?_,xa⟩))
      rw [em,if_pos ⟨hc,hm⟩,if_neg (by show ¬ (sprB r d4 && sprB l d5)=true; rw [hsp]; simp)]
def qc5 (C N CA:Addr) (n:Nat):Sp:=fun vs H Q E=>∃ e m L Cc us hs cs d kvs v dv rest,vs=.ref e :: v :: rest∧rest.length=n∧MenO H C N e m L Cc us hs cs d kvs∧AtX H v dv∧yem cs.length dv=false∧(∀ a H',Same H H'→XAt H' a CA []→E (.ref a) none H')
theorem qjc {CA:Addr} (cm:CM K C) (cn:CN K N) (ydm:ydc P w K mg base C 2 "look_at_address" ["self","address"] (qde C CA)) (F:yb0 K N "read" "Mended.read" qa6 ["self","address"]):ydc P w K mg base N 6 "read" ["self","address"] (qc5 C N CA 0):=by
  refine ydc.of F qdv (fun vs H Q E h=>?_) (fun f cdv A outer s H vs Q E hr h=>?_)
  · obtain ⟨e,m,L,Cc,us,hs,cs,d,kvs,v,dv,rest,rfl,hl,_⟩:=h
    simp [hl]
  · obtain ⟨e,m,L,Cc,us,hs,cs,d,kvs,v,dv,rest,rfl,hl,mo,hv,hb,q⟩:=h
    cases rest with
    | cons _ _=>simp at hl
    | nil=>
    obtain ⟨⟨dx,ho⟩,mm,hd⟩:=id mo
    obtain ⟨⟨dy,hm⟩,_⟩:=id mm
    have sc:=qdv
    refine ⟨_,(qai rfl (yad (ya6 (qgk cm.c ydm qfc hr (ydk (qaa (pv 0)) rfl) (yaf (qaa (pv 1)) qad))) qdm)),?_⟩
    exact ⟨_,rfl,e,N,dx,_,_,rfl,ho,cn.c,cn.nh,lk_hd,m,dy,_,rfl,hm,lk_n,_,rfl,m,L,Cc,us,hs,cs,v,dv,rfl,mm,hv,fun z=>(by rw [hb] at z; cases z),fun _=>q⟩
theorem yiu {f0:Addr} {fd0:FuncData} {CA:Addr} (cm:CM K C) (cn:CN K N) (ydm:ydc P w K mg base C 2 "look_at_address" ["self","address"] (qde C CA)) (F:Fun K "write" "Mended.write" qav f0 fd0):FnOk P w K mg base (CX1 P w) 7 f0 fd0 ["self","address","bit"] (qc5 C N CA 1):=by
  refine FnOk.ofX F qby (fun vs H Q E h=>?_) (fun cdv A outer s H vs Q E hr h=>?_)
  · obtain ⟨e,m,L,Cc,us,hs,cs,d,kvs,v,dv,rest,rfl,hl,_⟩:=h
    simp [hl]
  · obtain ⟨e,m,L,Cc,us,hs,cs,d,kvs,v,dv,rest,rfl,hl,mo,hv,hb,q⟩:=h
    obtain ⟨u,rfl⟩:=List.length_eq_one_iff.mp hl
    obtain ⟨⟨dx,ho⟩,mm,hd⟩:=id mo
    obtain ⟨⟨dy,hm⟩,_⟩:=id mm
    have sc:=qby
    refine ⟨_,(qai rfl (yad (ya6 (qgk cm.c ydm qfc hr (ydk (qaa (pv 0)) rfl) (yaf (qaa (pv 1)) qad))) qdm)),?_⟩
    exact ⟨_,rfl,e,N,dx,_,_,rfl,ho,cn.c,cn.nh,lk_hd,m,dy,_,rfl,hm,lk_n,_,rfl,m,L,Cc,us,hs,cs,v,dv,rfl,mm,hv,fun z=>(by rw [hb] at z; cases z),fun _=>q⟩
def yf2 (C N CB:Addr):Sp:=fun vs H Q E=>∃ e m L Cc us hs cs d kvs v dv u du,vs=[.ref e,v,u]∧MenO H C N e m L Cc us hs cs d kvs∧AtX H v dv∧yem cs.length dv=true∧AtX H u du∧bitD du=false∧(∀ a H',Same H H'→XAt H' a CB []→E (.ref a) none H')
theorem yhx {f0:Addr} {fd0:FuncData} {CA CB:Addr} (cm:CM K C) (cn:CN K N) (ydm:ydc P w K mg base C 2 "look_at_address" ["self","address"] (qde C CA)) (yc4:HasX P w K mg base 3 "look_at_bit" ["thing"] (yhv CB)) (F:Fun K "write" "Mended.write" qav f0 fd0):FnOk P w K mg base (CX1 P w) 7 f0 fd0 ["self","address","bit"] (yf2 C N CB):=by
  refine FnOk.ofX F qby (fun vs H Q E h=>?_) (fun cdv A outer s H vs Q E hr h=>?_)
  · obtain ⟨e,m,L,Cc,us,hs,cs,d,kvs,v,dv,u,du,rfl,_⟩:=h
    rfl
  · obtain ⟨e,m,L,Cc,us,hs,cs,d,kvs,v,dv,u,du,rfl,mo,hv,hb,hu,hub,q⟩:=h
    obtain ⟨⟨dx,ho⟩,mm,hd⟩:=id mo
    obtain ⟨⟨dy,hm⟩,_⟩:=id mm
    have sc:=qby
    refine ⟨_,(qai rfl (yad (ya6 (qgk cm.c ydm qfc hr (ydk (qaa (pv 0)) rfl) (yaf (qaa (pv 1)) qad))) (yad (ya6 (qaa (yc7 yc4 qfc hr (yaa (pv 2) yac)))) qdm))),?_⟩
    refine ⟨_,rfl,e,N,dx,_,_,rfl,ho,cn.c,cn.nh,lk_hd,m,dy,_,rfl,hm,lk_n,_,rfl,m,L,Cc,us,hs,cs,v,dv,rfl,mm,hv,fun _=>?_,fun z=>(by rw [hb] at z; cases z)⟩
    exact ⟨_,rfl,u,du,rfl,hu,fun z=>(by rw [hub] at z; cases z),fun _=>q⟩
def qf3 (C N CA CB:Addr):Sp:=fun vs H Q E=>qc5 C N CA 1 vs H Q E∨yf2 C N CB vs H Q E
theorem qi7 {CA CB:Addr} (cm:CM K C) (cn:CN K N) (ydm:ydc P w K mg base C 2 "look_at_address" ["self","address"] (qde C CA)) (yc4:HasX P w K mg base 3 "look_at_bit" ["thing"] (yhv CB)) (F:yb0 K N "write" "Mended.write" qav ["self","address","bit"]):ydc P w K mg base N 7 "write" ["self","address","bit"] (qf3 C N CA CB):=by
  obtain ⟨f,fd,h1,h2,h3⟩:=F
  exact ⟨f,fd,h1,h3,yhh (yiu cm cn ydm h2) (yhx cm cn ydm yc4 h2)⟩
def yhd (C N C2 CM CS:Addr):Sp:=fun vs H Q E=>qd9 C N vs H Q E∨yg0 C N C2 CM CS vs H Q E
end
end Mh
set_option Elab.async false
set_option linter.all false
set_option maxRecDepth 100000
set_option maxHeartbeats 4000000
namespace Mh
open PySem L2 PyProof.Rows Mx
section
variable {P:Program} {w:World} {K:PySem.W.Frag} {mg:Str→Option Value} {base:Heap} {C N:Addr}
theorem ygr {f0:Addr} {fd0:FuncData} (B:Bl mg) (cm:CM K C) (cn:CN K N) (qas:Has P w K mg base 6 "look_at_harms" ["thing"] qbd) (qa1:Has P w K mg base 3 "look_at_counts" ["rows","lines"] yb7) (yaz:Has P w K mg base 3 "look_at_spares" ["rows","lines","spare_rows","spare_lines"] yb8)
    (yc0:HasI P w K mg base C 9 "Memory" ["self","size","harms","contents"] (qcy C)) (F:Fun K "__init__" "Mended.__init__" qam f0 fd0) :
    FnOk P w K mg base CX0 11 f0 fd0 ["self","rows","lines","harms","contents","spare_rows","spare_lines"] (qd9 C N):=by
  refine Fun.okQ F ybe (fun vs H Q E h=>?_) (fun cdv A outer s H vs Q E hr h=>?_)
  · obtain ⟨x,dx,L0,C0,R,M,r,l,us,hs,S,cs,ns,ms,rfl,_⟩:=h
    rfl
  · obtain ⟨x,dx,L0,C0,R,M,r,l,us,hs,S,cs,ns,ms,rfl,hx,r1,r8,l1,l8,hrl,hL0,hv,ok,ir,hC0,hb,hR,hsr,hM,hsm,k⟩:=h
    have sc:=ybe
    refine ⟨_,(qai rfl (yad (ya6 (yai qas hr (yaf (qaa (pv 3)) qad)))
      (yad (ya6 (yai qa1 hr (yaf (qaa (pv 1)) (yaf (qaa (pv 2)) qad))))
      (yad (yfi (qaa (pv 0)) (yh3 yc0 hr (ycw (qa3 ydb (qaa (pv 1)) (qaa (pv 2))) (yaf (qaa (pv 3)) (yaf (qaa (pv 4)) qad)))) rfl)
      (yad (ya6 (yai yaz hr (yaf (qaa (pv 1)) (yaf (qaa (pv 2)) (yaf (qaa (pv 5)) (yaf (qaa (pv 6)) qad))))))
      (yad (yfi (qaa (pv 0)) (qaa ye3) rfl)
      (qae (qdw PassesOwn.never rfl (qkg (qel rfl (B.of rfl) (yaa (pv 4) yac))) (yfz rfl (qaz (qaq (i:=7) sc.nd rfl (Or.inl rfl)) (qaz (qaq (i:=8) sc.nd rfl (Or.inl rfl)) qct)))
        (qae (ya2 (QW.pt (yd2 (yav ybg (qa3 yki (qaa (pv 7)) (qaa (pv 2))) (qaa (pv 5)) (by with_unfolding_all rfl)) (qcw (yav ybg (qa3 ycy (qaa (pv 7)) (qaa (pv 2))) (qaa (pv 6)) (by with_unfolding_all rfl)))))
          (qae (yd1 (ps_dput (hu_of hr) (QE.of (ydk (qaa (pv 0)) rfl)) (QE.of (qaa (pv 7))) (QE.of (qaa (pv 8))) rfl)))
          qat)))))))))),?_⟩
    have hle:cs.length≤64∧1≤cs.length:=by
      have h1:r * l≤8 * 8:=Int.mul_le_mul r8 l8 (by omega) (by omega)
      have h2:1 * 1≤r * l:=Int.mul_le_mul r1 l1 (by omega) (by omega)
      omega
    refine ⟨_,rfl,L0,us,hs,S,rfl,hL0,hv,ok,fun H1 s1=>?_⟩
    refine ⟨_,rfl,_,rfl,r,l,rfl,r1,r8,l1,l8,?_⟩
    refine ⟨_,rfl,_,rfl,_,_,rfl,rfl,cmul8 (by omega) r8 (by omega) l8,_,rfl,_,rfl,?_⟩
    intro m dm nm ndm nmd
    generalize hG2:upd (upd H1 dm (.own m)) m (.ins C dm [])=H2
    have s2:Same H1 H2:=by rw [← hG2]; exact ((Same.refl H1).upd (o:=.own m) ndm).upd (o:=.ins C dm []) (p:=m) (by rw [qaf (fun z=>nmd z.symm)]; exact nm)
    have f2:H2 m=some (.ins C dm []):=by rw [← hG2]; exact qab
    clear hG2
    have s12:=s1.trans s2
    have nmx:m≠x:=fun z=>by subst z; rw [s1 _ _ hx] at nm; cases nm
    refine ⟨m,dm,L0,C0,us,hs,S,cs,?_,f2,s12 _ _ hL0,hv.same s12,ok,ir,s12 _ _ hC0,hb,hle.2,hle.1,fun L Cc H3 st3 nL nCc mo=>⟨rfl,?_⟩⟩
    · show [V.ref m,V.int (r * l),V.ref L0,V.ref C0]=_
      rw [hrl]
    have up3:∀ {b:Addr} {u:HO},H b=some u→H3 b=some u:=fun {b u} e=>st3 b u (fun z=>by subst z; have:=s1 _ _ e; rw [nm] at this; cases this) (s12 _ _ e)
    have hx3:=up3 hx
    refine ⟨_,rfl,x,N,dx,_,rfl,hx3,cn.c,cn.nh,by simp,?_⟩
    have mne:∀ {b:Addr} {u:HO},H3 b=some u→(∀ c d f,u≠.ins c d f)→b≠x:=fun {b u} e h z=>by subst z; rw [hx3] at e; exact h _ _ _ (Option.some.inj e).symm
    generalize hG4:upd H3 x _=H4
    have u4:∀ b u,b≠x→H3 b=some u→H4 b=some u:=fun b u h e=>by rw [← hG4,qaf h]; exact e
    have f4:H4 x=some (.ins N dx [("harmed",.ref m)]):=by rw [← hG4]; exact qab
    clear hG4
    have up4:∀ {b:Addr} {u:HO},H b=some u→b≠x→H4 b=some u:=fun {b u} e h=>u4 b u h (up3 e)
    have xl:∀ {b:Addr} {xs:List V},H b=some (.lst xs)→b≠x:=fun {b xs} e z=>by subst z; rw [hx] at e; cases e
    refine ⟨_,rfl,_,rfl,_,rfl,_,rfl,r,l,R,M,ns,ms,rfl,up4 hR (xl hR),up4 hM (xl hM),hsr,hsm,fun H5 s5=>?_⟩
    intro d hd
    generalize hG6:upd H5 d (.dK [])=H6
    have s6:Same H5 H6:=by rw [← hG6]; exact (Same.refl H5).upd hd
    have f6:H6 d=some (.dK []):=by rw [← hG6]; exact qab
    clear hG6
    have s46:=s5.trans s6
    refine ⟨_,rfl,x,N,dx,_,rfl,s46 _ _ f4,cn.c,cn.ns,by simp,?_⟩
    have hdx:d≠x:=fun z=>by subst z; rw [s5 _ _ f4] at hd; cases hd
    generalize hG7:upd H6 x _=H7
    have u7:∀ b u,b≠x→H6 b=some u→H7 b=some u:=fun b u h e=>by rw [← hG7,qaf h]; exact e
    have f7:H7 x=some (.ins N dx (fsN m d)):=by
      rw [← hG7,qab]
      have:putF "spare" (V.ref d) [("harmed",.ref m)]=fsN m d:=by
        unfold fsN putF
        rw [if_neg (by decide +kernel)]
        rfl
      rw [this]
    clear hG7
    have up7:∀ {b:Addr} {u:HO},H b=some u→b≠x→H7 b=some u:=fun {b u} e h=>u7 b u h (s46 _ _ (up4 e h))
    have nd0:H d=none:=by
      cases e:H d with
      | none=>rfl
      | some u=>have:=s5 _ _ (up4 e hdx); rw [hd] at this; cases this
    have m7:MemO H7 C m L Cc us hs (qeo hs cs):=by
      obtain ⟨⟨dy,ho⟩,mm⟩:=mo
      have go:∀ {b:Addr} {u:HO},H3 b=some u→b≠x→H7 b=some u:=fun {b u} e h=>u7 b u h (s46 _ _ (u4 b u h e))
      have l1:L≠x:=mne mm.hl (fun _ _ _ z=>by cases z)
      have l2:Cc≠x:=mne mm.hc (fun _ _ _ z=>by cases z)
      refine ⟨⟨dy,go ho nmx⟩,⟨mm.ne,go mm.hl l1,⟨mm.hv.len,fun i v h a b=>?_⟩,mm.ok,go mm.hc l2⟩⟩
      obtain ⟨z,e,hz⟩:=mm.hv.at_ i v h a b
      exact ⟨z,e,go hz (mne hz (fun _ _ _ z=>by cases z))⟩
    have hd7:H7 d=some (.dK []):=u7 d _ hdx f6
    have hC7:=up7 hC0 (xl hC0)
    have nL0:H L=none:=s12.free nL
    have nC0:H Cc=none:=s12.free nCc
    refine ⟨_,rfl,C0,_,rfl,SqL.of hC7,yea (xs:=cs.map V.int) (fun i σ H'=>∃ q7 q8:Option V,σ=[some (.ref x),some (.int r),some (.int l),some (.ref L0),some (.ref C0),some (.ref R),some (.ref M),q7,q8]∧(∀ b u,b≠d→H7 b=some u→H' b=some u)∧H' d=some (.dK (spk (spF ns ms l) cs i))) ⟨_,_,rfl,fun b u _ e=>e,hd7⟩ (fun i σ H' _ ⟨_,_,_,st,_⟩=>SqL.of (st _ _ (fun z=>by subst z; rw [hC7] at hd7; cases hd7) hC7)) ?_ ?_⟩
    · rintro i y pp σ H8 hy ⟨q7,q8,rfl,st8,hd8⟩ hpp
      obtain ⟨c,hc,rfl⟩:=qe6 hy
      have hil:i < cs.length:=(List.getElem?_eq_some_iff.mp hc).1
      refine ⟨pp,_,rfl,SqT.of qab,rfl,_,_,rfl,_,_,rfl,rfl,?_⟩
      have s9:Same H8 (upd H8 pp (.tup [.int i,.int c])):=(Same.refl H8).upd hpp
      revert s9
      generalize upd H8 pp (.tup [.int i,.int c])=H9
      intro s9
      have keep9:∀ b u,b≠d→H7 b=some u→H9 b=some u:=fun b u h e=>s9 _ _ (st8 b u h e)
      have ne_d:∀ {b:Addr} {xs:List V},H7 b=some (.lst xs)→b≠d:=fun {b xs} e z=>by subst z; rw [hd7] at e; cases e
      have hR7:=up7 hR (xl hR)
      have hM7:=up7 hM (xl hM)
      have put9:∃ q7 q8:Option V,[some (V.ref x),some (.int r),some (.int l),some (.ref L0),some (.ref C0),some (.ref R),some (.ref M),some (.int i),some (.int c)]=[some (.ref x),some (.int r),some (.int l),some (.ref L0),some (.ref C0),some (.ref R),some (.ref M),q7,q8]∧(∀ b u,b≠d→H7 b=some u→upd H9 d (.dK (putK (spk (spF ns ms l) cs i) (.inl (i:Int)) (.int c))) b=some u)∧upd H9 d (.dK (putK (spk (spF ns ms l) cs i) (.inl (i:Int)) (.int c))) d=some (.dK (putK (spk (spF ns ms l) cs i) (.inl (i:Int)) (.int c))):=⟨_,_,rfl,fun b u h e=>by rw [qaf h]; exact keep9 b u h e,qab⟩
      have hcd:cs.getD i 0=c:=by rw [List.getD_eq_getElem?_getD,hc]; rfl
      have dput:∀ {D:Ends},(D.nx [some (V.ref x),some (.int r),some (.int l),some (.ref L0),some (.ref C0),some (.ref R),some (.ref M),some (.int i),some (.int c)] (upd H9 d (.dK (putK (spk (spF ns ms l) cs i) (.inl (i:Int)) (.int c)))))→sDPut (tFld K (tVar 0) "spare") (tVar 7) (tVar 8) D [some (V.ref x),some (.int r),some (.int l),some (.ref L0),some (.ref C0),some (.ref R),some (.ref M),some (.int i),some (.int c)] H9:=fun {D} h=>
        ⟨_,rfl,_,rfl,x,N,dx,_,_,rfl,keep9 _ _ hdx.symm f7,cn.c,cn.ns,lk_sp,_,rfl,d,_,rfl,DPut.k (k:=.inl (i:Int)) (s9 _ _ hd8) (ycl (by have:=qhx (spF ns ms l) cs i; omega)),h⟩
      refine ⟨_,rfl,_,rfl,_,_,rfl,rfl,?_,_,rfl,R,_,rfl,.inl (SqL.of (keep9 _ _ (ne_d hR7) hR7)),rfl,by simp [qed],_,rfl,?_⟩
      · exact ⟨by omega,by omega⟩
      by_cases h1:(i:Int) / l∈ns
      · refine iteB (by show inV (.int ((i:Int) / l)) _=true; rw [yfq]; exact decide_eq_true h1) ?_
        refine iteB rfl ?_
        refine dput ?_
        have:spk (spF ns ms l) cs (i + 1)=putK (spk (spF ns ms l) cs i) (.inl (i:Int)) (.int c):=by
          show (if spF ns ms l i=true then _ else _)=_
          rw [if_pos (show spF ns ms l i=true from decide_eq_true (Or.inl h1)),hcd]
        show ∃ q7 q8:Option V,_
        rw [this]
        exact put9
      · refine iteN (by show inV (.int ((i:Int) / l)) _=false; rw [yfq]; exact decide_eq_false h1) ?_
        refine ⟨_,rfl,_,rfl,_,_,rfl,rfl,(by show (0:Int) < l; omega),_,rfl,M,_,rfl,.inl (SqL.of (keep9 _ _ (ne_d hM7) hM7)),rfl,by simp [qed],_,rfl,?_⟩
        by_cases h2:(i:Int) % l∈ms
        · refine iteB (by show inV (.int ((i:Int) % l)) _=true; rw [yfq]; exact decide_eq_true h2) ?_
          refine dput ?_
          have:spk (spF ns ms l) cs (i + 1)=putK (spk (spF ns ms l) cs i) (.inl (i:Int)) (.int c):=by
            show (if spF ns ms l i=true then _ else _)=_
            rw [if_pos (show spF ns ms l i=true from decide_eq_true (Or.inr h2)),hcd]
          show ∃ q7 q8:Option V,_
          rw [this]
          exact put9
        · refine iteN (by show inV (.int ((i:Int) % l)) _=false; rw [yfq]; exact decide_eq_false h2) ?_
          have:spk (spF ns ms l) cs (i + 1)=spk (spF ns ms l) cs i:=by
            show (if spF ns ms l i=true then _ else _)=_
            rw [if_neg (by unfold spF; simp [h1,h2])]
          show ∃ q7 q8:Option V,_
          rw [this]
          exact ⟨_,_,rfl,keep9,s9 _ _ hd8⟩
    · rintro σ H8 ⟨q7,q8,rfl,st8,hd8⟩
      rw [List.length_map] at hd8
      have keep:∀ b u,b≠x→H b=some u→H8 b=some u:=fun b u h e=>st8 b u (fun z=>by subst z; rw [nd0] at e; cases e) (up7 e h)
      refine k m L Cc d _ H8 keep (s1.free nm) nL0 nC0 nd0 ⟨⟨dx,st8 _ _ hdx.symm f7⟩,?_,hd8⟩ spk_is (qhx _ _ _)
      obtain ⟨⟨dy,ho⟩,mm⟩:=m7
      have nd:∀ {b:Addr} {u:HO},H7 b=some u→(∀ k,u≠.dK k)→b≠d:=fun {b u} e h z=>by subst z; rw [hd7] at e; exact h _ (Option.some.inj e).symm
      refine ⟨⟨dy,st8 _ _ (nd ho (fun _ z=>by cases z)) ho⟩,⟨mm.ne,st8 _ _ (nd mm.hl (fun _ z=>by cases z)) mm.hl,⟨mm.hv.len,fun i v h a b=>?_⟩,mm.ok,st8 _ _ (nd mm.hc (fun _ z=>by cases z)) mm.hc⟩⟩
      obtain ⟨z,e,hz⟩:=mm.hv.at_ i v h a b
      exact ⟨z,e,st8 _ _ (nd hz (fun _ z=>by cases z)) hz⟩
theorem qj7 (B:Bl mg) (cm:CM K C) (cn:CN K N) (qas:Has P w K mg base 6 "look_at_harms" ["thing"] qbd) (qa1:Has P w K mg base 3 "look_at_counts" ["rows","lines"] yb7) (yaz:Has P w K mg base 3 "look_at_spares" ["rows","lines","spare_rows","spare_lines"] yb8)
    (yc0:HasI P w K mg base C 9 "Memory" ["self","size","harms","contents"] (qcy C)) (F:yb0 K N "__init__" "Mended.__init__" qam ["self","rows","lines","harms","contents","spare_rows","spare_lines"]) :
    HasM P w K mg base N 11 "__init__" ["self","rows","lines","harms","contents","spare_rows","spare_lines"] (qd9 C N):=by
  obtain ⟨f,fd,h1,h2,h3⟩:=F
  exact ⟨f,fd,h1,h3,ygr B cm cn qas qa1 yaz yc0 h2⟩
theorem qjq {C2 CM' CS:Addr} (B:Bl mg) (cm:CM K C) (cn:CN K N) (h1':Has P w K mg base 6 "look_at_harms" ["thing"] qbd) (h2':Has P w K mg base 3 "look_at_counts" ["rows","lines"] yb7) (h3':Has P w K mg base 3 "look_at_spares" ["rows","lines","spare_rows","spare_lines"] yb8)
    (h4':HasI P w K mg base C 9 "Memory" ["self","size","harms","contents"] (qcy C)) (qas:HasX P w K mg base 6 "look_at_harms" ["thing"] (qe3 C2)) (qa1:HasX P w K mg base 3 "look_at_counts" ["rows","lines"] (qfo CM')) (yaz:HasX P w K mg base 3 "look_at_spares" ["rows","lines","spare_rows","spare_lines"] (qen CS))
    (hx_Memory:yf6 P w K mg base C 9 "Memory" ["self","size","harms","contents"] (qho C C2 CM')) (F:yb0 K N "__init__" "Mended.__init__" qam ["self","rows","lines","harms","contents","spare_rows","spare_lines"]) :
    ydc P w K mg base N 11 "__init__" ["self","rows","lines","harms","contents","spare_rows","spare_lines"] (yhd C N C2 CM' CS):=by
  obtain ⟨f,fd,h1,h2,h3⟩:=F
  exact ⟨f,fd,h1,h3,yhh (ygr B cm cn h1' h2' h3' h4' h2).x (ykw cm cn qas qa1 yaz hx_Memory h2)⟩
end
end Mh
set_option Elab.async false
set_option linter.all false
set_option maxRecDepth 100000
set_option maxHeartbeats 4000000
namespace Mh
open PySem L2 PyProof.Rows Mx
theorem boot_VE:bootBuiltins "ValueError" = some (.type "ValueError"):=by decide +kernel
def nms:List Str:=["NoHarms","NoMemory","NoSpares","NoAddress","NoBit","NoOrders","NoTest","NotSure","NoKind","TooMany"]
def ya9:List Str:=["harms","memory","spares","address","bit","orders","test","sure","kind"]
def tru (j:Nat):List Bool:=[decide (0=j),decide (1=j),decide (2=j),decide (3=j),decide (4=j),decide (5=j),decide (6=j),decide (7=j),decide (8=j)]
theorem qkp:∀ j,j < 9→(tru j).count true=1∧(tru j)[j]?=some true∧∀ m,m < j→(tru j)[m]?≠some true:=by decide +kernel
theorem ite_f {c A B:Prop} [Decidable c] (h:¬ c) (b:B):if c then A else B:=by rw [if_neg h]; exact b
theorem kinds_at:∀ j,j < 9→atI (ya9.map V.str) (j:Nat)=some (V.str (ya9.getD j "")):=by decide +kernel
structure KX (K:PySem.W.Frag) (c:Nat→Addr) (cM:Addr) (j:Nat):Prop where
  lt:j < 9
  ty:XTy K (c j)
  one:∀ i,i < 10→PySem.W.kitOne K (.ref (c j)) (.ref (c i))=some (decide (i=j))
  ve:PySem.W.kitOne K (.ref (c j)) (.type "ValueError")=some true
  em:PySem.W.exmOne K (.ref (c j)) (.ref cM)=some true
section
variable {P:Program} {w:World} {K:PySem.W.Frag} {mg:Str→Option Value} {base:Heap}
def yhn (K:PySem.W.Frag) (c:Nat→Addr) (cM:Addr):Sp:=fun vs H Q _=>∃ a fs j,vs=[.ref a]∧XAt H a (c j) fs∧KX K c cM j∧∀ H',Same H H'→Q (.str (ya9.getD j "")) H'
abbrev yb5:Stmt:=top 61
theorem yeq:FnScope ["_law_kept","_law_some"] ["_law_kept"] (yab yb5):=⟨rfl,rfl,rfl,by decide +kernel,rfl,by decide +kernel,by decide +kernel⟩
theorem ok_word {c:Nat→Addr} {cM:Addr} (B:Bl mg) (hVE:mg "ValueError" = none) (G:∀ i x,nms[i]?=some x→mg x=some (.ref (c i))) (F:FnAt K mg "_law_word" yb5 ["_law_kept"]):Has P w K mg base 1 "_law_word" ["_law_kept"] (yhn K c cM):=by
  refine Has.of F yeq (fun vs H Q E h=>?_) (fun f cdv A outer s H vs Q E hr h=>?_)
  · obtain ⟨a,fs,j,rfl,_⟩:=h
    rfl
  · obtain ⟨a,fs,j,rfl,hx,kx,k⟩:=h
    obtain ⟨hj,T,hk,hv,_⟩:=kx
    generalize c j=C at hx T hk hv
    have sc:=yeq
    refine ⟨_,(qss_lit rfl (yad (yj8 (i:=1) sc.nd rfl (Or.inl rfl) (qd7 (yaa (yae ybi rfl (B.of rfl) boot_isinstance (yaa (pv 0) (yaa (ybd (v:=.ref (c 0)) rfl (G 0 "NoHarms" rfl) rfl) yac))) (yaa (yae ybi rfl (B.of rfl) boot_isinstance (yaa (pv 0) (yaa (ybd (v:=.ref (c 1)) rfl (G 1 "NoMemory" rfl) rfl) yac))) (yaa (yae ybi rfl (B.of rfl) boot_isinstance (yaa (pv 0) (yaa (ybd (v:=.ref (c 2)) rfl (G 2 "NoSpares" rfl) rfl) yac))) yac)))))
      (yad (yj8 (i:=1) sc.nd rfl (Or.inl rfl) (ycn ycg (pv 1) (qd7 (yaa (yae ybi rfl (B.of rfl) boot_isinstance (yaa (pv 0) (yaa (ybd (v:=.ref (c 3)) rfl (G 3 "NoAddress" rfl) rfl) yac))) (yaa (yae ybi rfl (B.of rfl) boot_isinstance (yaa (pv 0) (yaa (ybd (v:=.ref (c 4)) rfl (G 4 "NoBit" rfl) rfl) yac))) (yaa (yae ybi rfl (B.of rfl) boot_isinstance (yaa (pv 0) (yaa (ybd (v:=.ref (c 5)) rfl (G 5 "NoOrders" rfl) rfl) yac))) yac))))))
      (yad (yj8 (i:=1) sc.nd rfl (Or.inl rfl) (ycn ycg (pv 1) (qd7 (yaa (yae ybi rfl (B.of rfl) boot_isinstance (yaa (pv 0) (yaa (ybd (v:=.ref (c 6)) rfl (G 6 "NoTest" rfl) rfl) yac))) (yaa (yae ybi rfl (B.of rfl) boot_isinstance (yaa (pv 0) (yaa (ybd (v:=.ref (c 7)) rfl (G 7 "NotSure" rfl) rfl) yac))) (yaa (yae ybi rfl (B.of rfl) boot_isinstance (yaa (pv 0) (yaa (ybd (v:=.ref (c 8)) rfl (G 8 "NoKind" rfl) rfl) yac))) yac))))))
      (yad (qs_if (PW.pt (qiu (qbn yf9 (qgj PySem.F.plainAttrs_list PySem.F.slot_list_count PySem.F.type_list_count yjv (pv 1) (yaa yc2 yac)) qac (yah _)) (qiu (ydt (qdb (yae ybi rfl (B.of rfl) boot_isinstance (yaa (pv 0) (yaa (ybf (v:=.ty "ValueError") rfl hVE boot_VE rfl) yac))))) (qgu (qdb (yae ybi rfl (B.of rfl) boot_isinstance (yaa (pv 0) (yaa (ybd (v:=.ref (c 9)) rfl (G 9 "TooMany" rfl) rfl) yac))))))))
        (qae (qs_ret yan))
        qat)
      (qae (qs_ret (ybq yaq (pe_strs (xs:=ya9) (by decide +kernel)) (qgj PySem.F.plainAttrs_list PySem.F.slot_list_index PySem.F.type_list_index yjg (pv 1) (yaa yc2 yac)) (fun _ _=>rfl))))))))),?_⟩
    have z3:3≤sizeLine:=by decide
    have u:∀ {H':Hp} {p q:Addr} {o o':HO},H' p=some o→H' q=none→upd H' q o' p=some o:=fun h1 h2=>by rw [qaf (qah h1 h2)]; exact h1
    refine ⟨_,rfl,⟨a,C,fs,.ref (c 0),_,rfl,.inl ⟨_,rfl⟩,XAt.same (Same.refl H) hx,T,hk 0 (by decide),⟨_,rfl,⟨a,C,fs,.ref (c 1),_,rfl,.inl ⟨_,rfl⟩,XAt.same (Same.refl H) hx,T,hk 1 (by decide),⟨_,rfl,⟨a,C,fs,.ref (c 2),_,rfl,.inl ⟨_,rfl⟩,XAt.same (Same.refl H) hx,T,hk 2 (by decide),⟨z3,fun p1 f1=>?_⟩⟩⟩⟩⟩⟩⟩
    have s1:Same H _:=(Same.refl H).upd (o:=.lst [.bl (decide (0=j)),.bl (decide (1=j)),.bl (decide (2=j))]) f1
    have a1:upd H p1 (.lst [.bl (decide (0=j)),.bl (decide (1=j)),.bl (decide (2=j))]) p1=some _:=qab
    revert a1 s1
    generalize upd H p1 (.lst [.bl (decide (0=j)),.bl (decide (1=j)),.bl (decide (2=j))])=H1
    intro s1 a1
    refine ⟨_,rfl,_,rfl,⟨a,C,fs,.ref (c 3),_,rfl,.inl ⟨_,rfl⟩,XAt.same (s1) hx,T,hk 3 (by decide),⟨_,rfl,⟨a,C,fs,.ref (c 4),_,rfl,.inl ⟨_,rfl⟩,XAt.same (s1) hx,T,hk 4 (by decide),⟨_,rfl,⟨a,C,fs,.ref (c 5),_,rfl,.inl ⟨_,rfl⟩,XAt.same (s1) hx,T,hk 5 (by decide),⟨z3,fun p2 f2=>⟨p1,p2,_,_,rfl,rfl,u a1 f2,qab,(show 6≤sizeLine by decide),fun p3 f3=>?_⟩⟩⟩⟩⟩⟩⟩⟩
    refine ⟨_,rfl,_,rfl,⟨a,C,fs,.ref (c 6),_,rfl,.inl ⟨_,rfl⟩,XAt.same ((s1.upd f2).upd f3) hx,T,hk 6 (by decide),⟨_,rfl,⟨a,C,fs,.ref (c 7),_,rfl,.inl ⟨_,rfl⟩,XAt.same ((s1.upd f2).upd f3) hx,T,hk 7 (by decide),⟨_,rfl,⟨a,C,fs,.ref (c 8),_,rfl,.inl ⟨_,rfl⟩,XAt.same ((s1.upd f2).upd f3) hx,T,hk 8 (by decide),⟨z3,fun p4 f4=>⟨p3,p4,_,_,rfl,rfl,u qab f4,qab,(show 9≤sizeLine by decide),fun p5 f5=>?_⟩⟩⟩⟩⟩⟩⟩⟩
    have hc:(tru j).count true=1:=(qkp j hj).1
    have hq:Same H _:=((((s1.upd f2).upd f3).upd f4).upd (o:=.lst ((tru j).map V.bl)) f5)
    refine ⟨_,rfl,.inl ⟨rfl,_,SqL.of qab⟩,p5,tru j,true,rfl,rfl,qab,?_⟩
    rw [hc]
    refine ⟨rfl,_,rfl,?_⟩
    refine ite_f (by decide) ?_
    refine ⟨_,rfl,a,C,fs,.ty "ValueError",_,rfl,.inr ⟨_,rfl⟩,XAt.same hq hx,T,hv,_,rfl,?_⟩
    refine ite_f (by decide) ?_
    refine ⟨_,rfl,a,C,fs,.ref (c 9),_,rfl,.inl ⟨_,rfl⟩,XAt.same hq hx,T,hk 9 (by decide),_,rfl,?_⟩
    refine ite_f (by simp; omega) ?_
    refine ⟨(show 9≤sizeLine by decide),fun p8 f8=>?_⟩
    refine ⟨_,rfl,.inl ⟨rfl,_,SqL.of (u qab f8)⟩,p5,tru j,true,j,rfl,rfl,u qab f8,(qkp j hj).2.1,(qkp j hj).2.2,?_⟩
    exact ⟨p8,_,_,_,rfl,rfl,SqL.of qab,kinds_at j hj,k _ (hq.upd f8)⟩
end
end Mh
set_option Elab.async false
set_option linter.all false
set_option maxRecDepth 100000
set_option maxHeartbeats 4000000
namespace Mh
open PySem L2 PyProof.Rows Mx
theorem qkb {n:Int}:∀ {ns:List Int} {a:Int},ns.Pairwise (· < ·)→(∀ x∈ns,a≤x∧x < n)→a≤n→(ns.length:Int)≤n - a
  | [],a,_,_,h=>by simp; omega
  | x :: ns,a,hp,hr,h=>by
    have h1:=hr x (List.mem_cons_self ..)
    have h2:=List.pairwise_cons.mp hp
    have:=qkb (n:=n) (ns:=ns) (a:=x + 1) h2.2 (fun y hy=>⟨by have:=h2.1 y hy; omega,(hr y (List.mem_cons_of_mem _ hy)).2⟩) (by omega)
    rw [List.length_cons]
    omega
theorem yib {H:Hp} {v:V} {d:PyData} {n:Int} (h:AtX H v d) (hb:sprB n d=true) (h0:0≤n) (h8:n≤8):∃ R ns,v=.ref R∧H R=some (.lst (ns.map V.int))∧Spr ns n:=by
  obtain ⟨ds,rfl⟩:∃ ds,d=.list ds:=by cases d <;> first | exact ⟨_,rfl⟩ | cases hb
  have h':At H v (.list ds):=by
    rcases h with h | ⟨e,_⟩
    · exact h
    · cases e
  obtain ⟨R,us,rfl,hR,hu⟩:=h'.lstEq
  have hb':((ds.map qcc).all id && (decide ((ds.map intD).Pairwise (· < ·)) && ((ds.map intD).map fun c=>decide (0≤c∧c < n)).all id))=true:=hb
  rw [Bool.and_eq_true,Bool.and_eq_true] at hb'
  obtain ⟨b1,b2,b3⟩:=hb'
  have eu:=qgh hu b1
  have b4:∀ x∈ds.map intD,0≤x∧x < n:=fun x hx=>of_decide_eq_true (List.all_eq_true.mp b3 _ (List.mem_map.mpr ⟨x,hx,rfl⟩))
  have b5:=of_decide_eq_true b2
  have:=qkb b5 b4 h0
  exact ⟨R,ds.map intD,rfl,by rw [hR,eu],b5,b4,by omega⟩
theorem ykn {H:Hp} {v0 v1 vh vc v4 v5:V} {d0 d1 dh dc d4 d5:PyData} (a0:AtX H v0 d0) (a1:AtX H v1 d1) (ah:AtX H vh dh) (ac:AtX H vc dc) (a4:AtX H v4 d4) (a5:AtX H v5 d5) (hm:qdd d0 d1 dh dc d4 d5="made") :
    ∃ (r l:Int) (L Cc R M:Addr) (us:List V) (hs:List Hm) (S cs ns ms:List Int),v0=.int r∧v1=.int l∧vh=.ref L∧vc=.ref Cc∧v4=.ref R∧v5=.ref M∧1≤r∧r≤8∧1≤l∧l≤8∧r * l=cs.length∧
      H L=some (.lst us)∧HsV H us hs∧okHs hs S∧InR hs cs.length∧H Cc=some (.lst (cs.map V.int))∧bits cs∧H R=some (.lst (ns.map V.int))∧Spr ns r∧H M=some (.lst (ms.map V.int))∧Spr ms l:=by
  unfold qdd at hm
  cases hb:qao dh with
  | some b=>rw [hb] at hm; exact absurd (show ("harms" : Str)="made" from hm) (by decide +kernel)
  | none=>
    rw [hb] at hm
    have hm':qgo d0 d1 dh dc d4 d5="made":=hm
    unfold qgo at hm'
    by_cases hc:(cntD d0 && cntD d1)=true∧qcp (.int (intD d0 * intD d1)) dh dc=true
    rotate_left
    · rw [if_neg hc] at hm'; exact absurd hm' (by decide +kernel)
    rw [if_pos hc] at hm'
    by_cases hs:(sprB (intD d0) d4 && sprB (intD d1) d5)=true
    rotate_left
    · rw [if_neg hs] at hm'; exact absurd hm' (by decide +kernel)
    obtain ⟨h1,h2⟩:=hc
    rw [Bool.and_eq_true] at h1 hs
    obtain ⟨r,rfl,rfl,r1,r8⟩:=qgb a0 h1.1
    obtain ⟨l,rfl,rfl,l1,l8⟩:=qgb a1 h1.2
    obtain ⟨L,us,hs',S,Cc,cs,e1,rfl,rfl,hL,hv,ok,hi,hC,hbt,_,_⟩:=qig (vz:=.int (r * l)) (dz:=.int (r * l)) (.inl (.int _)) ah ac hb h2
    obtain ⟨R,ns,rfl,hR,sr⟩:=yib a4 hs.1 (by show (0:Int)≤r; omega) r8
    obtain ⟨M,ms,rfl,hM,sm⟩:=yib a5 hs.2 (by show (0:Int)≤l; omega) l8
    exact ⟨r,l,L,Cc,R,M,us,hs',S,cs,ns,ms,rfl,rfl,rfl,rfl,rfl,rfl,r1,r8,l1,l8,V.int.inj e1,hL,hv,ok,hi,hC,hbt,hR,sr,hM,sm⟩
section
variable {P:Program} {w:World} {K:PySem.W.Frag} {mg:Str→Option Value} {base:Heap} {C N:Addr}
def yif:Sp:=fun vs H Q _=>∃ p v0 v1 vh vc v4 v5 d0 d1 dh dc d4 d5,vs=[.ref p]∧H p=some (.lst [v0,v1,vh,vc,v4,v5])∧AtX H v0 d0∧AtX H v1 d1∧AtX H vh dh∧AtX H vc dc∧AtX H v4 d4∧AtX H v5 d5∧
  (∀ ds,d4=.list ds→ds.length≤60)∧(∀ ds,d5=.list ds→ds.length≤60)∧∀ H',Same H H'→Q (.str (qdd d0 d1 dh dc d4 d5)) H'
abbrev qb6:Stmt:=top 62
theorem yer:FnScope ["_law_parts","_law_kept","e"] ["_law_parts"] (yab qb6):=⟨rfl,rfl,rfl,by decide +kernel,rfl,by decide +kernel,by decide +kernel⟩
theorem og_lmade {c:Nat→Addr} {cM:Addr} (gm:mg "MarchError" = some (.ref cM)) (k0:KX K c cM 0) (k1:KX K c cM 1) (k2:KX K c cM 2) (qd3:Has P w K mg base 1 "_law_word" ["_law_kept"] (yhn K c cM)) (h_Mended:yf6 P w K mg base N 11 "Mended" ["self","rows","lines","harms","contents","spare_rows","spare_lines"] (yhd C N (c 0) (c 1) (c 2)))
    (F:FnAt K mg "_law_made" qb6 ["_law_parts"]):Has P w K mg base 13 "_law_made" ["_law_parts"] yif:=by
  refine Has.ofQ F yer (fun vs H Q E h=>?_) (fun f cdv A outer s H vs Q E hr h=>?_)
  · obtain ⟨p,v0,v1,vh,vc,v4,v5,d0,d1,dh,dc,d4,d5,rfl,_⟩:=h
    rfl
  · obtain ⟨p,v0,v1,vh,vc,v4,v5,d0,d1,dh,dc,d4,d5,rfl,hp,a0,a1,ah,ac,a4,a5,l4,l5,q⟩:=h
    have sc:=yer
    refine ⟨_,(qai rfl (yad (qaw (i:=1) sc.nd rfl (Or.inl rfl) (qaa qdc))
      (yad (yd1 (ps_try (iy:=1) (jn:=2) (fun _ _ z=>z) rfl rfl (ygd (pex_make (fun _ _ z=>z) h_Mended hr (yaa (ybq yaq (pv 0) qac (fun _ _=>rfl)) (yaa (ybq yaq (pv 0) qac (fun _ _=>rfl)) (yaa (ybq yaq (pv 0) qac (fun _ _=>rfl)) (yaa (ybq yaq (pv 0) qac (fun _ _=>rfl)) (yaa (ybq yaq (pv 0) qac (fun _ _=>rfl)) (yaa (ybq yaq (pv 0) qac (fun _ _=>rfl)) yac)))))))) sc.nd rfl rfl rfl (Or.inl rfl) (by decide) rfl gm))
      (yad (ya2 (qt_of (yim (qke (pv 1))))
        (qae (yao (qaa yan)))
        qat)
      (qae (yao (yai qd3 hr (yaf (qaa (pv 1)) qad)))))))),?_⟩
    refine ⟨_,rfl,p,_,_,_,rfl,rfl,SqL.of hp,qal 0 rfl,_,rfl,p,_,_,_,rfl,rfl,SqL.of hp,qal 1 rfl,_,rfl,p,_,_,_,rfl,rfl,SqL.of hp,qal 2 rfl,_,rfl,p,_,_,_,rfl,rfl,SqL.of hp,qal 3 rfl,_,rfl,p,_,_,_,rfl,rfl,SqL.of hp,qal 4 rfl,_,rfl,p,_,_,_,rfl,rfl,SqL.of hp,qal 5 rfl,fun x dx hx hdx hne=>?_⟩
    have sx:Same H (upd (upd H dx (.own x)) x (.ins N dx [])):=((Same.refl H).upd hdx).upd (by rw [qaf hne.symm]; exact hx)
    have ex:upd (upd H dx (.own x)) x (.ins N dx []) x=some (.ins N dx []):=qab
    revert sx ex
    generalize upd (upd H dx (.own x)) x (.ins N dx [])=H1
    intro sx ex
    have nx:∀ {H2:Hp},(∀ b u,b≠x→H1 b=some u→H2 b=some u)→Same H H2:=fun keep b u e=>keep b u (fun z=>by subst z; rw [hx] at e; cases e) (sx _ _ e)
    by_cases hm:qdd d0 d1 dh dc d4 d5="made"
    · obtain ⟨r,l,L,Cc,R,M,us,hs,S,cs,ns,ms,rfl,rfl,rfl,rfl,rfl,rfl,r1,r8,l1,l8,hrl,hL,hv,ok,hi,hC,hbt,hR,sr,hM,sm⟩:=ykn (a0.same sx) (a1.same sx) (ah.same sx) (ac.same sx) (a4.same sx) (a5.same sx) hm
      refine .inl ⟨x,dx,L,Cc,R,M,r,l,us,hs,S,cs,ns,ms,rfl,ex,r1,r8,l1,l8,hrl,hL,hv,ok,hi,hC,hbt,hR,sr,hM,sm,fun m L' C' d kvs H2 keep _ _ _ _ _ _ _=>⟨rfl,?_⟩⟩
      refine ⟨_,rfl,_,rfl,iteB (decide_eq_true rfl) ?_⟩
      have:=q H2 (nx keep)
      rw [hm] at this
      exact this
    · refine .inr ⟨x,dx,v0,v1,vh,vc,v4,v5,d0,d1,dh,dc,d4,d5,rfl,ex,a0.same sx,a1.same sx,ah.same sx,ac.same sx,a4.same sx,a5.same sx,l4,l5,hm,fun a H2 keep due=>⟨a,rfl,?_⟩⟩
      obtain ⟨j,fs,xa,kx,e⟩:∃ j fs,XAt H2 a (c j) fs∧KX K c cM j∧ya9.getD j "" = qdd d0 d1 dh dc d4 d5:=by
        rcases due with ⟨e,b,xa⟩ | ⟨e,xa⟩ | ⟨e,xa⟩
        · exact ⟨0,_,xa,k0,by rw [e]; decide +kernel⟩
        · exact ⟨1,_,xa,k1,by rw [e]; decide +kernel⟩
        · exact ⟨2,_,xa,k2,by rw [e]; decide +kernel⟩
      refine ⟨a,c j,fs,rfl,xa,kx.em,?_⟩
      refine ⟨_,rfl,_,rfl,iteN (decide_eq_false (fun z=>by cases z)) ?_⟩
      refine ⟨_,rfl,a,fs,j,rfl,xa,kx,fun H3 s3=>?_⟩
      have:=q H3 ((nx keep).trans s3)
      rw [← e] at this
      exact this
def dueS (bs:List Int):Str:=if 2∈bs then "harms" else if 0∈bs∨1∈bs∨3∈bs then "memory" else "spares"
def sp_due:Sp:=fun vs H Q _=>∃ L bs,vs=[.ref L]∧H L=some (.lst (bs.map V.int))∧Q (.str (dueS bs)) H
abbrev yci:Stmt:=top 64
theorem yfo:FnScope ["_law_bent_here"] ["_law_bent_here"] (yab yci):=⟨rfl,rfl,rfl,by decide +kernel,rfl,by decide +kernel,by decide +kernel⟩
theorem ok_due (F:FnAt K mg "_law_due" yci ["_law_bent_here"]):Has P w K mg base 1 "_law_due" ["_law_bent_here"] sp_due:=by
  refine Has.ofQ F yfo (fun vs H Q E h=>?_) (fun f cdv A outer s H vs Q E hr h=>?_)
  · obtain ⟨L,bs,rfl,_⟩:=h
    rfl
  · obtain ⟨L,bs,rfl,hL,q⟩:=h
    have sc:=yfo
    refine ⟨_,(qai rfl (yad (ya2 (yav ybg (qaa qac) (qaa (pv 0)) (by with_unfolding_all rfl))
        (qae (yao (qaa yan)))
        qat)
      (yad (ya2 (QW.pt (yd2 (yav ybg (qaa qac) (qaa (pv 0)) (by with_unfolding_all rfl)) (yd2 (yav ybg (qaa qac) (qaa (pv 0)) (by with_unfolding_all rfl)) (qcw (yav ybg (qaa qac) (qaa (pv 0)) (by with_unfolding_all rfl))))))
        (qae (yao (qaa yan)))
        qat)
      (qae (yao (qaa yan)))))),?_⟩
    have im:∀ i:Int,inV (.int i) (bs.map V.int)=decide (i∈bs):=fun i=>yfq
    have fl:(bs.map V.int).all qed=true:=by simp [qed]
    refine ⟨_,rfl,L,_,rfl,.inl (SqL.of hL),rfl,fl,_,rfl,?_⟩
    by_cases h2:(2:Int)∈bs
    · refine iteB (by show inV _ _=true; rw [im]; exact decide_eq_true h2) ?_
      have:dueS bs="harms":=by unfold dueS; rw [if_pos h2]
      rw [this] at q
      exact q
    refine iteN (by show inV _ _=false; rw [im]; exact decide_eq_false h2) ?_
    have e2:(0∈bs∨1∈bs∨3∈bs)→dueS bs="memory":=fun h=>by unfold dueS; rw [if_neg h2,if_pos h]
    refine ⟨_,rfl,L,_,rfl,.inl (SqL.of hL),rfl,fl,_,rfl,?_⟩
    by_cases h0:(0:Int)∈bs
    · refine iteB (by show inV _ _=true; rw [im]; exact decide_eq_true h0) ?_
      rw [e2 (.inl h0)] at q
      exact iteB rfl q
    refine iteN (by show inV _ _=false; rw [im]; exact decide_eq_false h0) ?_
    refine ⟨_,rfl,L,_,rfl,.inl (SqL.of hL),rfl,fl,_,rfl,?_⟩
    by_cases h1:(1:Int)∈bs
    · refine iteB (by show inV _ _=true; rw [im]; exact decide_eq_true h1) ?_
      rw [e2 (.inr (.inl h1))] at q
      exact iteB rfl q
    refine iteN (by show inV _ _=false; rw [im]; exact decide_eq_false h1) ?_
    refine ⟨_,rfl,L,_,rfl,.inl (SqL.of hL),rfl,fl,_,rfl,?_⟩
    by_cases h3:(3:Int)∈bs
    · refine iteB (by show inV _ _=true; rw [im]; exact decide_eq_true h3) ?_
      rw [e2 (.inr (.inr h3))] at q
      exact q
    refine iteN (by show inV _ _=false; rw [im]; exact decide_eq_false h3) ?_
    have:dueS bs="spares":=by unfold dueS; rw [if_neg h2,if_neg (by simp [h0,h1,h3])]
    rw [this] at q
    exact q
theorem MenO.same {H H':Hp} {e m L Cc:Addr} {us:List V} {hs:List Hm} {cs:List Int} {d:Addr} {kvs:List (Key×V)} (h:MenO H C N e m L Cc us hs cs d kvs) (s:Same H H'):MenO H' C N e m L Cc us hs cs d kvs:=by
  obtain ⟨⟨dx,ho⟩,mm,hd⟩:=h
  exact ⟨⟨dx,s _ _ ho⟩,mm.same s,s _ _ hd⟩
theorem lkn_r {m d:Addr}:(fsN m d).lookup ("read" : Str)=none:=by
  unfold fsN
  rw [List.lookup_cons,show (("read" : Str) == "harmed")=false by decide +kernel,List.lookup_cons,show (("read" : Str) == "spare")=false by decide +kernel,List.lookup_nil]
theorem lkn_w {m d:Addr}:(fsN m d).lookup ("write" : Str)=none:=by
  unfold fsN
  rw [List.lookup_cons,show (("write" : Str) == "harmed")=false by decide +kernel,List.lookup_cons,show (("write" : Str) == "spare")=false by decide +kernel,List.lookup_nil]
def qhf (C N:Addr):Sp:=fun vs H Q _=>∃ e m L Cc us hs cs d kvs,∃ way:Nat,∃ va vb da db,vs=[.ref e,.int way,va,vb]∧MenO H C N e m L Cc us hs cs d kvs∧AtX H va da∧AtX H vb db∧
  ((way < 2∧yem cs.length da=false∧∀ H',Same H H'→Q (.str "address") H')∨(way=1∧yem cs.length da=true∧bitD db=false∧∀ H',Same H H'→Q (.str "bit") H'))
abbrev qbt:Stmt:=top 65
theorem yd9:FnScope ["_law_one","_law_way","_law_address","_law_bit","_law_kept","e"] ["_law_one","_law_way","_law_address","_law_bit"] (yab qbt):=⟨rfl,rfl,rfl,by decide +kernel,rfl,by decide +kernel,by decide +kernel⟩
theorem qku {c:Nat→Addr} {cM:Addr} (gm:mg "MarchError" = some (.ref cM)) (k3:KX K c cM 3) (k4:KX K c cM 4) (cn:CN K N) (qd3:Has P w K mg base 1 "_law_word" ["_law_kept"] (yhn K c cM)) (hm_read:ydc P w K mg base N 6 "read" ["self","address"] (qc5 C N (c 3) 0)) (hm_write:ydc P w K mg base N 7 "write" ["self","address","bit"] (qf3 C N (c 3) (c 4)))
    (F:FnAt K mg "_law_asked" qbt ["_law_one","_law_way","_law_address","_law_bit"]):Has P w K mg base 8 "_law_asked" ["_law_one","_law_way","_law_address","_law_bit"] (qhf C N):=by
  refine Has.ofQ F yd9 (fun vs H Q E h=>?_) (fun f cdv A outer s H vs Q E hr h=>?_)
  · obtain ⟨e,m,L,Cc,us,hs,cs,d,kvs,way,va,vb,da,db,rfl,_⟩:=h
    rfl
  · obtain ⟨e,m,L,Cc,us,hs,cs,d,kvs,way,va,vb,da,db,rfl,mo,ha,hb,hq⟩:=h
    obtain ⟨⟨dx,ho⟩,mm,hd⟩:=id mo
    have sc:=yd9
    refine ⟨_,(qai rfl (yad (qaw (i:=4) sc.nd rfl (Or.inl rfl) (qaa qdc))
      (yad (yd1 (ps_try (iy:=4) (jn:=5) (fun _ _ z=>z) rfl rfl (psx_if (fun _ _ z=>z) (qbn ycz (pv 1) qac (yah _)) (ygd (qib (fun _ _ z=>z) cn.c hm_read hr (pv 0) (yaa (pv 2) yac))) (ygd (qib (fun _ _ z=>z) cn.c hm_write hr (pv 0) (yaa (pv 2) (yaa (pv 3) yac))))) sc.nd rfl rfl rfl (Or.inl rfl) (by decide) rfl gm))
      (yad (ya2 (qt_of (yim (qke (pv 4))))
        (qae (yao (qaa yan)))
        qat)
      (qae (yao (yai qd3 hr (yaf (qaa (pv 4)) qad)))))))),?_⟩
    refine ⟨_,rfl,rfl,_,rfl,?_⟩
    rcases hq with ⟨hw,hbad,q⟩ | ⟨rfl,hok,hbad,q⟩
    · by_cases h0:way=0
      · subst h0
        refine iteB (by decide) ⟨_,rfl,e,dx,_,rfl,ho,lkn_r,_,rfl,e,m,L,Cc,us,hs,cs,d,kvs,va,da,[],rfl,rfl,mo,ha,hbad,fun a H2 s2 xa=>⟨a,rfl,a,c 3,_,rfl,xa,k3.em,?_⟩⟩
        refine ⟨_,rfl,_,rfl,iteN (decide_eq_false (fun z=>by cases z)) ?_⟩
        exact ⟨_,rfl,a,_,3,rfl,xa,k3,fun H3 s3=>q _ (s2.trans s3)⟩
      · refine iteN (decide_eq_false (fun z=>h0 (by have:=V.int.inj z; omega))) ⟨_,rfl,e,dx,_,rfl,ho,lkn_w,_,rfl,_,rfl,.inl ⟨e,m,L,Cc,us,hs,cs,d,kvs,va,da,[vb],rfl,rfl,mo,ha,hbad,fun a H2 s2 xa=>⟨a,rfl,a,c 3,_,rfl,xa,k3.em,?_⟩⟩⟩
        refine ⟨_,rfl,_,rfl,iteN (decide_eq_false (fun z=>by cases z)) ?_⟩
        exact ⟨_,rfl,a,_,3,rfl,xa,k3,fun H3 s3=>q _ (s2.trans s3)⟩
    · refine iteN (by decide) ⟨_,rfl,e,dx,_,rfl,ho,lkn_w,_,rfl,_,rfl,.inr ⟨e,m,L,Cc,us,hs,cs,d,kvs,va,da,vb,db,rfl,mo,ha,hok,hb,hbad,fun a H2 s2 xa=>⟨a,rfl,a,c 4,_,rfl,xa,k4.em,?_⟩⟩⟩
      refine ⟨_,rfl,_,rfl,iteN (decide_eq_false (fun z=>by cases z)) ?_⟩
      exact ⟨_,rfl,a,_,4,rfl,xa,k4,fun H3 s3=>q _ (s2.trans s3)⟩
end
end Mh
set_option Elab.async false
set_option linter.all false
set_option maxRecDepth 100000
set_option maxHeartbeats 4000000
namespace Mh
open PySem L2 PyProof.Rows Mx
def lenD:PyData→Nat | .list ds=>ds.length | _=>0
def smB (d:PyData):Bool:=d.showable && (decide (d.depth≤4) && (d.leavesShort 40 && decide (d.bulk≤2000)))
theorem qh7 {d:PyData} (h:smB d=true):Sm 4 2000 d:=by
  unfold smB at h
  simp only [Bool.and_eq_true] at h
  exact ⟨h.1,of_decide_eq_true h.2.1,h.2.2.1,of_decide_eq_true h.2.2.2⟩
def csn (n:Nat):List Int:=List.replicate (n - 1) 0++[1]
def odd0:List PyData:=[.int 0,.int 9,.bool true,.none,.str "2",.int (-1),.list [.int 1],.int (10 ^ (20:Int).toNat)]
def yi4 (hd:List PyData):List PyData:=[.none,.tuple hd,.list [.tuple [.str "stuck",.int 64,.int 0]],.list [.tuple [.str "stuck",.int (-1),.int 0]],.list [.tuple [.str "stuck",.int 0]],.list [.str "stuck"]]
def odd2b:List PyData:=[.list (List.replicate 4 [PyData.tuple [.str "stuck",.int 0,.int 0]]).flatten,.list [.tuple [.str "other",.int 1,.int 1]],.dict []]
def yip (is:List PyData):List PyData:=[.none,.tuple is,.list (is++[.int 0]),.list (is.drop 1),.list (is.drop 1++[.bool true]),.list (is.drop 1++[.int 2]),.str "0"]
def odd3b (is:List PyData):List PyData:=[.list (is.drop 1++[.none]),.dict []]
def odd4 (n:Int):List PyData:=[.none,.tuple [],.list [.int n],.list [.int (-1)],.list [.bool true],.list [.int 0,.int 0],.list [.int (n - 1),.int 0],.list [.str "0"],.dict [],.str "",.list [.none]]
theorem odd0_bad:∀ d∈odd0,cntD d=false∧Sm 4 2000 d:=by
  have:odd0.all (fun d=>!cntD d && smB d)=true:=by decide +kernel
  intro d hd
  have h:=List.all_eq_true.mp this d hd
  rw [Bool.and_eq_true] at h
  exact ⟨by simpa using h.1,qh7 h.2⟩
theorem odd2_bad {hd:List PyData} (h3:hd.length≤3) (hs:∀ x∈hd,Sm 1 100 x):∀ d∈yi4 hd++odd2b,(qao d).isSome=true∧Sm 4 2000 d:=by
  have c:∀ d:PyData,((qao d).isSome && smB d)=true→(qao d).isSome=true∧Sm 4 2000 d:=fun d h=>by
    rw [Bool.and_eq_true] at h
    exact ⟨h.1,qh7 h.2⟩
  intro d hm
  simp only [yi4,odd2b,List.cons_append,List.nil_append,List.mem_cons,List.not_mem_nil,or_false] at hm
  rcases hm with rfl | rfl | rfl | rfl | rfl | rfl | rfl | rfl | rfl
  · exact c _ (by decide +kernel)
  · exact ⟨rfl,(Sm.tuple (n:=3) hs h3).mono⟩
  · exact c _ (by decide +kernel)
  · exact c _ (by decide +kernel)
  · exact c _ (by decide +kernel)
  · exact c _ (by decide +kernel)
  · exact c _ (by decide +kernel)
  · exact c _ (by decide +kernel)
  · exact c _ (by decide +kernel)
theorem odd3_all:∀ n:Nat,n < 65→4≤n→(yip ((csn n).map PyData.int)++odd3b ((csn n).map PyData.int)).all (fun d=>!ydz (n:Int) d && smB d)=true:=by decide +kernel
theorem odd3_bad {n:Nat} (h1:4≤n) (h2:n≤64):∀ d∈yip ((csn n).map PyData.int)++odd3b ((csn n).map PyData.int),ydz (n:Int) d=false∧Sm 4 2000 d:=by
  intro d hd
  have h:=List.all_eq_true.mp (odd3_all n (by omega) h1) d hd
  rw [Bool.and_eq_true] at h
  exact ⟨by simpa using h.1,qh7 h.2⟩
theorem odd4_all:∀ n:Nat,n < 9→2≤n→(odd4 (n:Int)).all (fun d=>!sprB (n:Int) d && (decide (lenD d≤60) && smB d))=true:=by decide +kernel
theorem odd4_bad {n:Int} (h1:2≤n) (h2:n≤8):∀ d∈odd4 n,sprB n d=false∧lenD d≤60∧Sm 4 2000 d:=by
  intro d hd
  have h:=odd4_all n.toNat (by omega) (by omega)
  rw [show ((n.toNat:Nat):Int)=n by omega] at h
  have h:=List.all_eq_true.mp h d hd
  simp only [Bool.and_eq_true] at h
  exact ⟨by simpa using h.1,of_decide_eq_true h.2.1,qh7 h.2.2⟩
def BadD (r l:Int) (n:Nat) (which:Int) (d:PyData):Prop:=(which < 2→cntD d=false)∧(which=2→(qao d).isSome=true)∧(which=3→ydz (n:Int) d=false)∧(which=4→sprB r d=false∧lenD d≤60)∧(which=5→sprB l d=false∧lenD d≤60)
section
variable {K:PySem.W.Frag} {σ:L2.St} {H:Hp} {te:TE} {d:PyData} {L:List Addr}
theorem yez {KK:Ends} (hL:∀ b∈L,H b≠none) (h:LayX L te σ d H) (k:∀ v H',Same H H'→AtX (qba H' L) v d→KK.rt v H'):tRet te KK σ H:=
  h hL H (Same.refl H) _ k
theorem yfg {i:Nat} {p:Addr} {xs:List V} {k:Int} {v:V} (hσ:σ[i]?=some (some (.ref p))) (hp:qba H L p=some (.lst xs)) (ha:atI xs k=some v) (h:At (qba H L) v d):Lay L (tOp (rIxL K) (tVar i) (tC (.int k))) σ d H:=fun hL H1 s Q q=>
  ⟨_,hσ,p,xs,k,v,rfl,rfl,SqL.of (yat _ _ _ _ (qau s L _ _ hp)),ha,q v H1 (Same.refl H1) (h.same (qau s L))⟩
theorem hid0' {H:Hp} {p:Addr} {o:HO} (h:H p=some o):qba H [] p=some o:=by rw [qb9 (by simp)]; exact h
theorem qk0 {i:Nat} {n m:Int} (hσ:σ[i]?=some (some (.int n))):Lay L (tOp (rI0 fun i j=>V.int (i - j)) (tVar i) (tC (.int m))) σ (.int (n - m)) H:=fun hL H1 s Q k=>⟨_,hσ,_,_,rfl,rfl,k _ H1 (Same.refl H1) (.int _)⟩
theorem yh2 {ds:List PyData} {i:Nat} {rest:TS} {KK:Ends} (h:LayL L te σ ds H) (hL:∀ b∈L,H b≠none) (k:∀ a vs H',Same H H'→qba H' L a=some (.lst vs)→AllX (qba H' L) vs ds→rest KK (σ.set i (some (.ref a))) H'):tSeq (tAsg te (yfw i)) rest KK σ H:=h hL H (Same.refl H) _ k
end
section
variable {P:Program} {w:World} {K:PySem.W.Frag} {mg:Str→Option Value} {base:Heap} {C N:Addr}
def ykf:Sp:=fun vs H Q _=>∃ Tl p,∃ r l which dg:Int,∃ n:Nat,∃ L Cc v4 v5 hd,vs=[.ref p,.int which,.int dg]∧(∀ b∈Tl,H b≠none)∧qba H Tl p=some (.lst [.int r,.int l,.ref L,.ref Cc,v4,v5])∧At (qba H Tl) (.ref L) (.list hd)∧hd.length≤3∧(∀ x∈hd,Sm 1 100 x)∧At (qba H Tl) (.ref Cc) (.list ((csn n).map PyData.int))∧
  2≤r∧r≤8∧2≤l∧l≤8∧4≤n∧n≤64∧0≤which∧which < 6∧0≤dg∧∀ v d H',Same H H'→AtX (qba H' Tl) v d→BadD r l n which d→Sm 4 2000 d→Q v H'
abbrev yb1:Stmt:=top 63
theorem yet:FnScope ["_law_parts","_law_which","_law_d","_law_some","_law_many"] ["_law_parts","_law_which","_law_d"] (yab yb1):=⟨rfl,rfl,rfl,by decide +kernel,rfl,by decide +kernel,by decide +kernel⟩
theorem og_bent (B:Bl mg) (F:FnAt K mg "_law_bent" yb1 ["_law_parts","_law_which","_law_d"]):Has P w K mg base 1 "_law_bent" ["_law_parts","_law_which","_law_d"] ykf:=by
  refine Has.ofQ F yet (fun vs H Q E h=>?_) (fun f cdv A outer s H vs Q E hr h=>?_)
  · obtain ⟨Tl,p,r,l,which,dg,n,L,Cc,v4,v5,hd,rfl,_⟩:=h
    rfl
  · obtain ⟨Tl,p,r,l,which,dg,n,L,Cc,v4,v5,hd,rfl,hTl,hp,aL,h3,hsm,aC,r2,r8,l2,l8,n4,n64,w0,w6,d0,q⟩:=h
    have hT2:∀ {H2:Hp},Same H H2→∀ b∈Tl,H2 b≠none:=fun s b hb z=>hTl b hb (s.free z)
    have sc:=yet
    refine ⟨_,(qai rfl (yad (ya2 (yav qg9 (qaa (pv 1)) (qaa qac) (yah _))
        (qae (yao (ybu yaq (yap (qan (qaa qac) (qan (qaa qac) (qan (qaa yc2) (qan (qaa qdc) (qan (qaa yan) (qdk (qaa (qht yfl qac)) (ycx (yap (qan (qaa qac) qad)) (ycw (qa3 qip (qaa qac) (qaa qac)) qad))))))))) (qa3 ycy (qaa (pv 2)) (qaa qac)) (fun _ _=>rfl))))
        qat)
      (yad (ya2 (yav ycz (qaa (pv 1)) (qaa qac) (yah _))
        (yad (qaw (i:=3) sc.nd rfl (Or.inl rfl) (yap (qan (qaa qdc) (qhz (qbi qeg rfl (B.of rfl) boot_tuple (qew (ybu yaq (qaa (pv 0)) (qaa qac) (fun _ _=>rfl)) qad)) (ycx (yap (qdl (ycd (qan (qaa yan) (qan (qaa qac) (qan (qaa qac) qad)))) qad)) (ycx (yap (qdl (ycd (qan (qaa yan) (qdk (qaa (qht yfl qac)) (qan (qaa qac) qad)))) qad)) (ycx (yap (qdl (ycd (qan (qaa yan) (qan (qaa qac) qad))) qad)) (ycx (yap (qan (qaa yan) qad)) qad))))))))
        (qae (yao (ybu yaq (qa3 ycg (qaa (pv 3)) (yap (ycw (qa3 yig (yap (qdl (ycd (qan (qaa yan) (qan (qaa qac) (qan (qaa qac) qad)))) qad)) (qaa qac)) (ycx (yap (qdl (ycd (qan (qaa yan) (qan (qaa qac) (qan (qaa qac) qad)))) qad)) (qdk (qaa ye3) qad))))) (qa3 ycy (qaa (pv 2)) (qaa qac)) (fun _ _=>rfl)))))
        qat)
      (yad (ya2 (yav ycz (qaa (pv 1)) (qaa qac) (yah _))
        (yad (qaw (i:=3) sc.nd rfl (Or.inl rfl) (yap (qan (qaa qdc) (qhz (qbi qeg rfl (B.of rfl) boot_tuple (qew (ybu yaq (qaa (pv 0)) (qaa qac) (fun _ _=>rfl)) qad)) (ycw (qa3 ycg (ybu yaq (qaa (pv 0)) (qaa qac) (fun _ _=>rfl)) (yap (qan (qaa qac) qad))) (qew (yg3 yda (ybu yaq (qaa (pv 0)) (qaa qac) (fun _ _=>rfl)) (qbw qac) ycf) (ycw (qa3 ycg (yg3 yda (ybu yaq (qaa (pv 0)) (qaa qac) (fun _ _=>rfl)) (qbw qac) ycf) (yap (qan (qaa yc2) qad))) (ycw (qa3 ycg (yg3 yda (ybu yaq (qaa (pv 0)) (qaa qac) (fun _ _=>rfl)) (qbw qac) ycf) (yap (qan (qaa qac) qad))) (qan (qaa yan) qad)))))))))
        (qae (yao (ybu yaq (qa3 ycg (qaa (pv 3)) (yap (ycw (qa3 ycg (yg3 yda (ybu yaq (qaa (pv 0)) (qaa qac) (fun _ _=>rfl)) (qbw qac) ycf) (yap (qan (qaa qdc) qad))) (qdk (qaa ye3) qad)))) (qa3 ycy (qaa (pv 2)) (qaa qac)) (fun _ _=>rfl)))))
        qat)
      (yad (qaw (i:=4) sc.nd rfl (Or.inl rfl) (ybu yaq (qaa (pv 0)) (qa3 qff (qaa (pv 1)) (qaa qac)) (fun _ _=>rfl)))
      (qae (yao (ybu yaq (yap (qan (qaa qdc) (qdl (ycd qad) (ycx (yap (yaf (qaa (pv 4)) qad)) (ycx (yap (qdk (qaa (qht yfl qac)) qad)) (ycx (yap (qan (qaa yc2) qad)) (ycx (yap (qan (qaa qac) (qan (qaa qac) qad))) (ycx (yap (ycw (qa3 qff (qaa (pv 4)) (qaa qac)) (qan (qaa qac) qad))) (ycx (yap (qan (qaa yan) qad)) (qdk (qaa ye3) (qan (qaa yan) (ycx (yap (qan (qaa qdc) qad)) qad)))))))))))) (qa3 ycy (qaa (pv 2)) (qaa qac)) (fun _ _=>rfl))))))))),?_⟩
    have md:∀ {k:Int} {H1:Hp} {Q1:VK} {σ:L2.St},0 < k→σ[2]?=some (some (.int dg))→Q1 (.int (dg % k)) H1→tOp (rI (fun _ j=>0 < j) fun i j=>V.int (i % j)) (tVar 2) (tC (.int k)) σ H1 Q1:=fun hk hσ q1=>⟨_,hσ,_,_,rfl,rfl,hk,q1⟩
    have ix:∀ {k:Int},0 < k→0≤dg % k∧dg % k < k:=fun hk=>⟨Int.emod_nonneg _ (by omega),Int.emod_lt_of_pos _ hk⟩
    refine ⟨_,rfl,_,_,rfl,rfl,_,rfl,?_⟩
    by_cases hw2:which < 2
    · refine iteD hw2 ?_
      obtain ⟨i0,i1⟩:=ix (k:=8) (by decide)
      obtain ⟨dd,hdd⟩:∃ dd,odd0[(dg % 8).toNat]?=some dd:=⟨_,List.getElem?_eq_getElem (by show (dg % 8).toNat < 8; omega)⟩
      refine yez (L:=Tl) hTl (d:=dd) (ygb (i:=dg % 8) (ds:=odd0) (qhk ?_) (fun H2 s2 Q2 k2=>md (by decide) rfl k2) i0 (by show dg % 8 < (8:Int); omega) hdd) fun v H' s a=>?_
      · unfold odd0
        repeat' (first | exact qcg | exact ydv | exact ybm | exact qcf | exact qda | exact qay | refine yag ?_ ?_ | refine yck ?_ | refine qax ?_)
        exact qj3 ⟨by decide,by decide,by decide⟩
      · have:=odd0_bad dd (List.mem_of_getElem? hdd)
        exact q v dd H' s a ⟨fun _=>this.1,fun _=>by omega,fun _=>by omega,fun _=>by omega,fun _=>by omega⟩ this.2
    refine qdi hw2 ?_
    refine ⟨_,rfl,rfl,_,rfl,?_⟩
    by_cases hw3:which=2
    · subst hw3
      refine iteB (by decide) ?_
      refine yh2 (L:=Tl) (ds:=yi4 hd) (qhk ?_) hTl fun x4 w4 H4 s4 e4 a4=>?_
      · unfold yi4
        refine qax (yag qcg (yag (ygn (yfg rfl hp (qal 2 rfl) aL)) ?_))
        repeat' (first | exact qcg | exact ydv | exact ybm | exact qcf | exact qda | exact qay | refine yag ?_ ?_ | refine yck ?_ | refine qax ?_)
      obtain ⟨i0,i1⟩:=ix (k:=9) (by decide)
      obtain ⟨dd,hdd⟩:∃ dd,(yi4 hd++odd2b)[(dg % 9).toNat]?=some dd:=⟨_,List.getElem?_eq_getElem (by show (dg % 9).toNat < 9; omega)⟩
      refine yez (L:=Tl) (hT2 s4) (d:=dd) (ygb (i:=dg % 9) (ds:=yi4 hd++odd2b) (qio (yh5 rfl e4 a4) (qga (qcj (qgg (qks (n:=4) ?_ (by decide) (by decide))) (qcj (qgg ?_) (qcj qfm qe9)))) (Nat.le_of_ble_eq_true rfl)) (fun H2 s2 Q2 k2=>md (by decide) rfl k2) i0 (by show dg % 9 < (9:Int); omega) hdd) fun v H' s a=>?_
      · repeat' (first | exact qcg | exact ydv | exact ybm | exact qcf | exact qda | exact qay | refine yag ?_ ?_ | refine yck ?_ | refine qax ?_)
      · repeat' (first | exact qcg | exact ydv | exact ybm | exact qcf | exact qda | exact qay | refine yag ?_ ?_ | refine yck ?_ | refine qax ?_)
      · have:=odd2_bad h3 hsm dd (List.mem_of_getElem? hdd)
        exact q v dd H' (s4.trans s) a ⟨fun _=>by omega,fun _=>this.1,fun _=>by omega,fun _=>by omega,fun _=>by omega⟩ this.2
    refine iteN (decide_eq_false (fun z=>hw3 (V.int.inj z))) ?_
    refine ⟨_,rfl,rfl,_,rfl,?_⟩
    by_cases hw4:which=3
    · subst hw4
      refine iteB (by decide) ?_
      have hlen:((csn n).map PyData.int).length≤64:=by unfold csn; simp; omega
      have c3:∀ {H1:Hp},Same H H1→Lay Tl (tOp (rIxL K) (tVar 0) (tC (.int 3))) [some (.ref p),some (.int 3),some (.int dg),none,none] (.list ((csn n).map PyData.int)) H1:=fun s=>yfg rfl (qau s Tl _ _ hp) (qal 3 rfl) (aC.same (qau s Tl))
      have c3':∀ {H1:Hp} {x:V},Same H H1→Lay Tl (tOp (rIxL K) (tVar 0) (tC (.int 3))) [some (.ref p),some (.int 3),some (.int dg),some x,none] (.list ((csn n).map PyData.int)) H1:=fun s=>yfg rfl (qau s Tl _ _ hp) (qal 3 rfl) (aC.same (qau s Tl))
      refine yh2 (L:=Tl) (ds:=yip ((csn n).map PyData.int)) (qhk ?_) hTl fun x4 w4 H4 s4 e4 a4=>?_
      · unfold yip
        have c0:=c3 (Same.refl H)
        refine qax (yag qcg (yag (ygn c0) (yag (qcs c0 (qax (yag ybm qay)) (by simp only [List.length_cons,List.length_nil]; omega)) (yag (qef c0 qiv) (yag (qcs (qef c0 qiv) (qax (yag ydv qay)) (by simp only [List.length_cons,List.length_nil,List.length_drop]; omega)) (yag (qcs (qef c0 qiv) (qax (yag ybm qay)) (by simp only [List.length_cons,List.length_nil,List.length_drop]; omega)) (yag qcf qay)))))))
      obtain ⟨i0,i1⟩:=ix (k:=9) (by decide)
      obtain ⟨dd,hdd⟩:∃ dd,(yip ((csn n).map PyData.int)++odd3b ((csn n).map PyData.int))[(dg % 9).toNat]?=some dd:=⟨_,List.getElem?_eq_getElem (by show (dg % 9).toNat < 9; omega)⟩
      refine yez (L:=Tl) (hT2 s4) (d:=dd) (ygb (i:=dg % 9) (ds:=yip ((csn n).map PyData.int)++odd3b ((csn n).map PyData.int)) (qio (yh5 rfl e4 a4) (qga (qcj (qgg (qcs (qef (c3' s4) qiv) (qax (yag qcg qay)) (by simp only [List.length_cons,List.length_nil,List.length_drop]; omega))) (qcj qfm qe9))) (Nat.le_of_ble_eq_true rfl)) (fun H2 s2 Q2 k2=>md (by decide) rfl k2) i0 (by show dg % 9 < (9:Int); omega) hdd) fun v H' s a=>?_
      have:=odd3_bad n4 n64 dd (List.mem_of_getElem? hdd)
      exact q v dd H' (s4.trans s) a ⟨fun _=>by omega,fun _=>by omega,fun _=>this.1,fun _=>by omega,fun _=>by omega⟩ this.2
    refine iteN (decide_eq_false (fun z=>hw4 (V.int.inj z))) ?_
    obtain ⟨m,hm,hmr⟩:∃ m:Int,atI [V.int r,.int l,.ref L,.ref Cc,v4,v5] (which - 4)=some (.int m)∧(2≤m∧m≤8∧((which=4∧m=r)∨(which=5∧m=l))):=by
      rcases (by omega:which=4∨which=5) with rfl | rfl
      · exact ⟨r,qal 0 rfl,r2,r8,.inl ⟨rfl,rfl⟩⟩
      · exact ⟨l,qal 1 rfl,l2,l8,.inr ⟨rfl,rfl⟩⟩
    refine ⟨_,rfl,_,rfl,_,_,rfl,rfl,p,_,_,_,rfl,rfl,SqL.of (yat _ _ _ _ hp),hm,?_⟩
    refine gn ?_
    dsimp only
    obtain ⟨i0,i1⟩:=ix (k:=11) (by decide)
    obtain ⟨dd,hdd⟩:∃ dd,(odd4 m)[(dg % 11).toNat]?=some dd:=⟨_,List.getElem?_eq_getElem (by show (dg % 11).toNat < 11; omega)⟩
    have im:At (qba H Tl) (.int m) (.int m):=.int _
    show tRet _ _ [some (.ref p),some (.int which),some (.int dg),none,some (.int m)] _
    refine yez (L:=Tl) hTl (d:=dd) (ygb (i:=dg % 11) (ds:=odd4 m) ?_ (fun H2 s2 Q2 k2=>md (by decide) rfl k2) i0 (by show dg % 11 < (11:Int); omega) hdd) fun v H' s a=>?_
    · unfold odd4
      refine qga ?_
      repeat' (first | exact qe9 | exact qfm | refine qcj ?_ ?_ | refine qgg ?_ | exact qcg | exact ydv | exact ybm | exact qcf | exact qda | exact qay | refine yag ?_ ?_ | refine yck ?_ | refine qax ?_ | exact yct rfl im | exact qk0 rfl)
    · have:=odd4_bad hmr.1 hmr.2.1 dd (List.mem_of_getElem? hdd)
      refine q v dd H' s a ⟨fun _=>by omega,fun _=>by omega,fun _=>by omega,fun h=>?_,fun h=>?_⟩ this.2.2
      · rcases hmr.2.2 with ⟨_,rfl⟩ | ⟨h',_⟩
        · exact ⟨this.1,this.2.1⟩
        · omega
      · rcases hmr.2.2 with ⟨h',_⟩ | ⟨_,rfl⟩
        · omega
        · exact ⟨this.1,this.2.1⟩
end
end Mh
set_option Elab.async false
set_option linter.all false
set_option maxRecDepth 100000
set_option maxHeartbeats 4000000
namespace Mh
open PySem L2 PyProof.Rows Mx
theorem dig_drop {ds a b:List Int} (h:Dig ds (a++b)):Dig (ds.drop a.length) b:=by
  obtain ⟨h1,h2⟩:=h
  rw [List.length_append] at h1
  refine ⟨by rw [List.length_drop]; omega,fun i d z g1 g2=>?_⟩
  rw [List.getElem?_drop] at g1
  exact h2 (a.length + i) d z g1 (by rw [List.getElem?_append_right (by omega)]; simpa using g2)
def dgR:List Int:=[7,7,6,6,990,1,2]++dg16
theorem qfl {H:Hp} {v:V} {zs:List Int} (h:At H v (.list (zs.map PyData.int))):∃ a,v=.ref a∧H a=some (.lst (zs.map V.int)):=by
  obtain ⟨a,us,rfl,ha,hu⟩:=h.lstEq
  have e:=qgh hu (by simp [qcc])
  refine ⟨a,rfl,?_⟩
  rw [ha,e,List.map_map,List.map_map]
  rfl
theorem AllX.put {H:Hp}:∀ {vs:List V} {ds:List PyData} {i:Nat} {v:V} {d:PyData},AllX H vs ds→AtX H v d→AllX H (vs.set i v) (ds.set i d)
  | _,_,_,_,_,.nil,_=>.nil
  | _,_,0,_,_,.cons _ r,x=>.cons x r
  | _,_,i + 1,_,_,.cons a r,x=>.cons a (AllX.put (i:=i) r x)
section
variable {K:PySem.W.Frag} {σ:L2.St} {H:Hp} {te tn:TE} {ds:List PyData} {L:List Addr}
theorem qkf {d:PyData} {g:TG} {tb rest:TS} {D:Ends} (h:Lay [] te σ d H) (k:∀ v H',Same H H'→At H' v d→tFor (iList K (tC v)) g tb { D with nx:=rest D } σ H'):tSeq (tFor (iList K te) g tb) rest D σ H:=
  h (fun b hb=>by cases hb) H (Same.refl H) _ fun v H' s a=>k v H' s (a.same (yat _ _))
theorem yh8 {n:Nat} (h1:Lay L te σ (.list ds) H) (hn:∀ H1,Same H H1→∀ Q:VK,Q (.int n) H1→tn σ H1 Q) (hm:n≤1000) (z:ds.length * n≤1000):Lay L (tOp rRep te tn) σ (.list (List.replicate n ds).flatten) H:=fun hL H1 s Q k=>
  h1 hL H1 s _ fun v H2 s2 a2=>hn H2 (s.trans s2) _ (by
    obtain ⟨a,vs,rfl,ha,hw⟩:=a2.lstEq
    refine ⟨a,n,vs,rfl,rfl,yat _ _ _ _ ha,by omega,by omega,by rw [hw.length,Int.toNat_natCast]; exact Nat.le_trans z (by decide),fun p hp=>k _ _ (s2.upd hp) ?_⟩
    rw [Int.toNat_natCast]
    exact yen hL (s.trans s2) hp (yfn hw n))
theorem yi7 {i j:Nat} {r l:Int} (h1:σ[i]?=some (some (.int r))) (h2:σ[j]?=some (some (.int l))) (c:CMul r l):Lay L (tOp (rI CMul fun i j=>V.int (i * j)) (tVar i) (tVar j)) σ (.int (r * l)) H:=fun hL H1 s Q k=>⟨_,h1,_,h2,_,_,rfl,rfl,c,k _ H1 (Same.refl H1) (.int _)⟩
end
def hdL (hs:List Hm):PyData:=.list (hs.map hmD)
def csD (n:Nat):PyData:=.list ((csn n).map PyData.int)
def six (r l:Int) (n:Nat) (hs:List Hm):List PyData:=[.int r,.int l,hdL hs,csD n,.list [.int 0],.list [.int (l - 1)]]
theorem yhg {n:Nat} (h:1≤n):(csn n).length=n:=by unfold csn; simp; omega
theorem ygj (n:Nat):bits (csn n):=fun c hc=>by
  unfold csn at hc
  rcases List.mem_append.mp hc with h | h
  · exact ⟨false,(List.eq_of_mem_replicate h)⟩
  · exact ⟨true,List.mem_singleton.mp h⟩
theorem cs_cont {n:Nat} (h:1≤n):ydz (n:Int) (csD n)=true:=by
  show (decide ((((csn n).map PyData.int).length:Int)=n) && (((csn n).map PyData.int).map bitD).all id)=true
  rw [decide_eq_true (by rw [List.length_map,yhg h]),Bool.true_and,List.all_eq_true]
  intro b hb
  obtain ⟨x,hx,rfl⟩:=List.mem_map.mp hb
  obtain ⟨c,hc,rfl⟩:=List.mem_map.mp hx
  obtain ⟨b,rfl⟩:=ygj n c hc
  cases b <;> decide
theorem yke {r:Int} (h1:1≤r) (h2:r≤8):cntD (.int r)=true:=decide_eq_true ⟨h1,h2⟩
theorem qkr {x n:Int} (h1:0≤x) (h2:x < n):sprB n (.list [.int x])=true:=by
  show (true && (decide ([x].Pairwise (· < ·)) && (decide (0≤x∧x < n) && true)))=true
  rw [decide_eq_true (List.pairwise_singleton _ _),decide_eq_true ⟨h1,h2⟩]
  rfl
theorem mem_yes {n:Nat} {dh:PyData} (h1:1≤n) (h2:n≤64) (hc:∀ c∈ya7 dh,c < (n:Int)):qcp (.int (n:Int)) dh (csD n)=true:=by
  unfold qcp
  rw [show yhf (.int (n:Int))=true from decide_eq_true ⟨by omega,by omega⟩]
  show (decide (∀ c∈ya7 dh,c < (n:Int)) && ydz (n:Int) (csD n))=true
  rw [decide_eq_true hc,cs_cont h1]
  rfl
theorem qgn {d0 d1 dh dc d4 d5:PyData} (h:qao dh=none):qdd d0 d1 dh dc d4 d5=qgo d0 d1 dh dc d4 d5:=by unfold qdd; rw [h]
theorem yih {d0 d1 dh dc d4 d5:PyData} (h:qao dh=none) (h2:¬ ((cntD d0 && cntD d1)=true∧qcp (.int (intD d0 * intD d1)) dh dc=true)):qdd d0 d1 dh dc d4 d5="memory":=by
  rw [qgn h]; unfold qgo; rw [if_neg h2]
theorem qil {d0 d1 dh dc d4 d5:PyData} (h:qao dh=none) (h2:(cntD d0 && cntD d1)=true∧qcp (.int (intD d0 * intD d1)) dh dc=true):qdd d0 d1 dh dc d4 d5=if (sprB (intD d0) d4 && sprB (intD d1) d5)=true then "made" else "spares":=by
  rw [qgn h]; unfold qgo; rw [if_pos h2]; split <;> rfl
theorem yku:∀ n:Nat,n < 64→qao (.list [.tuple [.str "stuck",.int (n:Int),.int 0]])=none∧ya7 (.list [.tuple [.str "stuck",.int (n:Int),.int 0]])=[(n:Int)]:=by decide +kernel
structure Good (r l:Int) (n:Nat) (hs:List Hm):Prop where
  r2:2≤r
  r8:r≤8
  l2:2≤l
  l8:l≤8
  hn:r * l=(n:Int)
  n4:4≤n
  n64:n≤64
  nb:qao (hdL hs)=none
  ir:∀ c∈ya7 (hdL hs),c < (n:Int)
theorem Good.cm {r l:Int} {n:Nat} {hs:List Hm} (g:Good r l n hs):(cntD (.int r) && cntD (.int l))=true∧qcp (.int (intD (.int r) * intD (.int l))) (hdL hs) (csD n)=true:=by
  refine ⟨by rw [yke (by have:=g.r2; omega) g.r8,yke (by have:=g.l2; omega) g.l8]; rfl,?_⟩
  show qcp (.int (r * l)) _ _=true
  rw [g.hn]
  exact mem_yes (by have:=g.n4; omega) g.n64 g.ir
theorem Good.made {r l:Int} {n:Nat} {hs:List Hm} (g:Good r l n hs):qdd (.int r) (.int l) (hdL hs) (csD n) (.list [.int 0]) (.list [.int (l - 1)])="made":=by
  rw [qil g.nb g.cm,show sprB (intD (.int r)) (.list [.int 0])=true from qkr (by decide) (by show (0:Int) < r; have:=g.r2; omega),show sprB (intD (.int l)) (.list [.int (l - 1)])=true from qkr (by have:=g.l2; omega) (by show l - 1 < l; omega)]
  rfl
theorem Good.far {r l:Int} {n:Nat} {hs:List Hm} (g:Good r l n hs) (h:n < 64) {d4 d5:PyData}:qdd (.int r) (.int l) (.list [.tuple [.str "stuck",.int (r * l),.int 0]]) (csD n) d4 d5="memory":=by
  rw [g.hn]
  obtain ⟨h1,h2⟩:=yku n h
  refine yih h1 fun z=>?_
  have z2:=z.2
  have e:intD (.int r) * intD (.int l)=(n:Int):=g.hn
  rw [e] at z2
  unfold qcp at z2
  rw [Bool.and_eq_true,Bool.and_eq_true] at z2
  have:=of_decide_eq_true z2.2.1 (n:Int) (by rw [h2]; exact List.mem_singleton.mpr rfl)
  exact absurd this (by show ¬ (n:Int) < (n:Int); omega)
structure Bent (r l:Int) (n:Nat) (hs:List Hm) (bs:List Int) (es:List PyData):Prop where
  len:es.length=6
  at_:∀ (j:Nat) d,es[j]?=some d→Sm 4 2000 d∧((j:Int)∈bs→BadD r l n j d)∧((j:Int)∉bs→(six r l n hs)[j]?=some d)
theorem Bent.put {r l:Int} {n:Nat} {hs:List Hm} {bs:List Int} {es:List PyData} (b:Bent r l n hs bs es) {k:Nat} {d:PyData} (hk:k < 6) (hd:BadD r l n k d) (hs':Sm 4 2000 d):Bent r l n hs (bs++[(k:Int)]) (es.set k d):=by
  refine ⟨by rw [List.length_set]; exact b.len,fun j x hx=>?_⟩
  by_cases e:k=j
  · subst e
    rw [List.getElem?_set_self (by rw [b.len]; exact hk)] at hx
    cases hx
    exact ⟨hs',fun _=>hd,fun z=>absurd (List.mem_append.mpr (.inr (List.mem_singleton.mpr rfl))) z⟩
  · rw [List.getElem?_set_ne e] at hx
    obtain ⟨h1,h2,h3⟩:=b.at_ j x hx
    refine ⟨h1,fun z=>?_,fun z=>h3 fun y=>z (List.mem_append.mpr (.inl y))⟩
    rcases List.mem_append.mp z with z | z
    · exact h2 z
    · have:=List.mem_singleton.mp z
      omega
theorem Bent.is {r l:Int} {n:Nat} {hs:List Hm} {bs:List Int} {e0 e1 e2 e3 e4 e5:PyData} (b:Bent r l n hs bs [e0,e1,e2,e3,e4,e5]) (g:Good r l n hs) (hb:∃ x∈bs,0≤x∧x < 6) :
    qdd e0 e1 e2 e3 e4 e5=dueS bs∧(∀ ds,e4=.list ds→ds.length≤60)∧(∀ ds,e5=.list ds→ds.length≤60):=by
  obtain ⟨_,b0,c0⟩:=b.at_ 0 e0 rfl
  obtain ⟨_,b1,c1⟩:=b.at_ 1 e1 rfl
  obtain ⟨_,b2,c2⟩:=b.at_ 2 e2 rfl
  obtain ⟨_,b3,c3⟩:=b.at_ 3 e3 rfl
  obtain ⟨_,b4,c4⟩:=b.at_ 4 e4 rfl
  obtain ⟨_,b5,c5⟩:=b.at_ 5 e5 rfl
  have g0:(0:Int)∉bs→PyData.int r=e0:=fun h=>Option.some.inj (c0 h)
  have g1:(1:Int)∉bs→PyData.int l=e1:=fun h=>Option.some.inj (c1 h)
  have g2:(2:Int)∉bs→hdL hs=e2:=fun h=>Option.some.inj (c2 h)
  have g3:(3:Int)∉bs→csD n=e3:=fun h=>Option.some.inj (c3 h)
  have g4:(4:Int)∉bs→PyData.list [.int 0]=e4:=fun h=>Option.some.inj (c4 h)
  have g5:(5:Int)∉bs→PyData.list [.int (l - 1)]=e5:=fun h=>Option.some.inj (c5 h)
  have w4:(4:Int)∈bs→sprB r e4=false∧lenD e4≤60:=fun h=>(b4 h).2.2.2.1 rfl
  have w5:(5:Int)∈bs→sprB l e5=false∧lenD e5≤60:=fun h=>(b5 h).2.2.2.2 rfl
  refine ⟨?_,fun ds e=>?_,fun ds e=>?_⟩
  · unfold dueS
    by_cases h2:(2:Int)∈bs
    · rw [if_pos h2]
      have:=(b2 h2).2.1 rfl
      unfold qdd
      cases hx:qao e2 with
      | none=>rw [hx] at this; cases this
      | some z=>rfl
    rw [if_neg h2]
    have e2':=g2 h2
    subst e2'
    by_cases hm:(0:Int)∈bs∨(1:Int)∈bs∨(3:Int)∈bs
    · rw [if_pos hm]
      refine yih g.nb fun z=>?_
      rw [Bool.and_eq_true] at z
      by_cases h0:(0:Int)∈bs
      · have:=(b0 h0).1 (by decide)
        rw [this] at z; exact absurd z.1.1 (by simp)
      by_cases h1:(1:Int)∈bs
      · have:=(b1 h1).1 (by decide)
        rw [this] at z; exact absurd z.1.2 (by simp)
      have h3:(3:Int)∈bs:=by rcases hm with h | h | h <;> first | exact absurd h h0 | exact absurd h h1 | exact h
      have e0':=g0 h0
      have e1':=g1 h1
      subst e0' e1'
      have:=(b3 h3).2.2.1 rfl
      have z2:=z.2
      have e:intD (.int r) * intD (.int l)=(n:Int):=g.hn
      rw [e] at z2
      unfold qcp at z2
      rw [Bool.and_eq_true,Bool.and_eq_true] at z2
      have z3:ydz (n:Int) e3=true:=z2.2.2
      rw [this] at z3; cases z3
    · rw [if_neg hm]
      have h0:(0:Int)∉bs:=fun h=>hm (.inl h)
      have h1:(1:Int)∉bs:=fun h=>hm (.inr (.inl h))
      have h3:(3:Int)∉bs:=fun h=>hm (.inr (.inr h))
      have e0':=g0 h0
      have e1':=g1 h1
      have e3':=g3 h3
      subst e0' e1' e3'
      rw [qil g.nb g.cm]
      have:(sprB (intD (.int r)) e4 && sprB (intD (.int l)) e5)=false:=by
        by_cases h4:(4:Int)∈bs
        · rw [show sprB (intD (.int r)) e4=false from (w4 h4).1]; rfl
        · have h5:(5:Int)∈bs:=by
            obtain ⟨x,hx,x0,x6⟩:=hb
            rcases (by omega:x=0∨x=1∨x=2∨x=3∨x=4∨x=5) with rfl | rfl | rfl | rfl | rfl | rfl
            · exact absurd hx h0
            · exact absurd hx h1
            · exact absurd hx h2
            · exact absurd hx h3
            · exact absurd hx h4
            · exact hx
          rw [show sprB (intD (.int l)) e5=false from (w5 h5).1,Bool.and_false]
      rw [this]
      rfl
  · by_cases h:(4:Int)∈bs
    · have:=(w4 h).2; rw [e] at this; exact this
    · have:=g4 h; rw [e] at this; cases this; simp
  · by_cases h:(5:Int)∈bs
    · have:=(w5 h).2; rw [e] at this; exact this
    · have:=g5 h; rw [e] at this; cases this; simp
def addrs (x:Int):List PyData:=[.int (-1),.int x,.bool true,.none,.str "0",.list [.int 0],.int (10 ^ (30:Int).toNat)]
def yii:List PyData:=[.int 2,.int (-1),.bool true,.none,.str "0",.list [.int 0],.bool false]
theorem yjx {n:Nat} (hn:n≤64):∀ d∈addrs (n:Int),yem n d=false:=by
  intro d hd
  simp only [addrs,List.mem_cons,List.not_mem_nil,or_false] at hd
  rcases hd with rfl | rfl | rfl | rfl | rfl | rfl | rfl
  · exact decide_eq_false (fun z=>by omega)
  · exact decide_eq_false (fun z=>by omega)
  · rfl
  · rfl
  · rfl
  · rfl
  · refine decide_eq_false (fun z=>?_)
    have h1:(10:Int) ^ (30:Int).toNat > 64:=by decide
    omega
theorem qiw:∀ d∈yii,bitD d=false:=by
  intro d hd
  simp only [yii,List.mem_cons,List.not_mem_nil,or_false] at hd
  rcases hd with rfl | rfl | rfl | rfl | rfl | rfl | rfl <;> first | rfl | decide
end Mh
set_option Elab.async false
set_option linter.all false
set_option maxRecDepth 100000
set_option maxHeartbeats 4000000
namespace Mh
open PySem L2 PyProof.Rows Mx
theorem csD_sm {n:Nat} (h1:1≤n) (h:n≤64):Sm 4 2000 (csD n):=
  (Sm.list (n:=64) (D:=0) (B:=0) (fun x hx=>by
    obtain ⟨c,hc,rfl⟩:=List.mem_map.mp hx
    obtain ⟨b,rfl⟩:=ygj n c hc
    exact qhb (by cases b <;> decide)) (by rw [List.length_map,yhg h1]; exact h)).mono
theorem six_bent {r l:Int} {n:Nat} {hs:List Hm} {S:List Int} (g:Good r l n hs) (ok:okHs hs S):Bent r l n hs [] (six r l n hs):=by
  have one:∀ x:Int,0≤x∧x < 64→Sm 4 2000 (.list [.int x]):=fun x hx=>(Sm.list (n:=1) (D:=0) (B:=0) (fun y hy=>by rw [List.mem_singleton.mp hy]; exact qhb hx) (by simp)).mono
  have:=g.r2; have:=g.r8; have:=g.l2; have:=g.l8; have:=g.n4
  refine ⟨rfl,fun j d hd=>⟨?_,fun h=>(by cases h),fun _=>hd⟩⟩
  have hm:=List.mem_of_getElem? hd
  simp only [six,List.mem_cons,List.not_mem_nil,or_false] at hm
  rcases hm with rfl | rfl | rfl | rfl | rfl | rfl
  · exact (qhb ⟨by omega,by omega⟩).mono
  · exact (qhb ⟨by omega,by omega⟩).mono
  · exact (hs_sm ok).mono
  · exact csD_sm (by omega) g.n64
  · exact one 0 (by decide)
  · exact one _ ⟨by omega,by omega⟩
theorem yjs {H:Hp} {vs:List V} {d0 d1 d2 d3 d4 d5:PyData} (h:AllX H vs [d0,d1,d2,d3,d4,d5]):∃ v0 v1 v2 v3 v4 v5,vs=[v0,v1,v2,v3,v4,v5]∧AtX H v0 d0∧AtX H v1 d1∧AtX H v2 d2∧AtX H v3 d3∧AtX H v4 d4∧AtX H v5 d5:=by
  cases h with | cons a0 h=>cases h with | cons a1 h=>cases h with | cons a2 h=>cases h with | cons a3 h=>cases h with | cons a4 h=>cases h with | cons a5 h=>cases h with | nil=>exact ⟨_,_,_,_,_,_,rfl,a0,a1,a2,a3,a4,a5⟩
theorem six_of {es:List PyData} (h:es.length=6):∃ e0 e1 e2 e3 e4 e5,es=[e0,e1,e2,e3,e4,e5]:=by
  match es,h with
  | [a,b,c,d,e,f],_=>exact ⟨a,b,c,d,e,f,rfl⟩
theorem qee {α:Type} (x:α):∀ k:Nat,(List.replicate k [x]).flatten=List.replicate k x
  | 0=>rfl
  | k + 1=>by rw [List.replicate_succ,List.flatten_cons,qee x k]; rfl
theorem yja {H:Hp} {v:V} {i:Int} (h:AtX H v (.int i)):v=.int i:=by
  rcases h with h | ⟨e,_⟩
  · exact h.intEq
  · cases e
theorem qge {H:Hp} {v:V} {ds:List PyData} (h:AtX H v (.list ds)):At H v (.list ds):=by
  rcases h with h | ⟨e,_⟩
  · exact h
  · cases e
theorem yiq {sp:Sp} {te tb:TE} {r:R2} {E:XK} {σ:L2.St} {H:Hp} {Q:Bool→Hp→Prop} (h:te σ H fun v H1=>sp [v] H1 (fun x H2=>tb σ H2 fun y H3=>r x y H3 fun z H4=>∃ k,z=.bl k∧Q k H4) E):tTest (tOp r (yi8 sp [] E (yc8 te tNil)) tb) σ H Q:=h
theorem lkn_h {m d:Addr}:(fsN m d).lookup ("holds" : Str)=none:=by
  unfold fsN
  rw [List.lookup_cons,show (("holds" : Str) == "harmed")=false by decide +kernel,List.lookup_cons,show (("holds" : Str) == "spare")=false by decide +kernel,List.lookup_nil]
theorem spr_1 {x n:Int} (h1:0≤x) (h2:x < n):Spr [x] n:=⟨List.pairwise_singleton _ _,fun y hy=>by rw [List.mem_singleton.mp hy]; exact ⟨h1,h2⟩,by simp⟩
theorem ix6:∀ k:Nat,k < 6→ixN 6 (k:Int)=some k:=by decide +kernel
section
variable {P:Program} {w:World} {K:PySem.W.Frag} {mg:Str→Option Value} {base:Heap} {C N:Addr}
def yg2:Sp:=fun vs H Q _=>∃ c t:Int,vs=[.int c,.int t]∧0≤t∧t≤1000∧∀ H',Same H H'→Q (.bl true) H'
abbrev ybt:Stmt:=top 66
theorem yd6:FnScope ["_law_cell","_law_turn","_law_d","_law_rows","_law_lines","_law_harms_here","_law_parts","_law_bent_here","_law_thing","_law_which","_law_kept","_law_one","_law_held","_law_address","_law_way","_law_bit"] ["_law_cell","_law_turn"] (yab ybt):=⟨rfl,rfl,rfl,by decide +kernel,rfl,by decide +kernel,by decide +kernel⟩
theorem ykq (B:Bl mg) (cn:CN K N) (ygk:Has P w K mg base 1 "_law_digits" ["_law_cell","_law_turn","_law_sizes"] qgp) (qg2:Has P w K mg base 2 "_law_harms" ["_law_d","_law_size"] ygw) (qc6:Has P w K mg base 13 "_law_made" ["_law_parts"] yif) (yhw:Has P w K mg base 1 "_law_bent" ["_law_parts","_law_which","_law_d"] ykf) (yi2:Has P w K mg base 1 "_law_due" ["_law_bent_here"] sp_due)
    (qcq:Has P w K mg base 8 "_law_asked" ["_law_one","_law_way","_law_address","_law_bit"] (qhf C N)) (qfs:HasI P w K mg base N 11 "Mended" ["self","rows","lines","harms","contents","spare_rows","spare_lines"] (qd9 C N)) (hn_holds:HasM P w K mg base N 2 "holds" ["self"] (yf1 C N))
    (F:FnAt K mg "_law_right" ybt ["_law_cell","_law_turn"]):Has P w K mg base 14 "_law_right" ["_law_cell","_law_turn"] yg2:=by
  refine Has.ofQ F yd6 (fun vs H Q E h=>?_) (fun f cdv A outer s H vs Q E hr h=>?_)
  · obtain ⟨c,t,rfl,_⟩:=h
    rfl
  · obtain ⟨c,t,rfl,t0,t1,k⟩:=h
    have sc:=yd6
    refine ⟨_,(qai rfl (yad (qaw (i:=2) sc.nd rfl (Or.inl rfl) (yai ygk hr (yaf (qaa (pv 0)) (yaf (qaa (pv 1)) (ycw (qa3 ycg (qa3 ycg (yap (qan (qaa qac) (qan (qaa qac) (qan (qaa qac) (qan (qaa qac) (qan (qaa qac) (qan (qaa qac) (qan (qaa qac) qad)))))))) (yap (qan (qaa qac) qad))) (qa3 yig (yap (qan (qaa qac) (qan (qaa qac) (qan (qaa qac) (qan (qaa qac) (qan (qaa qac) qad)))))) (qaa qac))) qad)))))
      (yad (qaw (i:=3) sc.nd rfl (Or.inl rfl) (qa3 qdg (qaa qac) (ybu yaq (qaa (pv 2)) (qaa qac) (fun _ _=>rfl))))
      (yad (qaw (i:=4) sc.nd rfl (Or.inl rfl) (qa3 qdg (qaa qac) (ybu yaq (qaa (pv 2)) (qaa qac) (fun _ _=>rfl))))
      (yad (qaw (i:=5) sc.nd rfl (Or.inl rfl) (yai qg2 hr (qew (yg3 yda (qaa (pv 2)) (qbw qac) ycf) (ycw (qa3 ydb (qaa (pv 3)) (qaa (pv 4))) qad))))
      (yad (qaw (i:=6) sc.nd rfl (Or.inl rfl) (yap (yaf (qaa (pv 3)) (yaf (qaa (pv 4)) (yaf (qaa (pv 5)) (ycw (qa3 ycg (qa3 yig (yap (qan (qaa qac) qad)) (qa3 qff (qa3 ydb (qaa (pv 3)) (qaa (pv 4))) (qaa qac))) (yap (qan (qaa qac) qad))) (ycx (yap (qan (qaa qac) qad)) (ycx (yap (ycw (qa3 qff (qaa (pv 4)) (qaa qac)) qad)) qad))))))))
      (yad (ya2 (yav yf9 (yai qc6 hr (yaf (qaa (pv 6)) qad)) (qaa yan) (yah _))
        (qae (yao (qaa yc2)))
        qat)
      (yky (ya2 (QW.pt (qw_and (yav qg9 (qa3 ydb (qaa (pv 3)) (qaa (pv 4))) (qaa qac) (yah _)) (qi9 (yav yf9 (yai qc6 hr (ycw (qa3 ycg (qa3 ycg (yg3 yda (qaa (pv 6)) ycf (qbw qac)) (yap (ycx (yap (qdl (ycd (qan (qaa yan) (ycw (qa3 ydb (qaa (pv 3)) (qaa (pv 4))) (qan (qaa qac) qad)))) qad)) qad))) (yg3 yda (qaa (pv 6)) (qbw qac) ycf)) qad)) (qaa yan) (yah _)))))
        (qae (yao (qaa yc2)))
        qat)
      (yad (qaw (i:=7) sc.nd rfl (Or.inl rfl) (qa3 ycg (yap (qew (ybu yaq (qaa (pv 2)) (qaa qac) (fun _ _=>rfl)) qad)) (qa3 yig (yap (qew (ybu yaq (qaa (pv 2)) (qaa qac) (fun _ _=>rfl)) qad)) (ybu yaq (qaa (pv 2)) (qaa qac) (fun _ _=>rfl)))))
      (yad (qaw (i:=8) sc.nd rfl (Or.inl rfl) (qbi qbs rfl (B.of rfl) boot_list (yaf (qaa (pv 6)) qad)))
      (yad (qdw PassesOwn.never rfl (qfb (qaa (pv 7))) (qaq (i:=9) sc.nd rfl (Or.inl rfl))
        (qae (qs_asg (yai yhw hr (yaf (qaa (pv 6)) (yaf (qaa (pv 9)) (qew (ybu yaq (qaa (pv 2)) (qaa qac) (fun _ _=>rfl)) qad)))) (qjg (pv 8) (pv 9) yf8))))
      (yad (qaw (i:=10) sc.nd rfl (Or.inl rfl) (qa8 (ye7 hr) rfl (B.of rfl) boot_repr (yaf (qaa (pv 8)) qad)))
      (yad (ya2 (QW.pt (yd2 (yav yf9 (yai qc6 hr (yaf (qaa (pv 8)) qad)) (yai yi2 hr (yaf (qaa (pv 7)) qad)) (yah _)) (qcw (yav yf9 (qa8 (ye7 hr) rfl (B.of rfl) boot_repr (yaf (qaa (pv 8)) qad)) (qaa (pv 10)) (yah _)))))
        (qae (yao (qaa yc2)))
        qat)
      (yad (qaw (i:=11) sc.nd rfl (Or.inl rfl) (yh3 qfs hr (yaf (qaa (pv 3)) (yaf (qaa (pv 4)) (yaf (qaa (pv 5)) (qew (ybu yaq (qaa (pv 6)) (qaa qac) (fun _ _=>rfl)) (ycx (yap (qan (qaa qac) qad)) (ycx (yap (ycw (qa3 qff (qaa (pv 4)) (qaa qac)) qad)) qad))))))))
      (yad (qaw (i:=12) sc.nd rfl (Or.inl rfl) (qe5 cn.c hn_holds hr (qaa (pv 11))))
      (yad (qdw PassesOwn.never rfl (qfb (yap (qdk (qaa (qht yfl qac)) (ycw (qa3 ydb (qaa (pv 3)) (qaa (pv 4))) (qan (qaa yc2) (qan (qaa qdc) (qan (qaa yan) (ycx (yap (qan (qaa qac) qad)) (ycw (qa3 qip (qaa qac) (qaa qac)) qad))))))))) (qaq (i:=13) sc.nd rfl (Or.inl rfl))
        (qae (qdw PassesOwn.never rfl (qkg (yfj rfl (B.of rfl) (yaa qac yac))) (qaq (i:=14) sc.nd rfl (Or.inl rfl))
          (qae (ya2 (QW.pt (yd2 (yav yf9 (yai qcq hr (yaf (qaa (pv 11)) (yaf (qaa (pv 14)) (yaf (qaa (pv 13)) (qan (qaa qac) qad))))) (qaa yan) (yah _)) (qcw (yav yf9 (yai qcq hr (yaf (qaa (pv 11)) (qan (qaa qac) (yaf (qaa (pv 13)) (qan (qaa qac) qad))))) (qaa yan) (yah _)))))
            (qae (yao (qaa yc2)))
            qat)))))
      (yad (qdw PassesOwn.never rfl (qfb (yap (qan (qaa qac) (qdk (qaa (qht yfl qac)) (qan (qaa yc2) (qan (qaa qdc) (qan (qaa yan) (ycx (yap (qan (qaa qac) qad)) (qan (qaa yc2) qad))))))))) (qaq (i:=15) sc.nd rfl (Or.inl rfl))
        (qae (ya2 (QW.pt (yd2 (yav yf9 (yai qcq hr (yaf (qaa (pv 11)) (qan (qaa qac) (qan (qaa qac) (yaf (qaa (pv 15)) qad))))) (qaa yan) (yah _)) (qcw (yav yf9 (yai qcq hr (yaf (qaa (pv 11)) (qan (qaa qac) (ycw (qa3 qff (qa3 ydb (qaa (pv 3)) (qaa (pv 4))) (qaa qac)) (yaf (qaa (pv 15)) qad))))) (qaa yan) (yah _)))))
          (qae (yao (qaa yc2)))
          qat)))
      (qae (yao (qaa (yax (yar (qkt hr) (QE.of (qe5 cn.c hn_holds hr (qaa (pv 11)))) (pv 12) (yah _)) (qbg (yar ycz (qak qc6 hr (yaa (pv 6) yac)) yan (yah _)))))))))))))))))))))))),?_⟩
    have z1:1≤sizeLine:=by decide
    -- the digits
    refine ⟨_,rfl,_,rfl,yjy (L:=[]) (d:=.list (dgR.map PyData.int)) ?_ (fun b hb=>by cases hb) fun vz H1 s1 a1=>?_⟩
    · have:(dgR.map PyData.int)=([7,7,6,6,990,1,2]:List Int).map PyData.int++([4]:List Int).map PyData.int++(List.replicate 3 (([20,64,64,2,2]:List Int).map PyData.int)).flatten:=rfl
      rw [this]
      refine qcs (qcs (qax ?_) (qax ?_) (by decide)) (qks (n:=3) (qax ?_) (by decide) (by decide)) (by decide)
      all_goals repeat' (first | exact ybm | exact qay | refine yag ?_ ?_)
    obtain ⟨pz,rfl,hz⟩:=qfl (a1.same (yat _ _))
    refine ⟨c,t,pz,dgR,rfl,hz,by decide,by decide,by omega,by omega,fun dp ds H2 s2 ndp hdp hD=>?_⟩
    have sH2:=s1.trans s2
    obtain ⟨e0,g0,b0,b0'⟩:=hD.get (i:=0) (z:=7) rfl
    obtain ⟨e1,g1,b1,b1'⟩:=hD.get (i:=1) (z:=7) rfl
    obtain ⟨e2,g2,b2,b2'⟩:=hD.get (i:=2) (z:=6) rfl
    obtain ⟨e3,g3,b3,b3'⟩:=hD.get (i:=3) (z:=6) rfl
    obtain ⟨e4,g4,b4,b4'⟩:=hD.get (i:=4) (z:=990) rfl
    obtain ⟨e6,g6,b6,b6'⟩:=hD.get (i:=6) (z:=2) rfl
    have hD16:Dig (ds.drop 7) dg16:=dig_drop (a:=[7,7,6,6,990,1,2]) (b:=dg16) hD
    refine ⟨_,rfl,dp,_,_,_,rfl,rfl,SqL.of hdp,qal 0 (qd4 g0),_,_,rfl,rfl,?_⟩
    obtain ⟨r,hr0,r2,r8⟩:∃ r,2 + e0=r∧2≤r∧r≤8:=⟨_,rfl,by omega,by omega⟩
    show yfw 3 (V.int (2 + e0)) _ _ _
    rw [hr0]
    refine gn ?_
    dsimp only
    refine ⟨_,rfl,dp,_,_,_,rfl,rfl,SqL.of hdp,qal 1 (qd4 g1),_,_,rfl,rfl,?_⟩
    obtain ⟨l,hl0,l2,l8⟩:∃ l,2 + e1=l∧2≤l∧l≤8:=⟨_,rfl,by omega,by omega⟩
    show yfw 4 (V.int (2 + e1)) _ _ _
    rw [hl0]
    refine gn ?_
    dsimp only
    have crl:=cmul8 (r:=r) (l:=l) (by omega) r8 (by omega) l8
    obtain ⟨n,hn,n4,n64⟩:∃ n:Nat,r * l=(n:Int)∧4≤n∧n≤64:=by
      have h1:r * l≤8 * 8:=Int.mul_le_mul r8 l8 (by omega) (by omega)
      have h2:2 * 2≤r * l:=Int.mul_le_mul r2 l2 (by omega) (by omega)
      exact ⟨(r * l).toNat,by omega,by omega,by omega⟩
    -- the harms
    refine ⟨_,rfl,7,rfl,dp,_,rfl,SqL.of hdp,fun q1 w1=>?_⟩
    rw [show (7:Int)=((7:Nat):Int) from rfl,qe2,← List.map_drop]
    generalize hG3:upd H2 q1 _=H3
    have s3:Same H2 H3:=by rw [← hG3]; exact (Same.refl H2).upd w1
    have f3:H3 q1=some (.lst ((ds.drop 7).map V.int)):=by rw [← hG3]; exact qab
    clear hG3
    refine ⟨_,rfl,_,rfl,_,_,rfl,rfl,crl,q1,_,(n:Int),?_,f3,hD16,by omega,by omega,fun L us hs S H4 s4 nL hL hv ok hgood=>?_⟩
    · show [V.ref q1,V.int (r * l)]=_
      rw [hn]
    have ir:InR hs n:=fun h hh c hc=>(hgood h hh).2 c hc
    obtain ⟨aL,hnb,hca⟩:=hs_good hL hv ok
    have gd:Good r l n hs:=⟨r2,r8,l2,l8,hn,n4,n64,hnb,by
      show ∀ c∈ya7 (.list (hs.map hmD)),c < (n:Int)
      rw [hca]
      intro c hc
      obtain ⟨h,hh,hc⟩:=List.mem_flatMap.mp hc
      exact (ir h hh c hc).2⟩
    have sH4:=(sH2.trans s3).trans s4
    have hdp4:=(s3.trans s4) _ _ hdp
    refine gn ?_
    dsimp only
    -- the parts
    have en1:r * l - 1=((n - 1:Nat):Int):=by omega
    refine qh0 (d:=.list (six r l n hs)) ?_ fun vp H5 s5 a5=>?_
    · unfold six csD hdL
      refine qax (yag (yct rfl (.int _)) (yag (yct rfl (.int _)) (yag (yct rfl (hid0 aL)) (yag ?_ (yag (qax (yag ybm qay)) (yag (qax (yag (qk0 rfl) qay)) qay))))))
      have e:(csn n).map PyData.int=(List.replicate (n - 1) [PyData.int 0]).flatten++[PyData.int 1]:=by
        unfold csn; rw [List.map_append,List.map_replicate,qee]; rfl
      rw [e]
      refine qcs (yh8 (n:=n - 1) (qax (yag ybm qay)) (fun H1 s1 Q1 k1=>⟨_,rfl,_,rfl,_,_,rfl,rfl,crl,_,_,rfl,rfl,?_⟩) (by omega) (by simp; omega)) (qax (yag ybm qay)) (by rw [qee]; simp; omega)
      show Q1 (.int (r * l - 1)) H1
      rw [en1]
      exact k1
    obtain ⟨p,vs,rfl,hp,hw⟩:=a5.lstEq
    obtain ⟨v0,v1,v2,v3,v4,v5,rfl,x0,x1,x2,x3,x4,x5⟩:=yjs (AtAll.allX hw)
    have ev0:=yja x0
    have ev1:=yja x1
    subst ev0 ev1
    obtain ⟨Lq,rfl⟩:∃ a,v2=.ref a:=by obtain ⟨a,_,e,_⟩:=(qge x2).lstEq; exact ⟨a,e⟩
    obtain ⟨Cc,rfl,hC⟩:=qfl (qge x3)
    have len1:∀ {x:Int} ds,PyData.list [.int x]=.list ds→ds.length≤60:=fun ds e=>by cases e; simp
    refine ⟨_,rfl,p,.int r,.int l,.ref Lq,.ref Cc,v4,v5,_,_,_,_,_,_,rfl,hp,x0,x1,x2,x3,x4,x5,len1,len1,fun H6 s6=>⟨rfl,_,rfl,iteN (by rw [gd.made]; decide +kernel) ?_⟩⟩
    have sH6:=(sH4.trans s5).trans s6
    have hp6:=s6 _ _ hp
    have hdp6:=(s5.trans s6) _ _ hdp4
    -- a harm beyond
    refine ⟨fun σ' H7=>σ'=[some (.int c),some (.int t),some (.ref dp),some (.int r),some (.int l),some (.ref L),some (.ref p),none,none,none,none,none,none,none,none,none]∧Same H6 H7,?_,?_⟩
    · refine ⟨_,rfl,_,rfl,_,_,rfl,rfl,crl,_,_,rfl,rfl,_,rfl,?_⟩
      by_cases hlt:r * l < 64
      · refine iteD hlt (yiq ?_)
        refine yjy (L:=[]) (d:=.list [.int r,.int l,.list [.tuple [.str "stuck",.int (r * l),.int 0]],csD n,.list [.int 0],.list [.int (l - 1)]]) ?_ (fun b hb=>by cases hb) fun vq H7 s7 a7=>?_
        · have ap:At (qba H6 []) (.ref p) (.list (six r l n hs)):=hid0 (a5.same s6)
          show Lay _ _ _ (.list ((six r l n hs).take 2++[.list [.tuple [.str "stuck",.int (r * l),.int 0]]]++(six r l n hs).drop 3)) _
          refine qcs (qcs (lay_take (yct rfl ap) qiv) (qax (yag (qax (yag (yck (yag qcf (yag (yi7 rfl rfl crl) (yag ybm qay)))) qay)) qay)) (Nat.le_of_ble_eq_true rfl)) (qef (yct rfl ap) qiv) (Nat.le_of_ble_eq_true rfl)
        obtain ⟨pq,vs,rfl,hpq,hwq⟩:=(a7.same (yat _ _)).lstEq
        obtain ⟨w0,w1,w2,w3,w4,w5,rfl,y0,y1,y2,y3,y4,y5⟩:=yjs (AtAll.allX hwq)
        refine ⟨pq,w0,w1,w2,w3,w4,w5,_,_,_,_,_,_,rfl,hpq,y0,y1,y2,y3,y4,y5,len1,len1,fun H8 s8=>⟨rfl,_,rfl,iteN (by rw [gd.far (by omega)]; decide +kernel) ?_⟩⟩
        exact ⟨rfl,s7.trans s8⟩
      · refine qdi hlt (iteF ?_)
        exact ⟨rfl,Same.refl H6⟩
    rintro _ H7 ⟨rfl,s7⟩
    have hdp7:=s7 _ _ hdp6
    have hp7:=s7 _ _ hp6
    have sH7:=sH6.trans s7
    -- which are bent
    obtain ⟨k6,hk6⟩:∃ k:Nat,e6=(k:Int):=⟨e6.toNat,by omega⟩
    obtain ⟨bs,hbs,hb0,hbr⟩:∃ bs:List Int,bs.map PyData.int=[PyData.int e2]++(List.replicate k6 [PyData.int e3]).flatten∧(∃ x∈bs,0≤x∧x < 6)∧∀ x∈bs,0≤x∧x < 6:=by
      refine ⟨e2 :: List.replicate k6 e3,by rw [qee,List.map_cons,List.map_replicate]; rfl,⟨e2,List.mem_cons_self ..,b2,b2'⟩,fun x hx=>?_⟩
      rcases List.mem_cons.mp hx with rfl | hx
      · exact ⟨b2,b2'⟩
      · rw [List.eq_of_mem_replicate hx]; exact ⟨b3,b3'⟩
    refine qh0 (d:=.list (bs.map PyData.int)) ?_ fun vb H8 s8 a8=>?_
    · rw [hbs]
      refine qcs (qax (yag (yfg rfl (hid0' hdp7) (qal 2 (qd4 g2)) (.int _)) qay)) (yh8 (n:=k6) (qax (yag (yfg rfl (hid0' hdp7) (qal 3 (qd4 g3)) (.int _)) qay)) (fun H1 s1 Q1 k1=>⟨_,rfl,dp,_,_,_,rfl,rfl,SqL.of (s1 _ _ hdp7),qal 6 (qd4 g6),?_⟩) (by omega) (by simp; omega)) (by rw [qee]; simp; omega)
      rw [hk6]
      exact k1
    obtain ⟨bp,rfl,hbp⟩:=qfl a8
    have hp8:=s8 _ _ hp7
    refine ⟨_,rfl,p,_,rfl,.inl (SqL.of hp8),fun T nT=>?_⟩
    generalize hG9:upd H8 T _=H9
    have s9:Same H8 H9:=by rw [← hG9]; exact (Same.refl H8).upd nT
    have f9:H9 T=some (.lst [V.int r,.int l,.ref Lq,.ref Cc,v4,v5]):=by rw [← hG9]; exact qab
    clear hG9
    have s58:Same H5 H8:=(s6.trans s7).trans s8
    have s59:=s58.trans s9
    have nT5:H5 T=none:=s58.free nT
    have keepT:∀ {H':Hp},(∀ b o,b≠T→H9 b=some o→H' b=some o)→Same H5 (qba H' [T]):=fun kp b o e=>by
      have hb:b≠T:=fun z=>by rw [z,nT5] at e; cases e
      rw [qb9 (by simpa using hb)]
      exact kp b o hb (s59 _ _ e)
    have hbp9:=s9 _ _ hbp
    have hdp8:=s8 _ _ hdp7
    have neT:∀ {b:Addr} {o:HO},H8 b=some o→b≠T:=fun e z=>by rw [z,nT] at e; cases e
    have k9:=keepT (H':=H9) fun b o _ e=>e
    refine gn ?_
    dsimp only
    refine ⟨_,rfl,bp,rfl,⟨_,SqL.of hbp9⟩,ycr (xs:=bs.map V.int) (fun i σ H'=>∃ q9:Option V,∃ ws es,σ=[some (.int c),some (.int t),some (.ref dp),some (.int r),some (.int l),some (.ref L),some (.ref p),some (.ref bp),some (.ref T),q9,none,none,none,none,none,none]∧(∀ b o,b≠T→H9 b=some o→H' b=some o)∧H' T=some (.lst ws)∧AllX (qba H' [T]) ws es∧Bent r l n hs (bs.take i) es)
      ⟨none,_,_,rfl,fun b o _ e=>e,f9,.cons (x0.same k9) (.cons (x1.same k9) (.cons (x2.same k9) (.cons (x3.same k9) (.cons (x4.same k9) (.cons (x5.same k9) .nil))))),six_bent gd ok⟩ (fun i σ H' _ ⟨_,_,_,_,kp,_⟩=>SqL.of (kp _ _ (neT hbp) hbp9)) ?_ ?_⟩
    · rintro i x σ H10 hx ⟨q9,ws,es,rfl,kp,hT,ax,bt⟩
      obtain ⟨wh,hwh,rfl⟩:=qe6 hx
      obtain ⟨w0',w6'⟩:=hbr wh (List.mem_of_getElem? hwh)
      obtain ⟨kk,rfl⟩:∃ k:Nat,wh=(k:Int):=⟨wh.toNat,by omega⟩
      have kp':=keepT kp
      have wl:ws.length=6:=by rw [ax.length]; exact bt.len
      refine ⟨_,rfl,_,rfl,_,rfl,dp,_,_,_,rfl,rfl,SqL.of (kp _ _ (neT hdp8) (s9 _ _ hdp8)),qal 4 (qd4 g4),?_⟩
      refine ⟨[T],p,r,l,(kk:Int),e4,n,Lq,Cc,v4,v5,hs.map hmD,rfl,(fun b hb=>by rw [List.mem_singleton.mp hb,hT]; intro z; cases z),kp' _ _ hp,(qge x2).same kp',(by rw [List.length_map]; exact ok.len),?_,(qge x3).same kp',r2,r8,l2,l8,n4,n64,by omega,by omega,b4,fun v d H11 s11 av bad sm=>?_⟩
      · intro x hx
        obtain ⟨h,hh,rfl⟩:=List.mem_map.mp hx
        obtain ⟨ns,og⟩:=ok.ok h hh
        exact hm_sm og
      refine ⟨_,rfl,_,rfl,T,ws,(kk:Int),kk,rfl,rfl,s11 _ _ hT,(by rw [wl]; exact ix6 kk (by omega)),?_⟩
      refine ⟨_,_,es.set kk d,rfl,fun b o hb e=>(by rw [qaf hb]; exact s11 _ _ (kp b o hb e)),qab,?_,?_⟩
      · rw [qkn (List.mem_singleton.mpr rfl)]
        exact AllX.put (ax.same (qau s11 [T])) av
      · rw [List.take_add_one,hwh]
        exact bt.put (by omega) bad sm
    · rintro σ H10 ⟨q9,ws,es,rfl,kp,hT,ax,bt⟩
      rw [List.length_map,List.take_length] at bt
      have ax':AllX H10 ws es:=ax.same (yat _ _)
      have s810:Same H8 H10:=fun b o e=>kp b o (neT e) (s9 _ _ e)
      clear ax kp
      obtain ⟨f0,f1,f2,f3',f4,f5,rfl⟩:=six_of bt.len
      obtain ⟨u0,u1,u2,u3,u4,u5,rfl,y0,y1,y2,y3,y4,y5⟩:=yjs ax'
      obtain ⟨rp1,rp2,rp3⟩:=(Sm.list (n:=6) (D:=4) (B:=2000) (xs:=[f0,f1,f2,f3',f4,f5]) (fun x hx=>by
        obtain ⟨j,hj⟩:=List.getElem?_of_mem hx
        exact (bt.at_ j x hj).1) (by simp)).shown
      obtain ⟨hdue,m4,m5⟩:=bt.is gd hb0
      refine ⟨_,rfl,T,_,_,rfl,hT,(fun z=>by cases z),ax',rp1,rp2,rp3,?_⟩
      refine ⟨_,rfl,T,u0,u1,u2,u3,u4,u5,f0,f1,f2,f3',f4,f5,rfl,hT,y0,y1,y2,y3,y4,y5,m4,m5,fun H11 s11=>?_⟩
      refine ⟨_,rfl,bp,bs,rfl,s11 _ _ (s810 _ _ hbp),rfl,_,rfl,iteN (by rw [hdue]; simp) ?_⟩
      refine ⟨_,rfl,T,_,_,rfl,s11 _ _ hT,(fun z=>by cases z),ax'.same s11,rp1,rp2,rp3,_,rfl,rfl,_,rfl,iteN (by simp) ?_⟩
      have s811:=s810.trans s11
      clear hT ax' y0 y1 y2 y3 y4 y5 rp1 rp2 rp3 hdue m4 m5
      have s511:=s58.trans s811
      -- a good one
      refine ⟨_,rfl,_,rfl,_,rfl,_,rfl,p,_,_,_,rfl,rfl,SqL.of (s511 _ _ hp),qal 3 rfl,z1,fun R nR=>?_⟩
      generalize hG12:upd H11 R _=H12
      have s12:Same H11 H12:=by rw [← hG12]; exact (Same.refl H11).upd nR
      have f12:H12 R=some (.lst (([0]:List Int).map V.int)):=by rw [← hG12]; exact qab
      clear hG12
      refine ⟨_,rfl,_,_,rfl,rfl,z1,fun M nM=>?_⟩
      generalize hG13:upd H12 M _=H13
      have s13:Same H12 H13:=by rw [← hG13]; exact (Same.refl H12).upd nM
      have f13:H13 M=some (.lst (([l - 1]:List Int).map V.int)):=by rw [← hG13]; exact qab
      clear hG13
      intro x dx nx ndx nxd
      generalize hG14:upd (upd H13 dx (.own x)) x (.ins N dx [])=H14
      have s14:Same H13 H14:=by rw [← hG14]; exact ((Same.refl H13).upd (o:=.own x) ndx).upd (o:=.ins N dx []) (p:=x) (by rw [qaf (fun z=>nxd z.symm)]; exact nx)
      have f14:H14 x=some (.ins N dx []):=by rw [← hG14]; exact qab
      clear hG14
      have s1114:=(s12.trans s13).trans s14
      have s514:=s511.trans s1114
      have s414:=s5.trans s514
      have cl:=yhg (n:=n) (by omega)
      refine ⟨x,dx,L,Cc,R,M,r,l,us,hs,S,csn n,[0],[l - 1],rfl,f14,by omega,r8,by omega,l8,(by rw [cl]; exact hn),s414 _ _ hL,hv.same s414,ok,(by rw [cl]; exact ir),s514 _ _ hC,ygj n,(s13.trans s14) _ _ f12,spr_1 (by decide) (by omega),s14 _ _ f13,spr_1 (by omega) (by omega),fun m L' C' d kvs H15 kp15 _ _ _ _ mo spd kl=>⟨rfl,?_⟩⟩
      have s15:Same H13 H15:=fun b u e=>kp15 b u (fun z=>by subst z; rw [nx] at e; cases e) (s14 _ _ e)
      have s1115:=(s12.trans s13).trans s15
      have s515:=s511.trans s1115
      generalize hst:qeo hs (csn n)=st at mo
      have stl:st.length=n:=by rw [← hst,yhj,cl]
      obtain ⟨dy,ho⟩:=mo.o
      refine ⟨_,rfl,x,dy,_,rfl,ho,lkn_h,x,m,L',C',us,hs,st,d,kvs,_,csn n,rfl,mo,spd,by rw [cl,stl],by omega,fun D H16 s16 nD eD=>?_⟩
      refine gn ?_
      dsimp only
      generalize hmx:mixL _ _ _=mix at eD
      have s516:=s515.trans s16
      generalize hkp:(PyData.list [f0,f1,f2,f3',f4,f5]).shown=kp
      -- no addresses
      refine qkf (d:=.list (addrs (r * l))) ?_ fun v H17 s17 a17=>?_
      · unfold addrs
        repeat' (first | exact qcg | exact ydv | exact ybm | exact qcf | exact qda | exact qay | refine yag ?_ ?_ | refine yck ?_ | refine qax ?_ | exact yi7 rfl rfl crl)
        exact qj3 ⟨by decide,by decide,by decide⟩
      obtain ⟨la,wa,rfl,hla,hwa⟩:=a17.lstEq
      have mo17:=mo.same (s16.trans s17)
      refine ⟨la,rfl,⟨_,SqL.of hla⟩,ycr (xs:=wa) (fun i σ H'=>∃ qa qb:Option V,σ=[some (.int c),some (.int t),some (.ref dp),some (.int r),some (.int l),some (.ref L),some (.ref p),some (.ref bp),some (.ref T),q9,some (.str kp),some (.ref x),some (.ref D),qa,qb,none]∧Same H17 H') ⟨none,none,rfl,Same.refl H17⟩ (fun i σ H' _ ⟨_,_,_,s⟩=>SqL.of (s _ _ hla)) ?_ ?_⟩
      · rintro i y σ H18 hy ⟨qa,qb,rfl,s18⟩
        obtain ⟨dd,hd,hax⟩:=hwa.get hy
        have hbad:yem st.length dd=false:=by rw [stl]; exact yjx n64 dd (by rw [← hn]; exact List.mem_of_getElem? hd)
        refine ⟨2,rfl,by decide,by decide,ye6 (n:=2) (fun j σ H'=>∃ qb:Option V,σ=[some (.int c),some (.int t),some (.ref dp),some (.int r),some (.int l),some (.ref L),some (.ref p),some (.ref bp),some (.ref T),q9,some (.str kp),some (.ref x),some (.ref D),some y,qb,none]∧Same H17 H') ⟨qb,rfl,s18⟩ ?_ ?_⟩
        · rintro j σ H19 hj ⟨qb,rfl,s19⟩
          rw [Int.zero_add]
          refine ⟨_,rfl,_,rfl,_,rfl,x,m,L',C',us,hs,st,d,kvs,j,y,.int 0,dd,.int 0,rfl,mo17.same s19,.inl (hax.same s19),.inl (.int _),.inl ⟨hj,hbad,fun H20 s20=>⟨rfl,_,rfl,iteN (by decide +kernel) ?_⟩⟩⟩
          refine ⟨_,rfl,_,rfl,x,m,L',C',us,hs,st,d,kvs,1,y,.int 7,dd,.int 7,rfl,mo17.same (s19.trans s20),.inl (hax.same (s19.trans s20)),.inl (.int _),.inl ⟨by decide,hbad,fun H21 s21=>⟨rfl,_,rfl,iteN (by decide +kernel) ?_⟩⟩⟩
          exact ⟨_,rfl,(s19.trans s20).trans s21⟩
        · rintro σ H19 ⟨qb,rfl,s19⟩
          exact ⟨_,_,rfl,s19⟩
      · rintro σ H18 ⟨qa,qb,rfl,s18⟩
        dsimp only
        refine qkf (d:=.list yii) ?_ fun v H19 s19 a19=>?_
        · unfold yii
          repeat' (first | exact qcg | exact ydv | exact ybm | exact qcf | exact qda | exact qay | refine yag ?_ ?_ | refine yck ?_ | refine qax ?_)
        obtain ⟨lb,wb,rfl,hlb,hwb⟩:=a19.lstEq
        have mo19:=mo17.same (s18.trans s19)
        refine ⟨lb,rfl,⟨_,SqL.of hlb⟩,ycr (xs:=wb) (fun i σ H'=>∃ qc:Option V,σ=[some (.int c),some (.int t),some (.ref dp),some (.int r),some (.int l),some (.ref L),some (.ref p),some (.ref bp),some (.ref T),q9,some (.str kp),some (.ref x),some (.ref D),qa,qb,qc]∧Same H19 H') ⟨none,rfl,Same.refl H19⟩ (fun i σ H' _ ⟨_,_,s⟩=>SqL.of (s _ _ hlb)) ?_ ?_⟩
        · rintro i y σ H20 hy ⟨qc,rfl,s20⟩
          obtain ⟨dd,hd,hax⟩:=hwb.get hy
          have hbad:=qiw dd (List.mem_of_getElem? hd)
          have ok1:yem st.length (.int 0)=true:=decide_eq_true ⟨by omega,by omega⟩
          have ok2:yem st.length (.int (r * l - 2))=true:=decide_eq_true ⟨by omega,by omega⟩
          refine ⟨_,rfl,_,rfl,x,m,L',C',us,hs,st,d,kvs,1,.int 0,y,.int 0,dd,rfl,mo19.same s20,.inl (.int _),.inl (hax.same s20),.inr ⟨rfl,ok1,hbad,fun H21 s21=>⟨rfl,_,rfl,iteN (by decide +kernel) ?_⟩⟩⟩
          refine ⟨_,rfl,_,rfl,_,rfl,_,_,rfl,rfl,crl,_,_,rfl,rfl,_,rfl,x,m,L',C',us,hs,st,d,kvs,1,.int (r * l - 2),y,.int (r * l - 2),dd,rfl,mo19.same (s20.trans s21),.inl (.int _),.inl (hax.same (s20.trans s21)),.inr ⟨rfl,ok2,hbad,fun H22 s22=>⟨rfl,_,rfl,iteN (by decide +kernel) ?_⟩⟩⟩
          exact ⟨_,rfl,(s20.trans s21).trans s22⟩
        · rintro σ H20 ⟨qc,rfl,s20⟩
          have mo20:=mo19.same s20
          obtain ⟨dz,ho20⟩:=mo20.o
          have s1620:=((s17.trans s18).trans s19).trans s20
          refine ⟨_,rfl,x,dz,_,rfl,ho20,lkn_h,x,m,L',C',us,hs,st,d,kvs,_,csn n,rfl,mo20,spd,by rw [cl,stl],by omega,fun D2 H21 s21 nD2 eD2=>?_⟩
          rw [hmx] at eD2
          have eD21:=(s1620.trans s21) _ _ eD
          have s521:=(s516.trans s1620).trans s21
          refine ⟨_,rfl,_,_,qek eD2,qek eD21,qcm _,qcm _,qeh _,_,rfl,iteB (yia _) ?_⟩
          refine ⟨_,rfl,p,.int r,.int l,.ref Lq,.ref Cc,v4,v5,_,_,_,_,_,_,rfl,s521 _ _ hp,x0.same s521,x1.same s521,x2.same s521,x3.same s521,x4.same s521,x5.same s521,len1,len1,fun H22 s22=>⟨rfl,?_⟩⟩
          have:=k H22 (((sH4.trans s5).trans s521).trans s22)
          rw [gd.made]
          exact this
def yh9 (K:PySem.W.Frag):Sp:=fun vs H Q _=>∃ (a:Addr) (ns:List Int),vs=[.ref a]∧SqL K H a (ns.map V.int)∧ns.length≤63∧∀ H',Q (.bl true) H'
abbrev qgm:Stmt:=top 67
theorem sc_law:FnScope ["_law_script","_law_turn","_law_cell"] ["_law_script"] (yab qgm):=⟨rfl,rfl,rfl,by decide +kernel,rfl,by decide +kernel,by decide +kernel⟩
theorem ok_law (B:Bl mg) (ygp:Has P w K mg base 14 "_law_right" ["_law_cell","_law_turn"] yg2) {f:Addr} {fd:FuncData} (F:Fun K "law" "law" qgm f fd):FnOk P w K mg base CX0 15 f fd ["_law_script"] (yh9 K):=by
  refine Mx.Fun.okQ F sc_law (fun vs H Q E h=>?_) (fun cdv A outer s H vs Q E hr h=>?_)
  · obtain ⟨a,ns,rfl,_⟩:=h
    rfl
  · obtain ⟨a,ns,rfl,hS,hnl,k⟩:=h
    have sc:=sc_law
    refine ⟨_,(qai rfl (yad (qdw PassesOwn.never rfl (qkg (qel rfl (B.of rfl) (yaa (ydr yda (ycn op_catS (pv 0) (qd7 (yaa qac yac))) ycf (qbw qac)) yac))) (yfz rfl (qaz (qaq (i:=1) sc.nd rfl (Or.inl rfl)) (qaz (qaq (i:=2) sc.nd rfl (Or.inl rfl)) qct)))
        (qae (ya2 (ybv (yba (yai ygp hr (yaf (qaa (pv 2)) (yaf (qaa (pv 1)) qad)))))
          (qae (yao (qaa yc2)))
          qat)))
      (qae (yao (qaa yc2))))),?_⟩
    have z1:1≤sizeLine:=by decide
    refine ⟨_,rfl,z1,fun c1 h1=>?_⟩
    generalize hG1:upd H c1 _=H1
    have s1:Same H H1:=by rw [← hG1]; exact (Same.refl H).upd h1
    have f1:H1 c1=some (.lst [.int 2]):=by rw [← hG1]; exact qab
    have hsl:(sizeLine:Nat)=16777216:=sizeLine_eq
    refine ⟨a,c1,_,_,rfl,rfl,s1.seq hS,SqL.of f1,by rw [List.length_map]; simp; omega,fun c3 h3=>?_⟩
    generalize hG3:upd H1 c3 _=H3
    have f3:H3 c3=some (.lst ((ns++[2]).map V.int)):=by rw [← hG3]; refine qab.trans ?_; rw [List.map_append]; rfl
    refine ⟨20,rfl,c3,_,rfl,SqL.of f3,fun c4 h4=>?_⟩
    generalize hG4:upd H3 c4 _=H4
    have f4:H4 c4=some (.lst (((ns++[2]).take 20).map V.int)):=by rw [← hG4,qab,show (20:Int)=((20:Nat):Int) from rfl,qh4,List.map_take]
    clear hG4 hG3 hG1
    generalize hcs:(ns++[2]).take 20=cs at f4
    have c20:cs.length≤20:=by rw [← hcs,List.length_take]; omega
    refine ⟨c4,_,rfl,SqL.of f4,yea (xs:=cs.map V.int) (fun i σ H'=>∃ (o1 o2:Option V),σ=[some (.ref a),o1,o2]∧Same H4 H') ⟨_,_,rfl,Same.refl _⟩ (fun i σ H' _ ⟨_,_,_,s⟩=>SqL.of (s _ _ f4)) ?_ (fun σ H' _=>k _)⟩
    rintro i x pp σ H5 hx ⟨o1,o2,rfl,s5⟩ hpp
    obtain ⟨c,hc,rfl⟩:=qe6 hx
    have hi12:i < cs.length:=(List.getElem?_eq_some_iff.mp hc).1
    refine ⟨pp,_,rfl,SqT.of qab,rfl,_,_,rfl,_,_,rfl,rfl,?_⟩
    have s6:=s5.upd (o:=.tup [V.int i,.int c]) hpp
    refine ⟨_,rfl,_,rfl,c,i,rfl,by omega,by omega,fun H7 s7=>⟨_,rfl,iteN rfl ?_⟩⟩
    exact ⟨_,_,rfl,s6.trans s7⟩
end
end Mh
set_option Elab.async false
set_option linter.all false
set_option maxRecDepth 100000
set_option maxHeartbeats 4000000
namespace Mh
open PySem L2 PyProof.Rows Mx
section
variable {P:Program} {w:World} {K:PySem.W.Frag} {mg:Str→Option Value} {base:Heap}
abbrev ydq:Stmt:=ydi (top 3) 0
theorem qgq:FnScope ["self","number"] ["self","number"] (yab ydq):=⟨rfl,rfl,rfl,by decide +kernel,rfl,by decide +kernel,by decide +kernel⟩
theorem yju {f C:Addr} {fd:FuncData} (F:Fun K "__init__" "NoHarms.__init__" ydq f fd) (c:XOk K C) (n1:NoF K C "number"):FnOk P w K mg base CX0 1 f fd ["self","number"] (sp_x1 C "number"):=by
  refine F.ok qgq (fun vs H Q E h=>?_) (fun cdv A outer s H vs Q E hr h=>?_)
  · obtain ⟨a,v,rfl,_⟩:=h
    rfl
  · obtain ⟨a,v,rfl,hx,k⟩:=h
    have sc:=qgq
    refine ⟨_,(yaj (ps_xfld (pv 0) (pv 1))),?_⟩
    exact ⟨_,rfl,_,rfl,a,C,none,[],rfl,hx,c,n1,by decide,fun d H1 x1 s1=>k d H1 x1 s1⟩
end
end Mh
set_option Elab.async false
set_option linter.all false
set_option maxRecDepth 100000
namespace Mh
open PySem L2 PyProof.Rows
open Mx
theorem ydu {K:PySem.W.Frag} {a:Addr} {xs:List V} {od:Option Addr} {its:Array Value} {n:Nat} {sl:Array (Option Value)} (h2:K.lookup a=some ⟨.type "tuple",od,.seq its n,sl⟩) (z:its.size≤sizeLine) (r:Vals xs its.toList):∀ H,SqT K H a xs:=
  fun H=>.inr ⟨_,its,n,h2,rfl,rfl,z,r⟩
def xcO (o:Obj) (C:Addr):Option (List Value):=match o with
  | ⟨.type "type",_,.cls cd,sl⟩=>(match cd.mro,sl.toList with
    | .ref D :: bm,[_,_,_,_,some (.builtin n),_]=>if (D == C && n == "ValueError.__new__" && !cd.hasDel && cd.hasDict)=true then some bm else none
    | _,_=>none)
  | _=>none
theorem yjw {o:Obj} {C:Addr} {bm:List Value} (q:xcO o C=some bm):∃ od cd sl k0 k1 k2 k3 k5,o=⟨.type "type",od,.cls cd,sl⟩∧cd.mro=.ref C :: bm∧sl.toList=[k0,k1,k2,k3,some (.builtin "ValueError.__new__"),k5]∧cd.hasDel=false∧cd.hasDict=true:=by
  unfold xcO at q
  split at q
  · rename_i od cd sl
    split at q
    · rename_i D bm' n k0 k1 k2 k3 n' k5 h1 h2
      split at q
      · rename_i h3
        cases q
        simp only [Bool.and_eq_true,beq_iff_eq,Bool.not_eq_true'] at h3
        obtain ⟨⟨⟨rfl,rfl⟩,h5⟩,h6⟩:=h3
        exact ⟨od,cd,sl,_,_,_,_,_,rfl,h1,h2,h5,h6⟩
      · cases q
    · cases q
  · cases q
theorem qhs {K:PySem.W.Frag} {o:Obj} {C:Addr} {bm:List Value} (l:K.lookup C=some o) (q:xcO o C=some bm) (e:PySem.W.excIn K C bmV "ValueError.__new__" = true):PySem.W.tailIn K bmV bm=true:=by
  obtain ⟨od,cd,sl,k0,k1,k2,k3,k5,rfl,h1,h2,h5,h6⟩:=yjw q
  unfold PySem.W.excIn at e
  rw [l] at e
  simp only [h1,h2,Bool.and_eq_true] at e
  exact e.1.1.2
theorem xclsB_of {K:PySem.W.Frag} {o:Obj} {C:Addr} {bm:List Value} (l:K.lookup C=some o) (q:xcO o C=some bm) (t:PySem.W.tailIn K bmV bm=true):qey K C=true:=by
  obtain ⟨od,cd,sl,k0,k1,k2,k3,k5,rfl,h1,h2,h5,h6⟩:=yjw q
  unfold qey
  rw [l]
  simp only [h1,h2,h5,h6,t]
  simp
theorem ygs {K:PySem.W.Frag} {o:Obj} {C:Addr} {bm:List Value} (l:K.lookup C=some o) (q:xcO o C=some bm) (t:PySem.W.tailIn K bmV bm=true) (ga:PySem.W.findIn K (.ref C) "__getattribute__" = some (some (.builtin "BaseException.__getattribute__"))) (gh:PySem.W.findIn K (.ref C) "__getattr__" = some none)
    (ha:PySem.W.findIn K (.ref C) "__class__" = some (some (.builtin "object.__class__"))) (hn:PySem.W.specialIn K (.builtin "object.__class__") "__get__" = some (some (.builtin "getset_descriptor.__get__"))) (tk:PySem.W.takesIn K (.builtin "object.__class__")=some true) (hm:PySem.W.mroIn K C (.type "object")=some true)
    (sa:PySem.W.findIn K (.ref C) "__setattr__" = some (some (.builtin "object.__setattr__"))):XOk K C:=by
  refine ⟨⟨xclsB_of l q t,ga,gh,?_,ha,hn,tk,hm⟩,sa⟩
  obtain ⟨od,cd,sl,k0,k1,k2,k3,k5,rfl,h1,h2,h5,h6⟩:=yjw q
  unfold PySem.W.clsIn
  rw [l]
  rfl
theorem yau {K:PySem.W.Frag} {h:Heap} {mg:Str→Option Value} {x:Str} {st:Stmt} {ps:List Str} {f:Addr} {oc:Value} {od an:Option Addr} {osl:Array (Option Value)} {kV doc pm cdv ct:Value} (X:K.In h) (G:h.Ns mainGlobals mg)
    (a:PySem.W.nsIn K mainGlobals x=some (some (.ref f))) (l:K.lookup f=some ⟨oc,od,.func (PySem.W.fnOf x x (qaj st) (qag st) (yab st) .none kV doc pm an cdv ct),osl⟩) (c:PySem.W.codeIn K cdv x=true) (k:PySem.W.keepIn K (.ref f)=true)
    (hb:∀ (kV doc pm:Value) (an:Option Addr) (cdv ct:Value) (us:List Value),us.length=ps.length→bindArgs (PySem.W.fnOf x x (qaj st) (qag st) (yab st) .none kV doc pm an cdv ct) ⟨us,[]⟩=pure (ps.zip us)):FnAt K mg x st ps:=by
  have F:=qca (st:=st) l c k
  exact ⟨f,_,PySem.W.mg_of X G a,F,F.binds hb⟩
set_option maxHeartbeats 0 in
theorem all_mk {l:PySem.W.OpenLaw} {w:World} {K:PySem.W.Frag} {h:Heap} {mg:Str→Option Value} {fa:Addr} (X:K.In h) (G:h.Ns mainGlobals mg) (hfa:mg "law" = some (.ref fa))
    {f0:Addr} {od0 an0:Option Addr} {sl0:Array (Option Value)} {oc0 kV0 dc0 pm0 cd0 ct0:Value}
    (a0:PySem.W.nsIn K mainGlobals "is_whole" = some (some (.ref f0)))
    (l0:K.lookup f0=some ⟨oc0,od0,.func (PySem.W.fnOf "is_whole" "is_whole" (qaj qb4) (qag qb4) (yab qb4) .none kV0 dc0 pm0 an0 cd0 ct0),sl0⟩)
    (c0:PySem.W.codeIn K cd0 "is_whole" = true)
    (k0:PySem.W.keepIn K (.ref f0)=true)
    {f1:Addr} {od1 an1:Option Addr} {sl1:Array (Option Value)} {oc1 kV1 dc1 pm1 cd1 ct1:Value}
    (a1:PySem.W.nsIn K mainGlobals "is_bit" = some (some (.ref f1)))
    (l1:K.lookup f1=some ⟨oc1,od1,.func (PySem.W.fnOf "is_bit" "is_bit" (qaj yc3) (qag yc3) (yab yc3) .none kV1 dc1 pm1 an1 cd1 ct1),sl1⟩)
    (c1:PySem.W.codeIn K cd1 "is_bit" = true)
    (k1:PySem.W.keepIn K (.ref f1)=true)
    {f2:Addr} {od2 an2:Option Addr} {sl2:Array (Option Value)} {oc2 kV2 dc2 pm2 cd2 ct2:Value}
    (a2:PySem.W.nsIn K mainGlobals "is_one_of" = some (some (.ref f2)))
    (l2:K.lookup f2=some ⟨oc2,od2,.func (PySem.W.fnOf "is_one_of" "is_one_of" (qaj ybp) (qag ybp) (yab ybp) .none kV2 dc2 pm2 an2 cd2 ct2),sl2⟩)
    (c2:PySem.W.codeIn K cd2 "is_one_of" = true)
    (k2:PySem.W.keepIn K (.ref f2)=true)
    {f3:Addr} {od3 an3:Option Addr} {sl3:Array (Option Value)} {oc3 kV3 dc3 pm3 cd3 ct3:Value}
    (a3:PySem.W.nsIn K mainGlobals "is_cell" = some (some (.ref f3)))
    (l3:K.lookup f3=some ⟨oc3,od3,.func (PySem.W.fnOf "is_cell" "is_cell" (qaj yco) (qag yco) (yab yco) .none kV3 dc3 pm3 an3 cd3 ct3),sl3⟩)
    (c3:PySem.W.codeIn K cd3 "is_cell" = true)
    (k3:PySem.W.keepIn K (.ref f3)=true)
    {f4:Addr} {od4 an4:Option Addr} {sl4:Array (Option Value)} {oc4 kV4 dc4 pm4 cd4 ct4:Value}
    (a4:PySem.W.nsIn K mainGlobals "is_part" = some (some (.ref f4)))
    (l4:K.lookup f4=some ⟨oc4,od4,.func (PySem.W.fnOf "is_part" "is_part" (qaj qcn) (qag qcn) (yab qcn) .none kV4 dc4 pm4 an4 cd4 ct4),sl4⟩)
    (c4:PySem.W.codeIn K cd4 "is_part" = true)
    (k4:PySem.W.keepIn K (.ref f4)=true)
    {f5:Addr} {od5 an5:Option Addr} {sl5:Array (Option Value)} {oc5 kV5 dc5 pm5 cd5 ct5:Value}
    (a5:PySem.W.nsIn K mainGlobals "has_word" = some (some (.ref f5)))
    (l5:K.lookup f5=some ⟨oc5,od5,.func (PySem.W.fnOf "has_word" "has_word" (qaj yb4) (qag yb4) (yab yb4) .none kV5 dc5 pm5 an5 cd5 ct5),sl5⟩)
    (c5:PySem.W.codeIn K cd5 "has_word" = true)
    (k5:PySem.W.keepIn K (.ref f5)=true)
    {f6:Addr} {od6 an6:Option Addr} {sl6:Array (Option Value)} {oc6 kV6 dc6 pm6 cd6 ct6:Value}
    (a6:PySem.W.nsIn K mainGlobals "cells_in" = some (some (.ref f6)))
    (l6:K.lookup f6=some ⟨oc6,od6,.func (PySem.W.fnOf "cells_in" "cells_in" (qaj qb1) (qag qb1) (yab qb1) .none kV6 dc6 pm6 an6 cd6 ct6),sl6⟩)
    (c6:PySem.W.codeIn K cd6 "cells_in" = true)
    (k6:PySem.W.keepIn K (.ref f6)=true)
    {f7:Addr} {od7 an7:Option Addr} {sl7:Array (Option Value)} {oc7 kV7 dc7 pm7 cd7 ct7:Value}
    (a7:PySem.W.nsIn K mainGlobals "has_parts" = some (some (.ref f7)))
    (l7:K.lookup f7=some ⟨oc7,od7,.func (PySem.W.fnOf "has_parts" "has_parts" (qaj ybr) (qag ybr) (yab ybr) .none kV7 dc7 pm7 an7 cd7 ct7),sl7⟩)
    (c7:PySem.W.codeIn K cd7 "has_parts" = true)
    (k7:PySem.W.keepIn K (.ref f7)=true)
    {f8:Addr} {od8 an8:Option Addr} {sl8:Array (Option Value)} {oc8 kV8 dc8 pm8 cd8 ct8:Value}
    (a8:PySem.W.nsIn K mainGlobals "is_harm" = some (some (.ref f8)))
    (l8:K.lookup f8=some ⟨oc8,od8,.func (PySem.W.fnOf "is_harm" "is_harm" (qaj ycm) (qag ycm) (yab ycm) .none kV8 dc8 pm8 an8 cd8 ct8),sl8⟩)
    (c8:PySem.W.codeIn K cd8 "is_harm" = true)
    (k8:PySem.W.keepIn K (.ref f8)=true)
    {f9:Addr} {od9 an9:Option Addr} {sl9:Array (Option Value)} {oc9 kV9 dc9 pm9 cd9 ct9:Value}
    (a9:PySem.W.nsIn K mainGlobals "look_at_harms" = some (some (.ref f9)))
    (l9:K.lookup f9=some ⟨oc9,od9,.func (PySem.W.fnOf "look_at_harms" "look_at_harms" (qaj ya4) (qag ya4) (yab ya4) .none kV9 dc9 pm9 an9 cd9 ct9),sl9⟩)
    (c9:PySem.W.codeIn K cd9 "look_at_harms" = true)
    (k9:PySem.W.keepIn K (.ref f9)=true)
    {f10:Addr} {od10 an10:Option Addr} {sl10:Array (Option Value)} {oc10 kV10 dc10 pm10 cd10 ct10:Value}
    (a10:PySem.W.nsIn K mainGlobals "cells_of" = some (some (.ref f10)))
    (l10:K.lookup f10=some ⟨oc10,od10,.func (PySem.W.fnOf "cells_of" "cells_of" (qaj qb3) (qag qb3) (yab qb3) .none kV10 dc10 pm10 an10 cd10 ct10),sl10⟩)
    (c10:PySem.W.codeIn K cd10 "cells_of" = true)
    (k10:PySem.W.keepIn K (.ref f10)=true)
    {f11:Addr} {od11 an11:Option Addr} {sl11:Array (Option Value)} {oc11 kV11 dc11 pm11 cd11 ct11:Value}
    (a11:PySem.W.nsIn K mainGlobals "stuck_bit" = some (some (.ref f11)))
    (l11:K.lookup f11=some ⟨oc11,od11,.func (PySem.W.fnOf "stuck_bit" "stuck_bit" (qaj yb3) (qag yb3) (yab yb3) .none kV11 dc11 pm11 an11 cd11 ct11),sl11⟩)
    (c11:PySem.W.codeIn K cd11 "stuck_bit" = true)
    (k11:PySem.W.keepIn K (.ref f11)=true)
    {f12:Addr} {od12 an12:Option Addr} {sl12:Array (Option Value)} {oc12 kV12 dc12 pm12 cd12 ct12:Value}
    (a12:PySem.W.nsIn K mainGlobals "put" = some (some (.ref f12)))
    (l12:K.lookup f12=some ⟨oc12,od12,.func (PySem.W.fnOf "put" "put" (qaj qi2) (qag qi2) (yab qi2) .none kV12 dc12 pm12 an12 cd12 ct12),sl12⟩)
    (c12:PySem.W.codeIn K cd12 "put" = true)
    (k12:PySem.W.keepIn K (.ref f12)=true)
    {f13:Addr} {od13 an13:Option Addr} {sl13:Array (Option Value)} {oc13 kV13 dc13 pm13 cd13 ct13:Value}
    (a13:PySem.W.nsIn K mainGlobals "settle" = some (some (.ref f13)))
    (l13:K.lookup f13=some ⟨oc13,od13,.func (PySem.W.fnOf "settle" "settle" (qaj ydn) (qag ydn) (yab ydn) .none kV13 dc13 pm13 an13 cd13 ct13),sl13⟩)
    (c13:PySem.W.codeIn K cd13 "settle" = true)
    (k13:PySem.W.keepIn K (.ref f13)=true)
    {f14:Addr} {od14 an14:Option Addr} {sl14:Array (Option Value)} {oc14 kV14 dc14 pm14 cd14 ct14:Value}
    (a14:PySem.W.nsIn K mainGlobals "is_size" = some (some (.ref f14)))
    (l14:K.lookup f14=some ⟨oc14,od14,.func (PySem.W.fnOf "is_size" "is_size" (qaj ycj) (qag ycj) (yab ycj) .none kV14 dc14 pm14 an14 cd14 ct14),sl14⟩)
    (c14:PySem.W.codeIn K cd14 "is_size" = true)
    (k14:PySem.W.keepIn K (.ref f14)=true)
    {f15:Addr} {od15 an15:Option Addr} {sl15:Array (Option Value)} {oc15 kV15 dc15 pm15 cd15 ct15:Value}
    (a15:PySem.W.nsIn K mainGlobals "are_contents" = some (some (.ref f15)))
    (l15:K.lookup f15=some ⟨oc15,od15,.func (PySem.W.fnOf "are_contents" "are_contents" (qaj qa7) (qag qa7) (yab qa7) .none kV15 dc15 pm15 an15 cd15 ct15),sl15⟩)
    (c15:PySem.W.codeIn K cd15 "are_contents" = true)
    (k15:PySem.W.keepIn K (.ref f15)=true)
    {f16:Addr} {od16 an16:Option Addr} {sl16:Array (Option Value)} {oc16 kV16 dc16 pm16 cd16 ct16:Value}
    (a16:PySem.W.nsIn K mainGlobals "look_at_memory" = some (some (.ref f16)))
    (l16:K.lookup f16=some ⟨oc16,od16,.func (PySem.W.fnOf "look_at_memory" "look_at_memory" (qaj ya0) (qag ya0) (yab ya0) .none kV16 dc16 pm16 an16 cd16 ct16),sl16⟩)
    (c16:PySem.W.codeIn K cd16 "look_at_memory" = true)
    (k16:PySem.W.keepIn K (.ref f16)=true)
    {f17:Addr} {od17 an17:Option Addr} {sl17:Array (Option Value)} {oc17 kV17 dc17 pm17 cd17 ct17:Value}
    (a17:PySem.W.nsIn K mainGlobals "look_at_bit" = some (some (.ref f17)))
    (l17:K.lookup f17=some ⟨oc17,od17,.func (PySem.W.fnOf "look_at_bit" "look_at_bit" (qaj ybk) (qag ybk) (yab ybk) .none kV17 dc17 pm17 an17 cd17 ct17),sl17⟩)
    (c17:PySem.W.codeIn K cd17 "look_at_bit" = true)
    (k17:PySem.W.keepIn K (.ref f17)=true)
    {f18:Addr} {od18 an18:Option Addr} {sl18:Array (Option Value)} {oc18 kV18 dc18 pm18 cd18 ct18:Value}
    (a18:PySem.W.nsIn K mainGlobals "is_count" = some (some (.ref f18)))
    (l18:K.lookup f18=some ⟨oc18,od18,.func (PySem.W.fnOf "is_count" "is_count" (qaj qb7) (qag qb7) (yab qb7) .none kV18 dc18 pm18 an18 cd18 ct18),sl18⟩)
    (c18:PySem.W.codeIn K cd18 "is_count" = true)
    (k18:PySem.W.keepIn K (.ref f18)=true)
    {f19:Addr} {od19 an19:Option Addr} {sl19:Array (Option Value)} {oc19 kV19 dc19 pm19 cd19 ct19:Value}
    (a19:PySem.W.nsIn K mainGlobals "are_spares" = some (some (.ref f19)))
    (l19:K.lookup f19=some ⟨oc19,od19,.func (PySem.W.fnOf "are_spares" "are_spares" (qaj ybh) (qag ybh) (yab ybh) .none kV19 dc19 pm19 an19 cd19 ct19),sl19⟩)
    (c19:PySem.W.codeIn K cd19 "are_spares" = true)
    (k19:PySem.W.keepIn K (.ref f19)=true)
    {f20:Addr} {od20 an20:Option Addr} {sl20:Array (Option Value)} {oc20 kV20 dc20 pm20 cd20 ct20:Value}
    (a20:PySem.W.nsIn K mainGlobals "look_at_counts" = some (some (.ref f20)))
    (l20:K.lookup f20=some ⟨oc20,od20,.func (PySem.W.fnOf "look_at_counts" "look_at_counts" (qaj qa0) (qag qa0) (yab qa0) .none kV20 dc20 pm20 an20 cd20 ct20),sl20⟩)
    (c20:PySem.W.codeIn K cd20 "look_at_counts" = true)
    (k20:PySem.W.keepIn K (.ref f20)=true)
    {f21:Addr} {od21 an21:Option Addr} {sl21:Array (Option Value)} {oc21 kV21 dc21 pm21 cd21 ct21:Value}
    (a21:PySem.W.nsIn K mainGlobals "look_at_spares" = some (some (.ref f21)))
    (l21:K.lookup f21=some ⟨oc21,od21,.func (PySem.W.fnOf "look_at_spares" "look_at_spares" (qaj ya1) (qag ya1) (yab ya1) .none kV21 dc21 pm21 an21 cd21 ct21),sl21⟩)
    (c21:PySem.W.codeIn K cd21 "look_at_spares" = true)
    (k21:PySem.W.keepIn K (.ref f21)=true)
    {f22:Addr} {od22 an22:Option Addr} {sl22:Array (Option Value)} {oc22 kV22 dc22 pm22 cd22 ct22:Value}
    (a22:PySem.W.nsIn K mainGlobals "_law_digits" = some (some (.ref f22)))
    (l22:K.lookup f22=some ⟨oc22,od22,.func (PySem.W.fnOf "_law_digits" "_law_digits" (qaj qbl) (qag qbl) (yab qbl) .none kV22 dc22 pm22 an22 cd22 ct22),sl22⟩)
    (c22:PySem.W.codeIn K cd22 "_law_digits" = true)
    (k22:PySem.W.keepIn K (.ref f22)=true)
    {f23:Addr} {od23 an23:Option Addr} {sl23:Array (Option Value)} {oc23 kV23 dc23 pm23 cd23 ct23:Value}
    (a23:PySem.W.nsIn K mainGlobals "_law_harm" = some (some (.ref f23)))
    (l23:K.lookup f23=some ⟨oc23,od23,.func (PySem.W.fnOf "_law_harm" "_law_harm" (qaj qb5) (qag qb5) (yab qb5) .none kV23 dc23 pm23 an23 cd23 ct23),sl23⟩)
    (c23:PySem.W.codeIn K cd23 "_law_harm" = true)
    (k23:PySem.W.keepIn K (.ref f23)=true)
    {f24:Addr} {od24 an24:Option Addr} {sl24:Array (Option Value)} {oc24 kV24 dc24 pm24 cd24 ct24:Value}
    (a24:PySem.W.nsIn K mainGlobals "_law_cells" = some (some (.ref f24)))
    (l24:K.lookup f24=some ⟨oc24,od24,.func (PySem.W.fnOf "_law_cells" "_law_cells" (qaj qbu) (qag qbu) (yab qbu) .none kV24 dc24 pm24 an24 cd24 ct24),sl24⟩)
    (c24:PySem.W.codeIn K cd24 "_law_cells" = true)
    (k24:PySem.W.keepIn K (.ref f24)=true)
    {f25:Addr} {od25 an25:Option Addr} {sl25:Array (Option Value)} {oc25 kV25 dc25 pm25 cd25 ct25:Value}
    (a25:PySem.W.nsIn K mainGlobals "_law_harms" = some (some (.ref f25)))
    (l25:K.lookup f25=some ⟨oc25,od25,.func (PySem.W.fnOf "_law_harms" "_law_harms" (qaj ybs) (qag ybs) (yab ybs) .none kV25 dc25 pm25 an25 cd25 ct25),sl25⟩)
    (c25:PySem.W.codeIn K cd25 "_law_harms" = true)
    (k25:PySem.W.keepIn K (.ref f25)=true)
    {f26:Addr} {od26 an26:Option Addr} {sl26:Array (Option Value)} {oc26 kV26 dc26 pm26 cd26 ct26:Value}
    (a26:PySem.W.nsIn K mainGlobals "_law_word" = some (some (.ref f26)))
    (l26:K.lookup f26=some ⟨oc26,od26,.func (PySem.W.fnOf "_law_word" "_law_word" (qaj yb5) (qag yb5) (yab yb5) .none kV26 dc26 pm26 an26 cd26 ct26),sl26⟩)
    (c26:PySem.W.codeIn K cd26 "_law_word" = true)
    (k26:PySem.W.keepIn K (.ref f26)=true)
    {f27:Addr} {od27 an27:Option Addr} {sl27:Array (Option Value)} {oc27 kV27 dc27 pm27 cd27 ct27:Value}
    (a27:PySem.W.nsIn K mainGlobals "_law_made" = some (some (.ref f27)))
    (l27:K.lookup f27=some ⟨oc27,od27,.func (PySem.W.fnOf "_law_made" "_law_made" (qaj qb6) (qag qb6) (yab qb6) .none kV27 dc27 pm27 an27 cd27 ct27),sl27⟩)
    (c27:PySem.W.codeIn K cd27 "_law_made" = true)
    (k27:PySem.W.keepIn K (.ref f27)=true)
    {f28:Addr} {od28 an28:Option Addr} {sl28:Array (Option Value)} {oc28 kV28 dc28 pm28 cd28 ct28:Value}
    (a28:PySem.W.nsIn K mainGlobals "_law_bent" = some (some (.ref f28)))
    (l28:K.lookup f28=some ⟨oc28,od28,.func (PySem.W.fnOf "_law_bent" "_law_bent" (qaj yb1) (qag yb1) (yab yb1) .none kV28 dc28 pm28 an28 cd28 ct28),sl28⟩)
    (c28:PySem.W.codeIn K cd28 "_law_bent" = true)
    (k28:PySem.W.keepIn K (.ref f28)=true)
    {f29:Addr} {od29 an29:Option Addr} {sl29:Array (Option Value)} {oc29 kV29 dc29 pm29 cd29 ct29:Value}
    (a29:PySem.W.nsIn K mainGlobals "_law_due" = some (some (.ref f29)))
    (l29:K.lookup f29=some ⟨oc29,od29,.func (PySem.W.fnOf "_law_due" "_law_due" (qaj yci) (qag yci) (yab yci) .none kV29 dc29 pm29 an29 cd29 ct29),sl29⟩)
    (c29:PySem.W.codeIn K cd29 "_law_due" = true)
    (k29:PySem.W.keepIn K (.ref f29)=true)
    {f30:Addr} {od30 an30:Option Addr} {sl30:Array (Option Value)} {oc30 kV30 dc30 pm30 cd30 ct30:Value}
    (a30:PySem.W.nsIn K mainGlobals "_law_asked" = some (some (.ref f30)))
    (l30:K.lookup f30=some ⟨oc30,od30,.func (PySem.W.fnOf "_law_asked" "_law_asked" (qaj qbt) (qag qbt) (yab qbt) .none kV30 dc30 pm30 an30 cd30 ct30),sl30⟩)
    (c30:PySem.W.codeIn K cd30 "_law_asked" = true)
    (k30:PySem.W.keepIn K (.ref f30)=true)
    {f31:Addr} {od31 an31:Option Addr} {sl31:Array (Option Value)} {oc31 kV31 dc31 pm31 cd31 ct31:Value}
    (a31:PySem.W.nsIn K mainGlobals "_law_right" = some (some (.ref f31)))
    (l31:K.lookup f31=some ⟨oc31,od31,.func (PySem.W.fnOf "_law_right" "_law_right" (qaj ybt) (qag ybt) (yab ybt) .none kV31 dc31 pm31 an31 cd31 ct31),sl31⟩)
    (c31:PySem.W.codeIn K cd31 "_law_right" = true)
    (k31:PySem.W.keepIn K (.ref f31)=true)
    {f32:Addr} {od32 an32:Option Addr} {sl32:Array (Option Value)} {oc32 kV32 dc32 pm32 cd32 ct32:Value}
    (a32:PySem.W.nsIn K mainGlobals "law" = some (some (.ref f32)))
    (l32:K.lookup f32=some ⟨oc32,od32,.func (PySem.W.fnOf "law" "law" (qaj qgm) (qag qgm) (yab qgm) .none kV32 dc32 pm32 an32 cd32 ct32),sl32⟩)
    (c32:PySem.W.codeIn K cd32 "law" = true)
    (k32:PySem.W.keepIn K (.ref f32)=true)
    (z0:PySem.W.nsIn K mainGlobals "len" = some none)
    (z1:PySem.W.nsIn K mainGlobals "abs" = some none)
    (z2:PySem.W.nsIn K mainGlobals "max" = some none)
    (z3:PySem.W.nsIn K mainGlobals "min" = some none)
    (z4:PySem.W.nsIn K mainGlobals "repr" = some none)
    (z5:PySem.W.nsIn K mainGlobals "isinstance" = some none)
    (z6:PySem.W.nsIn K mainGlobals "int" = some none)
    (z7:PySem.W.nsIn K mainGlobals "bool" = some none)
    (z8:PySem.W.nsIn K mainGlobals "str" = some none)
    (z9:PySem.W.nsIn K mainGlobals "tuple" = some none)
    (z10:PySem.W.nsIn K mainGlobals "list" = some none)
    (z11:PySem.W.nsIn K mainGlobals "dict" = some none)
    (z12:PySem.W.nsIn K mainGlobals "range" = some none)
    (z13:PySem.W.nsIn K mainGlobals "enumerate" = some none)
    (z14:PySem.W.nsIn K mainGlobals "sorted" = some none)
    (z15:PySem.W.nsIn K mainGlobals "sum" = some none)
    {R0:Addr}
    (RA0:PySem.W.nsIn K mainGlobals "NoTest" = some (some (.ref R0)))
    {R2:Addr}
    (RA2:PySem.W.nsIn K mainGlobals "NoHarms" = some (some (.ref R2)))
    {R3:Addr}
    (RA3:PySem.W.nsIn K mainGlobals "NoMemory" = some (some (.ref R3)))
    {R4:Addr}
    (RA4:PySem.W.nsIn K mainGlobals "NoAddress" = some (some (.ref R4)))
    {R5:Addr}
    (RA5:PySem.W.nsIn K mainGlobals "NoBit" = some (some (.ref R5)))
    {R6:Addr}
    (RA6:PySem.W.nsIn K mainGlobals "NoOrders" = some (some (.ref R6)))
    {R7:Addr}
    (RA7:PySem.W.nsIn K mainGlobals "NotSure" = some (some (.ref R7)))
    {R8:Addr}
    (RA8:PySem.W.nsIn K mainGlobals "NoKind" = some (some (.ref R8)))
    {R9:Addr}
    (RA9:PySem.W.nsIn K mainGlobals "NoSpares" = some (some (.ref R9)))
    {R12:Addr}
    (RA12:PySem.W.nsIn K mainGlobals "TooMany" = some (some (.ref R12)))
    {RM:Addr}
    (RM_:PySem.W.nsIn K mainGlobals "MarchError" = some (some (.ref RM)))
    {Ro2:Obj} {Rbm:List Value}
    (Rlk2:K.lookup R2=some Ro2)
    (Rq2:xcO Ro2 R2=some Rbm)
    {Ro3:Obj}
    (Rlk3:K.lookup R3=some Ro3)
    (Rq3:xcO Ro3 R3=some Rbm)
    (Rex3:PySem.W.excIn K R3 bmV "ValueError.__new__" = true)
    {Ro4:Obj}
    (Rlk4:K.lookup R4=some Ro4)
    (Rq4:xcO Ro4 R4=some Rbm)
    (Rex4:PySem.W.excIn K R4 bmV "ValueError.__new__" = true)
    {Ro5:Obj}
    (Rlk5:K.lookup R5=some Ro5)
    (Rq5:xcO Ro5 R5=some Rbm)
    (Rex5:PySem.W.excIn K R5 bmV "ValueError.__new__" = true)
    {Ro9:Obj}
    (Rlk9:K.lookup R9=some Ro9)
    (Rq9:xcO Ro9 R9=some Rbm)
    (Rex9:PySem.W.excIn K R9 bmV "ValueError.__new__" = true)
    (Rkp2:PySem.W.keepIn K (.ref R2)=true)
    (Rga2:PySem.W.findIn K (.ref R2) "__getattribute__" = some (some (.builtin "BaseException.__getattribute__")))
    (Rgh2:PySem.W.findIn K (.ref R2) "__getattr__" = some none)
    (Rha2:PySem.W.findIn K (.ref R2) "__class__" = some (some (.builtin "object.__class__")))
    (Rhm2:PySem.W.mroIn K R2 (.type "object")=some true)
    (Rsa2:PySem.W.findIn K (.ref R2) "__setattr__" = some (some (.builtin "object.__setattr__")))
    (Ro0_2:PySem.W.kitOne K (.ref R2) (.ref R0)=some false)
    (Ro2_2:PySem.W.kitOne K (.ref R2) (.ref R2)=some true)
    (Ro3_2:PySem.W.kitOne K (.ref R2) (.ref R3)=some false)
    (Ro4_2:PySem.W.kitOne K (.ref R2) (.ref R4)=some false)
    (Ro5_2:PySem.W.kitOne K (.ref R2) (.ref R5)=some false)
    (Ro6_2:PySem.W.kitOne K (.ref R2) (.ref R6)=some false)
    (Ro7_2:PySem.W.kitOne K (.ref R2) (.ref R7)=some false)
    (Ro8_2:PySem.W.kitOne K (.ref R2) (.ref R8)=some false)
    (Ro9_2:PySem.W.kitOne K (.ref R2) (.ref R9)=some false)
    (Ro12_2:PySem.W.kitOne K (.ref R2) (.ref R12)=some false)
    (Rve2:PySem.W.kitOne K (.ref R2) (.type "ValueError")=some true)
    (Rem2:PySem.W.exmOne K (.ref R2) (.ref RM)=some true)
    (Rn2_0:PySem.W.findIn K (.ref R2) "number" = some none)
    {fI2:Addr} {odI2 anI2:Option Addr} {slI2:Array (Option Value)} {ocI2 kVI2 dcI2 pmI2 cdI2 ctI2:Value}
    (Rhi2:PySem.W.findIn K (.ref R2) "__init__" = some (some (.ref fI2)))
    (Rhf2:PySem.W.isFn K (.ref fI2)=true)
    (RlI2:K.lookup fI2=some ⟨ocI2,odI2,.func (PySem.W.fnOf "__init__" "NoHarms.__init__" (qaj ydq) (qag ydq) (yab ydq) .none kVI2 dcI2 pmI2 anI2 cdI2 ctI2),slI2⟩)
    (RcI2:PySem.W.codeIn K cdI2 "NoHarms.__init__" = true)
    (RkI2:PySem.W.keepIn K (.ref fI2)=true)
    (Rkp3:PySem.W.keepIn K (.ref R3)=true)
    (Rga3:PySem.W.findIn K (.ref R3) "__getattribute__" = some (some (.builtin "BaseException.__getattribute__")))
    (Rgh3:PySem.W.findIn K (.ref R3) "__getattr__" = some none)
    (Rha3:PySem.W.findIn K (.ref R3) "__class__" = some (some (.builtin "object.__class__")))
    (Rhm3:PySem.W.mroIn K R3 (.type "object")=some true)
    (Rsa3:PySem.W.findIn K (.ref R3) "__setattr__" = some (some (.builtin "object.__setattr__")))
    (Ro0_3:PySem.W.kitOne K (.ref R3) (.ref R0)=some false)
    (Ro2_3:PySem.W.kitOne K (.ref R3) (.ref R2)=some false)
    (Ro3_3:PySem.W.kitOne K (.ref R3) (.ref R3)=some true)
    (Ro4_3:PySem.W.kitOne K (.ref R3) (.ref R4)=some false)
    (Ro5_3:PySem.W.kitOne K (.ref R3) (.ref R5)=some false)
    (Ro6_3:PySem.W.kitOne K (.ref R3) (.ref R6)=some false)
    (Ro7_3:PySem.W.kitOne K (.ref R3) (.ref R7)=some false)
    (Ro8_3:PySem.W.kitOne K (.ref R3) (.ref R8)=some false)
    (Ro9_3:PySem.W.kitOne K (.ref R3) (.ref R9)=some false)
    (Ro12_3:PySem.W.kitOne K (.ref R3) (.ref R12)=some false)
    (Rve3:PySem.W.kitOne K (.ref R3) (.type "ValueError")=some true)
    (Rem3:PySem.W.exmOne K (.ref R3) (.ref RM)=some true)
    (Rkp4:PySem.W.keepIn K (.ref R4)=true)
    (Rga4:PySem.W.findIn K (.ref R4) "__getattribute__" = some (some (.builtin "BaseException.__getattribute__")))
    (Rgh4:PySem.W.findIn K (.ref R4) "__getattr__" = some none)
    (Rha4:PySem.W.findIn K (.ref R4) "__class__" = some (some (.builtin "object.__class__")))
    (Rhm4:PySem.W.mroIn K R4 (.type "object")=some true)
    (Rsa4:PySem.W.findIn K (.ref R4) "__setattr__" = some (some (.builtin "object.__setattr__")))
    (Ro0_4:PySem.W.kitOne K (.ref R4) (.ref R0)=some false)
    (Ro2_4:PySem.W.kitOne K (.ref R4) (.ref R2)=some false)
    (Ro3_4:PySem.W.kitOne K (.ref R4) (.ref R3)=some false)
    (Ro4_4:PySem.W.kitOne K (.ref R4) (.ref R4)=some true)
    (Ro5_4:PySem.W.kitOne K (.ref R4) (.ref R5)=some false)
    (Ro6_4:PySem.W.kitOne K (.ref R4) (.ref R6)=some false)
    (Ro7_4:PySem.W.kitOne K (.ref R4) (.ref R7)=some false)
    (Ro8_4:PySem.W.kitOne K (.ref R4) (.ref R8)=some false)
    (Ro9_4:PySem.W.kitOne K (.ref R4) (.ref R9)=some false)
    (Ro12_4:PySem.W.kitOne K (.ref R4) (.ref R12)=some false)
    (Rve4:PySem.W.kitOne K (.ref R4) (.type "ValueError")=some true)
    (Rem4:PySem.W.exmOne K (.ref R4) (.ref RM)=some true)
    (Rkp5:PySem.W.keepIn K (.ref R5)=true)
    (Rga5:PySem.W.findIn K (.ref R5) "__getattribute__" = some (some (.builtin "BaseException.__getattribute__")))
    (Rgh5:PySem.W.findIn K (.ref R5) "__getattr__" = some none)
    (Rha5:PySem.W.findIn K (.ref R5) "__class__" = some (some (.builtin "object.__class__")))
    (Rhm5:PySem.W.mroIn K R5 (.type "object")=some true)
    (Rsa5:PySem.W.findIn K (.ref R5) "__setattr__" = some (some (.builtin "object.__setattr__")))
    (Ro0_5:PySem.W.kitOne K (.ref R5) (.ref R0)=some false)
    (Ro2_5:PySem.W.kitOne K (.ref R5) (.ref R2)=some false)
    (Ro3_5:PySem.W.kitOne K (.ref R5) (.ref R3)=some false)
    (Ro4_5:PySem.W.kitOne K (.ref R5) (.ref R4)=some false)
    (Ro5_5:PySem.W.kitOne K (.ref R5) (.ref R5)=some true)
    (Ro6_5:PySem.W.kitOne K (.ref R5) (.ref R6)=some false)
    (Ro7_5:PySem.W.kitOne K (.ref R5) (.ref R7)=some false)
    (Ro8_5:PySem.W.kitOne K (.ref R5) (.ref R8)=some false)
    (Ro9_5:PySem.W.kitOne K (.ref R5) (.ref R9)=some false)
    (Ro12_5:PySem.W.kitOne K (.ref R5) (.ref R12)=some false)
    (Rve5:PySem.W.kitOne K (.ref R5) (.type "ValueError")=some true)
    (Rem5:PySem.W.exmOne K (.ref R5) (.ref RM)=some true)
    (Rkp9:PySem.W.keepIn K (.ref R9)=true)
    (Rga9:PySem.W.findIn K (.ref R9) "__getattribute__" = some (some (.builtin "BaseException.__getattribute__")))
    (Rgh9:PySem.W.findIn K (.ref R9) "__getattr__" = some none)
    (Rha9:PySem.W.findIn K (.ref R9) "__class__" = some (some (.builtin "object.__class__")))
    (Rhm9:PySem.W.mroIn K R9 (.type "object")=some true)
    (Rsa9:PySem.W.findIn K (.ref R9) "__setattr__" = some (some (.builtin "object.__setattr__")))
    (Ro0_9:PySem.W.kitOne K (.ref R9) (.ref R0)=some false)
    (Ro2_9:PySem.W.kitOne K (.ref R9) (.ref R2)=some false)
    (Ro3_9:PySem.W.kitOne K (.ref R9) (.ref R3)=some false)
    (Ro4_9:PySem.W.kitOne K (.ref R9) (.ref R4)=some false)
    (Ro5_9:PySem.W.kitOne K (.ref R9) (.ref R5)=some false)
    (Ro6_9:PySem.W.kitOne K (.ref R9) (.ref R6)=some false)
    (Ro7_9:PySem.W.kitOne K (.ref R9) (.ref R7)=some false)
    (Ro8_9:PySem.W.kitOne K (.ref R9) (.ref R8)=some false)
    (Ro9_9:PySem.W.kitOne K (.ref R9) (.ref R9)=some true)
    (Ro12_9:PySem.W.kitOne K (.ref R9) (.ref R12)=some false)
    (Rve9:PySem.W.kitOne K (.ref R9) (.type "ValueError")=some true)
    (Rem9:PySem.W.exmOne K (.ref R9) (.ref RM)=some true)
    (Rhn:PySem.W.specialIn K (.builtin "object.__class__") "__get__" = some (some (.builtin "getset_descriptor.__get__")))
    (Rtk:PySem.W.takesIn K (.builtin "object.__class__")=some true)
    (RzV:PySem.W.nsIn K mainGlobals "ValueError" = some none)
    (zset:PySem.W.nsIn K mainGlobals "set" = some none)
    (zzip:PySem.W.nsIn K mainGlobals "zip" = some none)
    (zall:PySem.W.nsIn K mainGlobals "all" = some none)
    {w1 w2 w3:Tok}
    (aMC:PySem.W.nsIn K mainGlobals "MOST_CELLS" = some (some (.int 64 w1)))
    (aMH:PySem.W.nsIn K mainGlobals "MOST_HARMS" = some (some (.int 3 w2)))
    (aMU:PySem.W.nsIn K mainGlobals "MOST_UNLIKE" = some (some (.int 3 w3)))
    {tJ:Addr} {uj1 uj2:Tok} {odJ:Option Addr} {nJ:Nat} {slJ:Array (Option Value)}
    (aJ:PySem.W.nsIn K mainGlobals "JOININGS" = some (some (.ref tJ)))
    (lJ:K.lookup tJ=some ⟨.type "tuple",odJ,.seq #[.str "and" uj1,.str "or" uj2] nJ,slJ⟩)
    {tP qp0 qp1 qp2 qp3 qp4 qp5 qp6 qp7 qp8 qp9:Addr} {xp0 xp1 xp2 xp3 xp4 xp5 xp6 xp7 xp8 xp9:Int} {kp0 kp1 kp2 kp3 kp4 kp5 kp6 kp7 kp8 kp9:Tok} {epP:Nat}
    (aP:PySem.W.nsIn K mainGlobals "PARTS" = some (some (.ref tP)))
    (lP:K.lookup tP=some ⟨.type "dict",none,.dict #[⟨xp0,.str "stuck" kp0,.ref qp0⟩,⟨xp1,.str "slow" kp1,.ref qp1⟩,⟨xp2,.str "forgets" kp2,.ref qp2⟩,⟨xp3,.str "misreads" kp3,.ref qp3⟩,⟨xp4,.str "turns" kp4,.ref qp4⟩,⟨xp5,.str "sets" kp5,.ref qp5⟩,⟨xp6,.str "keeps" kp6,.ref qp6⟩,⟨xp7,.str "nowhere" kp7,.ref qp7⟩,⟨xp8,.str "other" kp8,.ref qp8⟩,⟨xp9,.str "both" kp9,.ref qp9⟩] epP,#[]⟩)
    (mP:(tP == sysModules)=false)
    {oqp0:Option Addr} {yp0_0 yp0_1:Tok} {mp0:Nat} {sqp0:Array (Option Value)}
    (tp0:K.lookup qp0=some ⟨.type "tuple",oqp0,.seq #[.str "cell" yp0_0,.str "bit" yp0_1] mp0,sqp0⟩)
    {oqp1:Option Addr} {yp1_0 yp1_1:Tok} {mp1:Nat} {sqp1:Array (Option Value)}
    (tp1:K.lookup qp1=some ⟨.type "tuple",oqp1,.seq #[.str "cell" yp1_0,.str "bit" yp1_1] mp1,sqp1⟩)
    {oqp2:Option Addr} {yp2_0 yp2_1:Tok} {mp2:Nat} {sqp2:Array (Option Value)}
    (tp2:K.lookup qp2=some ⟨.type "tuple",oqp2,.seq #[.str "cell" yp2_0,.str "bit" yp2_1] mp2,sqp2⟩)
    {oqp3:Option Addr} {yp3_0 yp3_1:Tok} {mp3:Nat} {sqp3:Array (Option Value)}
    (tp3:K.lookup qp3=some ⟨.type "tuple",oqp3,.seq #[.str "cell" yp3_0,.str "bit" yp3_1] mp3,sqp3⟩)
    {oqp4:Option Addr} {yp4_0 yp4_1 yp4_2:Tok} {mp4:Nat} {sqp4:Array (Option Value)}
    (tp4:K.lookup qp4=some ⟨.type "tuple",oqp4,.seq #[.str "cell" yp4_0,.str "cell" yp4_1,.str "bit" yp4_2] mp4,sqp4⟩)
    {oqp5:Option Addr} {yp5_0 yp5_1 yp5_2 yp5_3:Tok} {mp5:Nat} {sqp5:Array (Option Value)}
    (tp5:K.lookup qp5=some ⟨.type "tuple",oqp5,.seq #[.str "cell" yp5_0,.str "cell" yp5_1,.str "bit" yp5_2,.str "bit" yp5_3] mp5,sqp5⟩)
    {oqp6:Option Addr} {yp6_0 yp6_1 yp6_2 yp6_3:Tok} {mp6:Nat} {sqp6:Array (Option Value)}
    (tp6:K.lookup qp6=some ⟨.type "tuple",oqp6,.seq #[.str "cell" yp6_0,.str "cell" yp6_1,.str "bit" yp6_2,.str "bit" yp6_3] mp6,sqp6⟩)
    {oqp7:Option Addr} {yp7_0 yp7_1:Tok} {mp7:Nat} {sqp7:Array (Option Value)}
    (tp7:K.lookup qp7=some ⟨.type "tuple",oqp7,.seq #[.str "cell" yp7_0,.str "bit" yp7_1] mp7,sqp7⟩)
    {oqp8:Option Addr} {yp8_0 yp8_1:Tok} {mp8:Nat} {sqp8:Array (Option Value)}
    (tp8:K.lookup qp8=some ⟨.type "tuple",oqp8,.seq #[.str "cell" yp8_0,.str "cell" yp8_1] mp8,sqp8⟩)
    {oqp9:Option Addr} {yp9_0 yp9_1 yp9_2:Tok} {mp9:Nat} {sqp9:Array (Option Value)}
    (tp9:K.lookup qp9=some ⟨.type "tuple",oqp9,.seq #[.str "cell" yp9_0,.str "cell" yp9_1,.str "how" yp9_2] mp9,sqp9⟩)
    {w4:Tok}
    (aMR:PySem.W.nsIn K mainGlobals "MOST_ROWS" = some (some (.int 8 w4)))
    {C0:Addr}
    (ca0:PySem.W.nsIn K mainGlobals "Memory" = some (some (.ref C0)))
    (cp0:PySem.W.plainGet K C0 Str.empty=true)
    (cd0_:PySem.W.hasDictIn K C0=true)
    (co0:PySem.W.plainOver K C0=true)
    (cs0:PySem.W.findIn K (.ref C0) "__setattr__" = some (some (.builtin "object.__setattr__")))
    (cf0_0:PySem.W.findIn K (.ref C0) "harms" = some none)
    (cf0_1:PySem.W.findIn K (.ref C0) "cells" = some none)
    (cm0_:PySem.W.makesIn K C0=true)
    (ck0:PySem.W.keepIn K (.ref C0)=true)
    {fm0_0:Addr} {odm0_0 anm0_0:Option Addr} {slm0_0:Array (Option Value)} {ocm0_0 kVm0_0 dcm0_0 pmm0_0 cdm0_0 ctm0_0:Value}
    (am0_0:PySem.W.findIn K (.ref C0) "__init__" = some (some (.ref fm0_0)))
    (lm0_0:K.lookup fm0_0=some ⟨ocm0_0,odm0_0,.func (PySem.W.fnOf "__init__" "Memory.__init__" (qaj yam) (qag yam) (yab yam) .none kVm0_0 dcm0_0 pmm0_0 anm0_0 cdm0_0 ctm0_0),slm0_0⟩)
    (cm0_0:PySem.W.codeIn K cdm0_0 "Memory.__init__" = true)
    (im0_0:PySem.W.isFn K (.ref fm0_0)=true)
    (km0_0:PySem.W.keepIn K (.ref fm0_0)=true)
    {fm0_1:Addr} {odm0_1 anm0_1:Option Addr} {slm0_1:Array (Option Value)} {ocm0_1 kVm0_1 dcm0_1 pmm0_1 cdm0_1 ctm0_1:Value}
    (am0_1:PySem.W.findIn K (.ref C0) "look_at_address" = some (some (.ref fm0_1)))
    (lm0_1:K.lookup fm0_1=some ⟨ocm0_1,odm0_1,.func (PySem.W.fnOf "look_at_address" "Memory.look_at_address" (qaj yak) (qag yak) (yab yak) .none kVm0_1 dcm0_1 pmm0_1 anm0_1 cdm0_1 ctm0_1),slm0_1⟩)
    (cm0_1:PySem.W.codeIn K cdm0_1 "Memory.look_at_address" = true)
    (im0_1:PySem.W.isFn K (.ref fm0_1)=true)
    (km0_1:PySem.W.keepIn K (.ref fm0_1)=true)
    {fm0_2:Addr} {odm0_2 anm0_2:Option Addr} {slm0_2:Array (Option Value)} {ocm0_2 kVm0_2 dcm0_2 pmm0_2 cdm0_2 ctm0_2:Value}
    (am0_2:PySem.W.findIn K (.ref C0) "holds" = some (some (.ref fm0_2)))
    (lm0_2:K.lookup fm0_2=some ⟨ocm0_2,odm0_2,.func (PySem.W.fnOf "holds" "Memory.holds" (qaj qa4) (qag qa4) (yab qa4) .none kVm0_2 dcm0_2 pmm0_2 anm0_2 cdm0_2 ctm0_2),slm0_2⟩)
    (cm0_2:PySem.W.codeIn K cdm0_2 "Memory.holds" = true)
    (im0_2:PySem.W.isFn K (.ref fm0_2)=true)
    (km0_2:PySem.W.keepIn K (.ref fm0_2)=true)
    {C1:Addr}
    (ca1:PySem.W.nsIn K mainGlobals "Mended" = some (some (.ref C1)))
    (cp1:PySem.W.plainGet K C1 Str.empty=true)
    (cd1_:PySem.W.hasDictIn K C1=true)
    (co1:PySem.W.plainOver K C1=true)
    (cs1:PySem.W.findIn K (.ref C1) "__setattr__" = some (some (.builtin "object.__setattr__")))
    (cf1_0:PySem.W.findIn K (.ref C1) "harmed" = some none)
    (cf1_1:PySem.W.findIn K (.ref C1) "spare" = some none)
    (cm1_:PySem.W.makesIn K C1=true)
    (ck1:PySem.W.keepIn K (.ref C1)=true)
    {fm1_0:Addr} {odm1_0 anm1_0:Option Addr} {slm1_0:Array (Option Value)} {ocm1_0 kVm1_0 dcm1_0 pmm1_0 cdm1_0 ctm1_0:Value}
    (am1_0:PySem.W.findIn K (.ref C1) "__init__" = some (some (.ref fm1_0)))
    (lm1_0:K.lookup fm1_0=some ⟨ocm1_0,odm1_0,.func (PySem.W.fnOf "__init__" "Mended.__init__" (qaj qam) (qag qam) (yab qam) .none kVm1_0 dcm1_0 pmm1_0 anm1_0 cdm1_0 ctm1_0),slm1_0⟩)
    (cm1_0:PySem.W.codeIn K cdm1_0 "Mended.__init__" = true)
    (im1_0:PySem.W.isFn K (.ref fm1_0)=true)
    (km1_0:PySem.W.keepIn K (.ref fm1_0)=true)
    {fm1_1:Addr} {odm1_1 anm1_1:Option Addr} {slm1_1:Array (Option Value)} {ocm1_1 kVm1_1 dcm1_1 pmm1_1 cdm1_1 ctm1_1:Value}
    (am1_1:PySem.W.findIn K (.ref C1) "read" = some (some (.ref fm1_1)))
    (lm1_1:K.lookup fm1_1=some ⟨ocm1_1,odm1_1,.func (PySem.W.fnOf "read" "Mended.read" (qaj qa6) (qag qa6) (yab qa6) .none kVm1_1 dcm1_1 pmm1_1 anm1_1 cdm1_1 ctm1_1),slm1_1⟩)
    (cm1_1:PySem.W.codeIn K cdm1_1 "Mended.read" = true)
    (im1_1:PySem.W.isFn K (.ref fm1_1)=true)
    (km1_1:PySem.W.keepIn K (.ref fm1_1)=true)
    {fm1_2:Addr} {odm1_2 anm1_2:Option Addr} {slm1_2:Array (Option Value)} {ocm1_2 kVm1_2 dcm1_2 pmm1_2 cdm1_2 ctm1_2:Value}
    (am1_2:PySem.W.findIn K (.ref C1) "write" = some (some (.ref fm1_2)))
    (lm1_2:K.lookup fm1_2=some ⟨ocm1_2,odm1_2,.func (PySem.W.fnOf "write" "Mended.write" (qaj qav) (qag qav) (yab qav) .none kVm1_2 dcm1_2 pmm1_2 anm1_2 cdm1_2 ctm1_2),slm1_2⟩)
    (cm1_2:PySem.W.codeIn K cdm1_2 "Mended.write" = true)
    (im1_2:PySem.W.isFn K (.ref fm1_2)=true)
    (km1_2:PySem.W.keepIn K (.ref fm1_2)=true)
    {fm1_3:Addr} {odm1_3 anm1_3:Option Addr} {slm1_3:Array (Option Value)} {ocm1_3 kVm1_3 dcm1_3 pmm1_3 cdm1_3 ctm1_3:Value}
    (am1_3:PySem.W.findIn K (.ref C1) "holds" = some (some (.ref fm1_3)))
    (lm1_3:K.lookup fm1_3=some ⟨ocm1_3,odm1_3,.func (PySem.W.fnOf "holds" "Mended.holds" (qaj ya3) (qag ya3) (yab ya3) .none kVm1_3 dcm1_3 pmm1_3 anm1_3 cdm1_3 ctm1_3),slm1_3⟩)
    (cm1_3:PySem.W.codeIn K cdm1_3 "Mended.holds" = true)
    (im1_3:PySem.W.isFn K (.ref fm1_3)=true)
    (km1_3:PySem.W.keepIn K (.ref fm1_3)=true) :
    ∃ fd:FuncData,(∀ (s:Shared) (v:Value),BindsTo s fd ⟨[v],[]⟩ [("_law_script",v)])∧∀ base:Heap,K.In base→base.Ns mainGlobals mg→FnOk l.prog w K mg base CX0 15 fa fd ["_law_script"] (yh9 K):=by
  have e:=hfa.symm.trans (PySem.W.mg_of X G a32)
  cases e
  have B:Bl mg:=⟨fun x hx=>by
    unfold qhh at hx
    simp only [List.mem_cons,List.not_mem_nil,or_false] at hx
    rcases hx with rfl | rfl | rfl | rfl | rfl | rfl | rfl | rfl | rfl | rfl | rfl | rfl | rfl | rfl | rfl | rfl
    · exact PySem.W.mg_none_of X G z0
    · exact PySem.W.mg_none_of X G z1
    · exact PySem.W.mg_none_of X G z2
    · exact PySem.W.mg_none_of X G z3
    · exact PySem.W.mg_none_of X G z4
    · exact PySem.W.mg_none_of X G z5
    · exact PySem.W.mg_none_of X G z6
    · exact PySem.W.mg_none_of X G z7
    · exact PySem.W.mg_none_of X G z8
    · exact PySem.W.mg_none_of X G z9
    · exact PySem.W.mg_none_of X G z10
    · exact PySem.W.mg_none_of X G z11
    · exact PySem.W.mg_none_of X G z12
    · exact PySem.W.mg_none_of X G z13
    · exact PySem.W.mg_none_of X G z14
    · exact PySem.W.mg_none_of X G z15⟩
  have hVE:=PySem.W.mg_none_of X G RzV
  have gm:=PySem.W.mg_of X G RM_
  have Rtl:=qhs Rlk3 Rq3 Rex3
  have RX2:=ygs Rlk2 Rq2 Rtl Rga2 Rgh2 Rha2 Rhn Rtk Rhm2 Rsa2
  have RX3:=ygs Rlk3 Rq3 Rtl Rga3 Rgh3 Rha3 Rhn Rtk Rhm3 Rsa3
  have RX4:=ygs Rlk4 Rq4 Rtl Rga4 Rgh4 Rha4 Rhn Rtk Rhm4 Rsa4
  have RX5:=ygs Rlk5 Rq5 Rtl Rga5 Rgh5 Rha5 Rhn Rtk Rhm5 Rsa5
  have RX9:=ygs Rlk9 Rq9 Rtl Rga9 Rgh9 Rha9 Rhn Rtk Rhm9 Rsa9
  have xB3:qfu K mg "NoMemory" R3:=⟨PySem.W.mg_of X G RA3,Rkp3,RX3.toXTy,Rex3⟩
  have xB4:qfu K mg "NoAddress" R4:=⟨PySem.W.mg_of X G RA4,Rkp4,RX4.toXTy,Rex4⟩
  have xB5:qfu K mg "NoBit" R5:=⟨PySem.W.mg_of X G RA5,Rkp5,RX5.toXTy,Rex5⟩
  have xB9:qfu K mg "NoSpares" R9:=⟨PySem.W.mg_of X G RA9,Rkp9,RX9.toXTy,Rex9⟩
  have RG:∀ i x,nms[i]?=some x→mg x=some (.ref ((fun i=>([R2,R3,R9,R4,R5,R6,R0,R7,R8,R12]:List Addr).getD i 0) i)):=by
    intro i x hx
    match i,hx with
    | 0,hx=>cases hx; exact PySem.W.mg_of X G RA2
    | 1,hx=>cases hx; exact PySem.W.mg_of X G RA3
    | 2,hx=>cases hx; exact PySem.W.mg_of X G RA9
    | 3,hx=>cases hx; exact PySem.W.mg_of X G RA4
    | 4,hx=>cases hx; exact PySem.W.mg_of X G RA5
    | 5,hx=>cases hx; exact PySem.W.mg_of X G RA6
    | 6,hx=>cases hx; exact PySem.W.mg_of X G RA0
    | 7,hx=>cases hx; exact PySem.W.mg_of X G RA7
    | 8,hx=>cases hx; exact PySem.W.mg_of X G RA8
    | 9,hx=>cases hx; exact PySem.W.mg_of X G RA12
    | i + 10,hx=>cases hx
  have KX2:KX K (fun i=>([R2,R3,R9,R4,R5,R6,R0,R7,R8,R12]:List Addr).getD i 0) RM 0:=by
    refine ⟨by decide,RX2.toXTy,fun i hi=>?_,Rve2,Rem2⟩
    match i,hi with
    | 0,_=>exact Ro2_2
    | 1,_=>exact Ro3_2
    | 2,_=>exact Ro9_2
    | 3,_=>exact Ro4_2
    | 4,_=>exact Ro5_2
    | 5,_=>exact Ro6_2
    | 6,_=>exact Ro0_2
    | 7,_=>exact Ro7_2
    | 8,_=>exact Ro8_2
    | 9,_=>exact Ro12_2
  have KX3:KX K (fun i=>([R2,R3,R9,R4,R5,R6,R0,R7,R8,R12]:List Addr).getD i 0) RM 1:=by
    refine ⟨by decide,RX3.toXTy,fun i hi=>?_,Rve3,Rem3⟩
    match i,hi with
    | 0,_=>exact Ro2_3
    | 1,_=>exact Ro3_3
    | 2,_=>exact Ro9_3
    | 3,_=>exact Ro4_3
    | 4,_=>exact Ro5_3
    | 5,_=>exact Ro6_3
    | 6,_=>exact Ro0_3
    | 7,_=>exact Ro7_3
    | 8,_=>exact Ro8_3
    | 9,_=>exact Ro12_3
  have KX4:KX K (fun i=>([R2,R3,R9,R4,R5,R6,R0,R7,R8,R12]:List Addr).getD i 0) RM 3:=by
    refine ⟨by decide,RX4.toXTy,fun i hi=>?_,Rve4,Rem4⟩
    match i,hi with
    | 0,_=>exact Ro2_4
    | 1,_=>exact Ro3_4
    | 2,_=>exact Ro9_4
    | 3,_=>exact Ro4_4
    | 4,_=>exact Ro5_4
    | 5,_=>exact Ro6_4
    | 6,_=>exact Ro0_4
    | 7,_=>exact Ro7_4
    | 8,_=>exact Ro8_4
    | 9,_=>exact Ro12_4
  have KX5:KX K (fun i=>([R2,R3,R9,R4,R5,R6,R0,R7,R8,R12]:List Addr).getD i 0) RM 4:=by
    refine ⟨by decide,RX5.toXTy,fun i hi=>?_,Rve5,Rem5⟩
    match i,hi with
    | 0,_=>exact Ro2_5
    | 1,_=>exact Ro3_5
    | 2,_=>exact Ro9_5
    | 3,_=>exact Ro4_5
    | 4,_=>exact Ro5_5
    | 5,_=>exact Ro6_5
    | 6,_=>exact Ro0_5
    | 7,_=>exact Ro7_5
    | 8,_=>exact Ro8_5
    | 9,_=>exact Ro12_5
  have KX9:KX K (fun i=>([R2,R3,R9,R4,R5,R6,R0,R7,R8,R12]:List Addr).getD i 0) RM 2:=by
    refine ⟨by decide,RX9.toXTy,fun i hi=>?_,Rve9,Rem9⟩
    match i,hi with
    | 0,_=>exact Ro2_9
    | 1,_=>exact Ro3_9
    | 2,_=>exact Ro9_9
    | 3,_=>exact Ro4_9
    | 4,_=>exact Ro5_9
    | 5,_=>exact Ro6_9
    | 6,_=>exact Ro0_9
    | 7,_=>exact Ro7_9
    | 8,_=>exact Ro8_9
    | 9,_=>exact Ro12_9
  have qb2:mg "set" = none:=PySem.W.mg_none_of X G zset
  have qex:mg "zip" = none:=PySem.W.mg_none_of X G zzip
  have qcz:mg "all" = none:=PySem.W.mg_none_of X G zall
  have g_MC:∃ t,mg "MOST_CELLS" = some (.int 64 t):=⟨_,PySem.W.mg_of X G aMC⟩
  have g_MH:∃ t,mg "MOST_HARMS" = some (.int 3 t):=⟨_,PySem.W.mg_of X G aMH⟩
  have g_MU:∃ t,mg "MOST_UNLIKE" = some (.int 3 t):=⟨_,PySem.W.mg_of X G aMU⟩
  have g_J:GTup K mg "JOININGS" [.str "and",.str "or"]:=gtup_mk (PySem.W.mg_of X G aJ) lJ (by show 2≤sizeLine; decide) (.cons ⟨_,rfl⟩ (.cons ⟨_,rfl⟩ .nil))
  have gP:=PySem.W.mg_of X G aP
  have sp0:∀ H,SqT K H qp0 [.str "cell",.str "bit"]:=ydu tp0 (by show 2≤sizeLine; decide) (.cons ⟨_,rfl⟩ (.cons ⟨_,rfl⟩ .nil))
  have sp1:∀ H,SqT K H qp1 [.str "cell",.str "bit"]:=ydu tp1 (by show 2≤sizeLine; decide) (.cons ⟨_,rfl⟩ (.cons ⟨_,rfl⟩ .nil))
  have sp2:∀ H,SqT K H qp2 [.str "cell",.str "bit"]:=ydu tp2 (by show 2≤sizeLine; decide) (.cons ⟨_,rfl⟩ (.cons ⟨_,rfl⟩ .nil))
  have sp3:∀ H,SqT K H qp3 [.str "cell",.str "bit"]:=ydu tp3 (by show 2≤sizeLine; decide) (.cons ⟨_,rfl⟩ (.cons ⟨_,rfl⟩ .nil))
  have sp4:∀ H,SqT K H qp4 [.str "cell",.str "cell",.str "bit"]:=ydu tp4 (by show 3≤sizeLine; decide) (.cons ⟨_,rfl⟩ (.cons ⟨_,rfl⟩ (.cons ⟨_,rfl⟩ .nil)))
  have sp5:∀ H,SqT K H qp5 [.str "cell",.str "cell",.str "bit",.str "bit"]:=ydu tp5 (by show 4≤sizeLine; decide) (.cons ⟨_,rfl⟩ (.cons ⟨_,rfl⟩ (.cons ⟨_,rfl⟩ (.cons ⟨_,rfl⟩ .nil))))
  have sp6:∀ H,SqT K H qp6 [.str "cell",.str "cell",.str "bit",.str "bit"]:=ydu tp6 (by show 4≤sizeLine; decide) (.cons ⟨_,rfl⟩ (.cons ⟨_,rfl⟩ (.cons ⟨_,rfl⟩ (.cons ⟨_,rfl⟩ .nil))))
  have sp7:∀ H,SqT K H qp7 [.str "cell",.str "bit"]:=ydu tp7 (by show 2≤sizeLine; decide) (.cons ⟨_,rfl⟩ (.cons ⟨_,rfl⟩ .nil))
  have sp8:∀ H,SqT K H qp8 [.str "cell",.str "cell"]:=ydu tp8 (by show 2≤sizeLine; decide) (.cons ⟨_,rfl⟩ (.cons ⟨_,rfl⟩ .nil))
  have sp9:∀ H,SqT K H qp9 [.str "cell",.str "cell",.str "how"]:=ydu tp9 (by show 3≤sizeLine; decide) (.cons ⟨_,rfl⟩ (.cons ⟨_,rfl⟩ (.cons ⟨_,rfl⟩ .nil)))
  have TP:TabK K tP tabP:=⟨mP,_,_,_,lP,⟨rfl,rfl,rfl⟩,rfl,(.cons rfl ⟨_,rfl,sp0⟩ (.cons rfl ⟨_,rfl,sp1⟩ (.cons rfl ⟨_,rfl,sp2⟩ (.cons rfl ⟨_,rfl,sp3⟩ (.cons rfl ⟨_,rfl,sp4⟩ (.cons rfl ⟨_,rfl,sp5⟩ (.cons rfl ⟨_,rfl,sp6⟩ (.cons rfl ⟨_,rfl,sp7⟩ (.cons rfl ⟨_,rfl,sp8⟩ (.cons rfl ⟨_,rfl,sp9⟩ .nil))))))))))⟩
  have cm:CM K C0:=⟨⟨cp0,cd0_,co0,cs0⟩,cf0_0,cf0_1⟩
  have FI2:=qca (st:=ydq) RlI2 RcI2 RkI2
  have g_MR:∃ t,mg "MOST_ROWS" = some (.int 8 t):=⟨_,PySem.W.mg_of X G aMR⟩
  have cn:CN K C1:=⟨⟨cp1,cd1_,co1,cs1⟩,cf1_0,cf1_1⟩
  have F0:FnAt K mg "is_whole" qb4 ["thing"]:=yau X G a0 l0 c0 k0 fun _ _ _ _ _ _ us hl=>match us,hl with | [_],_=>rfl
  have F1:FnAt K mg "is_bit" yc3 ["thing"]:=yau X G a1 l1 c1 k1 fun _ _ _ _ _ _ us hl=>match us,hl with | [_],_=>rfl
  have F2:FnAt K mg "is_one_of" ybp ["thing","words"]:=yau X G a2 l2 c2 k2 fun _ _ _ _ _ _ us hl=>match us,hl with | [_,_],_=>rfl
  have F3:FnAt K mg "is_cell" yco ["thing"]:=yau X G a3 l3 c3 k3 fun _ _ _ _ _ _ us hl=>match us,hl with | [_],_=>rfl
  have F4:FnAt K mg "is_part" qcn ["name","thing"]:=yau X G a4 l4 c4 k4 fun _ _ _ _ _ _ us hl=>match us,hl with | [_,_],_=>rfl
  have F5:FnAt K mg "has_word" yb4 ["thing"]:=yau X G a5 l5 c5 k5 fun _ _ _ _ _ _ us hl=>match us,hl with | [_],_=>rfl
  have F6:FnAt K mg "cells_in" qb1 ["harm"]:=yau X G a6 l6 c6 k6 fun _ _ _ _ _ _ us hl=>match us,hl with | [_],_=>rfl
  have F7:FnAt K mg "has_parts" ybr ["thing"]:=yau X G a7 l7 c7 k7 fun _ _ _ _ _ _ us hl=>match us,hl with | [_],_=>rfl
  have F8:FnAt K mg "is_harm" ycm ["thing"]:=yau X G a8 l8 c8 k8 fun _ _ _ _ _ _ us hl=>match us,hl with | [_],_=>rfl
  have F9:FnAt K mg "look_at_harms" ya4 ["thing"]:=yau X G a9 l9 c9 k9 fun _ _ _ _ _ _ us hl=>match us,hl with | [_],_=>rfl
  have F10:FnAt K mg "cells_of" qb3 ["harms"]:=yau X G a10 l10 c10 k10 fun _ _ _ _ _ _ us hl=>match us,hl with | [_],_=>rfl
  have F11:FnAt K mg "stuck_bit" yb3 ["harms","cell"]:=yau X G a11 l11 c11 k11 fun _ _ _ _ _ _ us hl=>match us,hl with | [_,_],_=>rfl
  have F12:FnAt K mg "put" qi2 ["harms","cells","cell","bit"]:=yau X G a12 l12 c12 k12 fun _ _ _ _ _ _ us hl=>match us,hl with | [_,_,_,_],_=>rfl
  have F13:FnAt K mg "settle" ydn ["harms","cells"]:=yau X G a13 l13 c13 k13 fun _ _ _ _ _ _ us hl=>match us,hl with | [_,_],_=>rfl
  have F14:FnAt K mg "is_size" ycj ["thing"]:=yau X G a14 l14 c14 k14 fun _ _ _ _ _ _ us hl=>match us,hl with | [_],_=>rfl
  have F15:FnAt K mg "are_contents" qa7 ["thing","size"]:=yau X G a15 l15 c15 k15 fun _ _ _ _ _ _ us hl=>match us,hl with | [_,_],_=>rfl
  have F16:FnAt K mg "look_at_memory" ya0 ["size","harms","contents"]:=yau X G a16 l16 c16 k16 fun _ _ _ _ _ _ us hl=>match us,hl with | [_,_,_],_=>rfl
  have F17:FnAt K mg "look_at_bit" ybk ["thing"]:=yau X G a17 l17 c17 k17 fun _ _ _ _ _ _ us hl=>match us,hl with | [_],_=>rfl
  have F18:FnAt K mg "is_count" qb7 ["thing"]:=yau X G a18 l18 c18 k18 fun _ _ _ _ _ _ us hl=>match us,hl with | [_],_=>rfl
  have F19:FnAt K mg "are_spares" ybh ["thing","count"]:=yau X G a19 l19 c19 k19 fun _ _ _ _ _ _ us hl=>match us,hl with | [_,_],_=>rfl
  have F20:FnAt K mg "look_at_counts" qa0 ["rows","lines"]:=yau X G a20 l20 c20 k20 fun _ _ _ _ _ _ us hl=>match us,hl with | [_,_],_=>rfl
  have F21:FnAt K mg "look_at_spares" ya1 ["rows","lines","spare_rows","spare_lines"]:=yau X G a21 l21 c21 k21 fun _ _ _ _ _ _ us hl=>match us,hl with | [_,_,_,_],_=>rfl
  have F22:FnAt K mg "_law_digits" qbl ["_law_cell","_law_turn","_law_sizes"]:=yau X G a22 l22 c22 k22 fun _ _ _ _ _ _ us hl=>match us,hl with | [_,_,_],_=>rfl
  have F23:FnAt K mg "_law_harm" qb5 ["_law_d","_law_size"]:=yau X G a23 l23 c23 k23 fun _ _ _ _ _ _ us hl=>match us,hl with | [_,_],_=>rfl
  have F24:FnAt K mg "_law_cells" qbu ["_law_harms_here"]:=yau X G a24 l24 c24 k24 fun _ _ _ _ _ _ us hl=>match us,hl with | [_],_=>rfl
  have F25:FnAt K mg "_law_harms" ybs ["_law_d","_law_size"]:=yau X G a25 l25 c25 k25 fun _ _ _ _ _ _ us hl=>match us,hl with | [_,_],_=>rfl
  have F26:FnAt K mg "_law_word" yb5 ["_law_kept"]:=yau X G a26 l26 c26 k26 fun _ _ _ _ _ _ us hl=>match us,hl with | [_],_=>rfl
  have F27:FnAt K mg "_law_made" qb6 ["_law_parts"]:=yau X G a27 l27 c27 k27 fun _ _ _ _ _ _ us hl=>match us,hl with | [_],_=>rfl
  have F28:FnAt K mg "_law_bent" yb1 ["_law_parts","_law_which","_law_d"]:=yau X G a28 l28 c28 k28 fun _ _ _ _ _ _ us hl=>match us,hl with | [_,_,_],_=>rfl
  have F29:FnAt K mg "_law_due" yci ["_law_bent_here"]:=yau X G a29 l29 c29 k29 fun _ _ _ _ _ _ us hl=>match us,hl with | [_],_=>rfl
  have F30:FnAt K mg "_law_asked" qbt ["_law_one","_law_way","_law_address","_law_bit"]:=yau X G a30 l30 c30 k30 fun _ _ _ _ _ _ us hl=>match us,hl with | [_,_,_,_],_=>rfl
  have F31:FnAt K mg "_law_right" ybt ["_law_cell","_law_turn"]:=yau X G a31 l31 c31 k31 fun _ _ _ _ _ _ us hl=>match us,hl with | [_,_],_=>rfl
  have FL:=qca (st:=qgm) l32 c32 k32
  refine ⟨PySem.W.fnOf "law" "law" (qaj qgm) (qag qgm) (yab qgm) .none kV32 dc32 pm32 an32 cd32 ct32,fun s v=>.of_eq rfl,fun base _ _=>?_⟩
  have M0___init__:yb0 K C0 "__init__" "Memory.__init__" yam ["self","size","harms","contents"]:=⟨fm0_0,_,⟨am0_0,im0_0,km0_0⟩,qca (st:=yam) lm0_0 cm0_0 km0_0,Fun.binds (qca (st:=yam) lm0_0 cm0_0 km0_0) fun _ _ _ _ _ _ us hl=>match us,hl with | [_,_,_,_],_=>rfl⟩
  have M0_look_at_address:yb0 K C0 "look_at_address" "Memory.look_at_address" yak ["self","address"]:=⟨fm0_1,_,⟨am0_1,im0_1,km0_1⟩,qca (st:=yak) lm0_1 cm0_1 km0_1,Fun.binds (qca (st:=yak) lm0_1 cm0_1 km0_1) fun _ _ _ _ _ _ us hl=>match us,hl with | [_,_],_=>rfl⟩
  have M0_holds:yb0 K C0 "holds" "Memory.holds" qa4 ["self"]:=⟨fm0_2,_,⟨am0_2,im0_2,km0_2⟩,qca (st:=qa4) lm0_2 cm0_2 km0_2,Fun.binds (qca (st:=qa4) lm0_2 cm0_2 km0_2) fun _ _ _ _ _ _ us hl=>match us,hl with | [_],_=>rfl⟩
  have M1___init__:yb0 K C1 "__init__" "Mended.__init__" qam ["self","rows","lines","harms","contents","spare_rows","spare_lines"]:=⟨fm1_0,_,⟨am1_0,im1_0,km1_0⟩,qca (st:=qam) lm1_0 cm1_0 km1_0,Fun.binds (qca (st:=qam) lm1_0 cm1_0 km1_0) fun _ _ _ _ _ _ us hl=>match us,hl with | [_,_,_,_,_,_,_],_=>rfl⟩
  have M1_read:yb0 K C1 "read" "Mended.read" qa6 ["self","address"]:=⟨fm1_1,_,⟨am1_1,im1_1,km1_1⟩,qca (st:=qa6) lm1_1 cm1_1 km1_1,Fun.binds (qca (st:=qa6) lm1_1 cm1_1 km1_1) fun _ _ _ _ _ _ us hl=>match us,hl with | [_,_],_=>rfl⟩
  have M1_write:yb0 K C1 "write" "Mended.write" qav ["self","address","bit"]:=⟨fm1_2,_,⟨am1_2,im1_2,km1_2⟩,qca (st:=qav) lm1_2 cm1_2 km1_2,Fun.binds (qca (st:=qav) lm1_2 cm1_2 km1_2) fun _ _ _ _ _ _ us hl=>match us,hl with | [_,_,_],_=>rfl⟩
  have M1_holds:yb0 K C1 "holds" "Mended.holds" ya3 ["self"]:=⟨fm1_3,_,⟨am1_3,im1_3,km1_3⟩,qca (st:=ya3) lm1_3 cm1_3 km1_3,Fun.binds (qca (st:=ya3) lm1_3 cm1_3 km1_3) fun _ _ _ _ _ _ us hl=>match us,hl with | [_],_=>rfl⟩
  have h0:=qh1 (P:=l.prog) (w:=w) (base:=base) B F0
  have h1:=ykx h0 F1
  have h2:=qg1 (P:=l.prog) (w:=w) (base:=base) B F2
  have h3:=qiy g_MC h0 F3
  have h4:=qix g_J h3 h1 h2 F4
  have h5:=yhr (P:=l.prog) (w:=w) (base:=base) B gP TP F5
  have h6:=yhu (P:=l.prog) (w:=w) (base:=base) B qex gP TP F6
  have h7:=qgz B qex qcz gP TP h4 F7
  have h8:=yi3 B qb2 h5 h7 h6 F8
  have h9:=yev B qb2 g_MH g_MU h8 h6 F9
  have h10:=qhu B qb2 h9 h6 F10
  have h11:=yg7 (P:=l.prog) (w:=w) (base:=base) F11
  have h12:=ok_put h11 F12
  have h13:=yj6 B h11 h12 F13
  have h14:=yi1 g_MC h0 F14
  have h15:=qfg B qcz h1 F15
  have h16:=qem B h10 h14 h15 F16
  have qf9:=yix (P:=l.prog) (w:=w) (base:=base) B cm M0_holds
  have hm_init:=yj3 B cm h16 h13 M0___init__
  have yc0:=HasI.of (x:="Memory") (m:="Memory") (PySem.W.mg_of X G ca0) ⟨cm0_,am0_0,im0_0,ck0⟩ (fun g h=>yf7 am0_0 h) hm_init
  have xH:=(show XInit l.prog w K mg base "NoHarms" R2 ["self","number"] (sp_x1 R2 "number") from ⟨PySem.W.mg_of X G RA2,Rkp2,RX2,_,_,Rhi2,Rhf2,FI2.binds (fun _ _ _ _ _ _ us hl=>match us,hl with | [_,_],_=>rfl),yju FI2 RX2 Rn2_0⟩)
  have gw:=og_whole (P:=l.prog) (w:=w) (base:=base) B F0
  have gb:=og_bit gw F1
  have go:=og_one (P:=l.prog) (w:=w) (base:=base) B F2
  have gc:=og_cell g_MC gw F3
  have gp:=og_part g_J gc gb go F4
  have gwd:=og_word (P:=l.prog) (w:=w) (base:=base) B gP TP F5
  have gci:=qhq (P:=l.prog) (w:=w) (base:=base) B qex gP TP F6
  have gps:=og_parts B qex qcz gP TP gp F7
  have gh:=og_harm B qb2 gwd gps gci F8
  have gl:=og_harms B xH qb2 g_MH g_MU gh h6 F9
  have gco:=qhy B qb2 gl h6 F10
  have gsz:=og_size g_MC gw F14
  have gct:=og_cont B qcz gb F15
  have gmem:=ykl B xB3 gco gsz gct F16
  have h17:=og_lbit xB5 gb F17
  have ga:=qj9 B xB4 cm gw M0_look_at_address
  have mi:=mx_init B cm h16 h13 gmem M0___init__
  have hx:=yf6.of (x:="Memory") (m:="Memory") (PySem.W.mg_of X G ca0) ⟨cm0_,am0_0,im0_0,ck0⟩ (fun g h=>yf7 am0_0 h) mi
  have h18:=ok_count g_MR h0 F18
  have h19:=yga B qcz qb2 h0 F19
  have h20:=qfx h18 F20
  have h21:=yfu h19 F21
  have gcn:=qju xB3 (og_count g_MR gw F18) F20
  have gls:=qi3 xB9 (qf7 B qcz qb2 gw F19) F21
  have hn_holds:=qi5 B cm cn qf9 M1_holds
  have hn_init:=qj7 B cm cn h9 h20 h21 yc0 M1___init__
  have qfs:=HasI.of (x:="Mended") (m:="Mended") (PySem.W.mg_of X G ca1) ⟨cm1_,am1_0,im1_0,ck1⟩ (fun g h=>yf7 am1_0 h) hn_init
  have mn:=qjq B cm cn h9 h20 h21 yc0 gl gcn gls hx M1___init__
  have hxN:=yf6.of (x:="Mended") (m:="Mended") (PySem.W.mg_of X G ca1) ⟨cm1_,am1_0,im1_0,ck1⟩ (fun g h=>yf7 am1_0 h) mn
  have brd:=qjc cm cn ga M1_read
  have bwr:=qi7 cm cn ga h17 M1_write
  have h22:=yi9 (P:=l.prog) (w:=w) (base:=base) B F22
  have h23:=ok_lharm (P:=l.prog) (w:=w) (base:=base) B F23
  have h24:=qjk (P:=l.prog) (w:=w) (base:=base) B qb2 F24
  have h25:=qjn B h23 h24 F25
  have h26:=ok_word (P:=l.prog) (w:=w) (base:=base) (c:=(fun i=>([R2,R3,R9,R4,R5,R6,R0,R7,R8,R12]:List Addr).getD i 0)) (cM:=RM) B hVE RG F26
  have h27:=og_lmade gm KX2 KX3 KX9 h26 hxN F27
  have h28:=og_bent (P:=l.prog) (w:=w) (base:=base) B F28
  have h29:=ok_due (P:=l.prog) (w:=w) (base:=base) F29
  have h30:=qku gm KX4 KX5 cn h26 brd bwr F30
  have h31:=ykq B cn h22 h25 h27 h28 h29 h30 qfs hn_holds F31
  exact ok_law B h31 FL
theorem walk {l:PySem.W.OpenLaw} {q:Program} {loose:List Str} {XP:(Str→Option Value)→Heap→Prop} {YP:World→Heap→Prop} {d:DefRec} {K:Params→PySem.W.Frag} (hn:l.most=some 63) (hdf:d.params.defaults=[])
    (hY:∀ (w:World) (h:Heap),YP w h→(K w.params).In h)
    (F:∀ (w:World) (mg:Str→Option Value) (fa:Addr) (h:Heap),(K w.params).In h→h.Ns mainGlobals mg→mg d.name=some (.ref fa)→
      ∃ fd:FuncData,(∀ (s:Shared) (u:Value),BindsTo s fd ⟨[u],[]⟩ [("_law_script",u)])∧∀ base:Heap,(K w.params).In base→base.Ns mainGlobals mg→FnOk l.prog w (K w.params) mg base CX0 15 fa fd ["_law_script"] (yh9 (K w.params))) :
    PySem.W.WalkO q loose XP YP l.row.toRowW d [] (fun f vs=>PySem.call f vs):=
  L2.walk_of (n:=63) (k:=15) (x:="_law_script") (CX:=fun _=>CX0) (sp:=fun w=>yh9 (K w.params)) hn (by decide) hdf ⟨rfl,by decide,by decide,rfl⟩ hY F (fun _ _ a ns hl _ hS=>⟨a,ns,rfl,hS,hl,fun _=>rfl⟩) fun _ _ _ _ _ z=>z
end Mh
def PySem.W.Fast.tw14421850473083206026:Nat:=0
def PySem.W.Fast.tw12968202315749117771:Nat:=0
def PySem.W.Fast.tw15251704417731002838:Nat:=0
def PySem.W.Fast.tw13104633613871065872:Nat:=0
def PySem.W.Fast.tw6233244539308485437:Nat:=0
def PySem.W.Fast.tw557165066876597650:Nat:=0
def PySem.W.Fast.tw3346383145461014534:Nat:=0
def PySem.W.Fast.tw12360776370907707065:=PySem.Challenge.pw_marchmend_k53_no_mended
theorem PySem.W.Fast.te12360776370907707065:PySem.Challenge.pw_marchmend_k53_no_mended=PySem.W.Fast.tw12360776370907707065:=rfl
def PySem.W.Fast.tw6522574979506648207:Nat:=0
def PySem.W.Fast.tw566235913963958791:Nat:=0
def PySem.W.Fast.tw13989439506505096777:Nat:=0
def PySem.W.Fast.tw3926230694770519370:Nat:=0
def PySem.W.Fast.tw3240614632488970202:Nat:=0
def PySem.W.Fast.tw12736830558309370669:Nat:=0
def PySem.W.Fast.tw4435214624600157047:Nat:=0
def PySem.W.Fast.tw16307507494314693827:Nat:=0
def PySem.W.Fast.tw6028760416933814201:Nat:=0
def PySem.W.Fast.tw405982428914962358:Nat:=0
def PySem.W.Fast.tw9430828791476793113:Nat:=0
def PySem.W.Fast.tw2465579087918629570:Nat:=0
def PySem.W.Fast.tw2328650218263071630:Nat:=0
def PySem.W.Fast.tw11855974324737042547:Nat:=0
def PySem.W.Fast.tw5211386901556389026:Nat:=0
def PySem.W.Fast.tw15489296528709007800:Nat:=0
def PySem.W.Fast.tw5155914138305593559:Nat:=0
def PySem.W.Fast.tw69475925827657262:Nat:=0
def PySem.W.Fast.tw5051547277219445395:Nat:=0
def PySem.W.Fast.tw8760369615224098048:Nat:=0
def PySem.W.Fast.tw6041405455097684504:Nat:=0
def PySem.W.Fast.tw4101365499474907499:Nat:=0
def PySem.W.Fast.tw10057926810162663008:Nat:=0
def PySem.W.Fast.tw8268177361928904174:Nat:=0
def PySem.W.Fast.tw11686760507549759600:Nat:=0
def PySem.W.Fast.tw7292698321106890021:Nat:=0
def PySem.W.Fast.tw4220518732465123250:Nat:=0
def PySem.W.Fast.tw9112381325846925515:Nat:=0
def PySem.W.Fast.tw7974272230361693940:Nat:=0
def PySem.W.Fast.tw6638724538512616054:Nat:=0
def PySem.W.Fast.tw6208043207031941809:Nat:=0
def PySem.W.Fast.tw3851190800662512308:Nat:=0
def PySem.W.Fast.tw5929032070768583768:Nat:=0
def PySem.W.Fast.tw4188116898837779656:Nat:=0
def PySem.W.Fast.tw12594251630209071975:Nat:=0
def PySem.W.Fast.tw1677031005635057080:Nat:=0
def PySem.W.Fast.tw4087001548960652540:Nat:=0
def PySem.W.Fast.tw1875111718765816565:Nat:=0
def PySem.W.Fast.tw2235799230090602166:Nat:=0
def PySem.W.Fast.tw5689807010918468518:Nat:=0
def PySem.W.Fast.tw5260862558521672068:Nat:=0
def PySem.W.Fast.tw574551266763222329:Nat:=0
def PySem.W.Fast.tw15609743967123327157:Nat:=0
def PySem.W.Fast.tw9263769965184253870:Nat:=0
def PySem.W.Fast.tw2288744904029325487:Nat:=0
def PySem.W.Fast.tw10059775844304347702:Nat:=0
def PySem.W.Fast.tw198358236562046190:Nat:=0
def PySem.W.Fast.tw15914331468564474447:Nat:=0
def PySem.W.Fast.tw11912750154422770240:Nat:=0
def PySem.W.Fast.tw646862254153172427:Nat:=0
def PySem.W.Fast.tw17100114244599089331:Nat:=0
def PySem.W.Fast.tw11144981856044342420:Nat:=0
def PySem.W.Fast.tw1189021501725638657:Nat:=0
def PySem.W.Fast.tw12899259720606043862:Nat:=0
def PySem.W.Fast.tw2496583859084224178:Nat:=0
def PySem.W.Fast.tw4945592170584695272:Nat:=0
def PySem.W.Fast.tw1518993424231570090:Nat:=0
def PySem.W.Fast.tw17073217514598228770:Nat:=0
def PySem.W.Fast.tw12282490724333535399:Nat:=0
def PySem.W.Fast.tw12770786396576269352:Nat:=0
def PySem.W.Fast.tw12507051994990585610:Nat:=0
def PySem.W.Fast.tw11768936603700096362:Nat:=0
def PySem.W.Fast.tw6554734456521225427:Nat:=0
def PySem.W.Fast.tw5349517414825835716:Nat:=0
def PySem.W.Fast.tw6240799238699387665:Nat:=0
def PySem.W.Fast.tw12638157424236886434:Nat:=0
def PySem.W.Fast.tw1981254378302736206:Nat:=0
def PySem.W.Fast.tw10917969948549572086:Nat:=0
def PySem.W.Fast.tw6207002366975394006:Nat:=0
def PySem.W.Fast.tw11098445177832169272:Nat:=0
def PySem.W.Fast.tw10252981107597824073:Nat:=0
def PySem.W.Fast.tw5818762888047061527:Nat:=0
def PySem.W.Fast.tw777684345529594247:Nat:=0
def PySem.W.Fast.tw10484806061700288702:Nat:=0
def PySem.W.Fast.tw14304008290740115044:Nat:=0
def PySem.W.Fast.tw17471672975339130548:Nat:=0
def PySem.W.Fast.tw11997807923587220120:Nat:=0
def PySem.W.Fast.tw12687262025866615358:Nat:=0
def PySem.W.Fast.tw5175433875935387576:Nat:=0
def PySem.W.Fast.tw8573062250024097070:Nat:=0
def PySem.W.Fast.tw3339242316909712373:Nat:=0
def PySem.W.Fast.tw8328412907043192496:Nat:=0
def PySem.W.Fast.tw3217719221376140535:Nat:=0
def PySem.W.Fast.tw8641012038269398381:Nat:=0
def PySem.W.Fast.tw7153838930358103254:Nat:=0
def PySem.W.Fast.tw5999328354635764209:Nat:=0
def PySem.W.Fast.tw9019715152724519492:Nat:=0
def PySem.W.Fast.tw13880267894479352140:Nat:=0
def PySem.W.Fast.tw11244090724800490053:Nat:=0
def PySem.W.Fast.tw6891510381367245354:Nat:=0
def PySem.W.Fast.tw14345957668794565013:Nat:=0
def PySem.W.Fast.tw4473728567136120637:Nat:=0
def PySem.W.Fast.tw4679006900561378359:Nat:=0
def PySem.W.Fast.tw13084605136314028697:Nat:=0
def PySem.W.Fast.tw6320352831909669591:Nat:=0
def PySem.W.Fast.tw2306316860116665572:Nat:=0
def PySem.W.Fast.tw3675240589020887016:Nat:=0
def PySem.W.Fast.tw15105675583293402136:Nat:=0
def PySem.W.Fast.tw9257057131162406503:Nat:=0
def PySem.W.Fast.tw13409858489967030489:Nat:=0
def PySem.W.Fast.tw2151686906063158256:Nat:=0
def PySem.W.Fast.tw5055940194842485631:Nat:=0
def PySem.W.Fast.tw7850800419066624724:Nat:=0
def PySem.W.Fast.tw15181750910174254299:Nat:=0
def PySem.W.Fast.tw9363006882606967592:Nat:=0
open PySem PySem.W PyProof.Rows
set_option maxRecDepth 100000 in
set_option maxHeartbeats 0 in
theorem PySem.Challenge.cw_marchmend_k53_no_mended_holds : PySem.Challenge.rw_marchmend_k53_no_mended.Holds := by
  w_on; o_law; k_head; (case hw=>w_witness2)
  k_fill
  refine Mh.walk (l:=PySem.Challenge.rw_marchmend_k53_no_mended) rfl rfl (fun w h Y=>PySem.W.kIn_of Y) ?F
  case F=>
    intro w mg fa h KX G hmg
    refine' Mh.all_mk KX G hmg ?a0 ?l0 ?c0 ?k0 ?a1 ?l1 ?c1 ?k1 ?a2 ?l2 ?c2 ?k2 ?a3 ?l3 ?c3 ?k3 ?a4 ?l4 ?c4 ?k4 ?a5 ?l5 ?c5 ?k5 ?a6 ?l6 ?c6 ?k6 ?a7 ?l7 ?c7 ?k7 ?a8 ?l8 ?c8 ?k8 ?a9 ?l9 ?c9 ?k9 ?a10 ?l10 ?c10 ?k10 ?a11 ?l11 ?c11 ?k11 ?a12 ?l12 ?c12 ?k12 ?a13 ?l13 ?c13 ?k13 ?a14 ?l14 ?c14 ?k14 ?a15 ?l15 ?c15 ?k15 ?a16 ?l16 ?c16 ?k16 ?a17 ?l17 ?c17 ?k17 ?a18 ?l18 ?c18 ?k18 ?a19 ?l19 ?c19 ?k19 ?a20 ?l20 ?c20 ?k20 ?a21 ?l21 ?c21 ?k21 ?a22 ?l22 ?c22 ?k22 ?a23 ?l23 ?c23 ?k23 ?a24 ?l24 ?c24 ?k24 ?a25 ?l25 ?c25 ?k25 ?a26 ?l26 ?c26 ?k26 ?a27 ?l27 ?c27 ?k27 ?a28 ?l28 ?c28 ?k28 ?a29 ?l29 ?c29 ?k29 ?a30 ?l30 ?c30 ?k30 ?a31 ?l31 ?c31 ?k31 ?a32 ?l32 ?c32 ?k32 ?z0 ?z1 ?z2 ?z3 ?z4 ?z5 ?z6 ?z7 ?z8 ?z9 ?z10 ?z11 ?z12 ?z13 ?z14 ?z15 ?RA0 ?RA2 ?RA3 ?RA4 ?RA5 ?RA6 ?RA7 ?RA8 ?RA9 ?RA12 ?RM_ ?Rlk2 ?Rq2 ?Rlk3 ?Rq3 ?Rex3 ?Rlk4 ?Rq4 ?Rex4 ?Rlk5 ?Rq5 ?Rex5 ?Rlk9 ?Rq9 ?Rex9 ?Rkp2 ?Rga2 ?Rgh2 ?Rha2 ?Rhm2 ?Rsa2 ?Ro0_2 ?Ro2_2 ?Ro3_2 ?Ro4_2 ?Ro5_2 ?Ro6_2 ?Ro7_2 ?Ro8_2 ?Ro9_2 ?Ro12_2 ?Rve2 ?Rem2 ?Rn2_0 ?Rhi2 ?Rhf2 ?RlI2 ?RcI2 ?RkI2 ?Rkp3 ?Rga3 ?Rgh3 ?Rha3 ?Rhm3 ?Rsa3 ?Ro0_3 ?Ro2_3 ?Ro3_3 ?Ro4_3 ?Ro5_3 ?Ro6_3 ?Ro7_3 ?Ro8_3 ?Ro9_3 ?Ro12_3 ?Rve3 ?Rem3 ?Rkp4 ?Rga4 ?Rgh4 ?Rha4 ?Rhm4 ?Rsa4 ?Ro0_4 ?Ro2_4 ?Ro3_4 ?Ro4_4 ?Ro5_4 ?Ro6_4 ?Ro7_4 ?Ro8_4 ?Ro9_4 ?Ro12_4 ?Rve4 ?Rem4 ?Rkp5 ?Rga5 ?Rgh5 ?Rha5 ?Rhm5 ?Rsa5 ?Ro0_5 ?Ro2_5 ?Ro3_5 ?Ro4_5 ?Ro5_5 ?Ro6_5 ?Ro7_5 ?Ro8_5 ?Ro9_5 ?Ro12_5 ?Rve5 ?Rem5 ?Rkp9 ?Rga9 ?Rgh9 ?Rha9 ?Rhm9 ?Rsa9 ?Ro0_9 ?Ro2_9 ?Ro3_9 ?Ro4_9 ?Ro5_9 ?Ro6_9 ?Ro7_9 ?Ro8_9 ?Ro9_9 ?Ro12_9 ?Rve9 ?Rem9 ?Rhn ?Rtk ?RzV ?zset ?zzip ?zall ?aMC ?aMH ?aMU ?aJ ?lJ ?aP ?lP ?mP ?tp0 ?tp1 ?tp2 ?tp3 ?tp4 ?tp5 ?tp6 ?tp7 ?tp8 ?tp9 ?aMR ?ca0 ?cp0 ?cd0_ ?co0 ?cs0 ?cf0_0 ?cf0_1 ?cm0_ ?ck0 ?am0_0 ?lm0_0 ?cm0_0 ?im0_0 ?km0_0 ?am0_1 ?lm0_1 ?cm0_1 ?im0_1 ?km0_1 ?am0_2 ?lm0_2 ?cm0_2 ?im0_2 ?km0_2 ?ca1 ?cp1 ?cd1_ ?co1 ?cs1 ?cf1_0 ?cf1_1 ?cm1_ ?ck1 ?am1_0 ?lm1_0 ?cm1_0 ?im1_0 ?km1_0 ?am1_1 ?lm1_1 ?cm1_1 ?im1_1 ?km1_1 ?am1_2 ?lm1_2 ?cm1_2 ?im1_2 ?km1_2 ?am1_3 ?lm1_3 ?cm1_3 ?im1_3 ?km1_3
    (case a0=>k_is)
    (case l0=>k_is)
    (case c0=>k_is)
    (case k0=>k_is)
    (case a1=>k_is)
    (case l1=>k_is)
    (case c1=>k_is)
    (case k1=>k_is)
    (case a2=>k_is)
    (case l2=>k_is)
    (case c2=>k_is)
    (case k2=>k_is)
    (case a3=>k_is)
    (case l3=>k_is)
    (case c3=>k_is)
    (case k3=>k_is)
    (case a4=>k_is)
    (case l4=>k_is)
    (case c4=>k_is)
    (case k4=>k_is)
    (case a5=>k_is)
    (case l5=>k_is)
    (case c5=>k_is)
    (case k5=>k_is)
    (case a6=>k_is)
    (case l6=>k_is)
    (case c6=>k_is)
    (case k6=>k_is)
    (case a7=>k_is)
    (case l7=>k_is)
    (case c7=>k_is)
    (case k7=>k_is)
    (case a8=>k_is)
    (case l8=>k_is)
    (case c8=>k_is)
    (case k8=>k_is)
    (case a9=>k_is)
    (case l9=>k_is)
    (case c9=>k_is)
    (case k9=>k_is)
    (case a10=>k_is)
    (case l10=>k_is)
    (case c10=>k_is)
    (case k10=>k_is)
    (case a11=>k_is)
    (case l11=>k_is)
    (case c11=>k_is)
    (case k11=>k_is)
    (case a12=>k_is)
    (case l12=>k_is)
    (case c12=>k_is)
    (case k12=>k_is)
    (case a13=>k_is)
    (case l13=>k_is)
    (case c13=>k_is)
    (case k13=>k_is)
    (case a14=>k_is)
    (case l14=>k_is)
    (case c14=>k_is)
    (case k14=>k_is)
    (case a15=>k_is)
    (case l15=>k_is)
    (case c15=>k_is)
    (case k15=>k_is)
    (case a16=>k_is)
    (case l16=>k_is)
    (case c16=>k_is)
    (case k16=>k_is)
    (case a17=>k_is)
    (case l17=>k_is)
    (case c17=>k_is)
    (case k17=>k_is)
    (case a18=>k_is)
    (case l18=>k_is)
    (case c18=>k_is)
    (case k18=>k_is)
    (case a19=>k_is)
    (case l19=>k_is)
    (case c19=>k_is)
    (case k19=>k_is)
    (case a20=>k_is)
    (case l20=>k_is)
    (case c20=>k_is)
    (case k20=>k_is)
    (case a21=>k_is)
    (case l21=>k_is)
    (case c21=>k_is)
    (case k21=>k_is)
    (case a22=>k_is)
    (case l22=>k_is)
    (case c22=>k_is)
    (case k22=>k_is)
    (case a23=>k_is)
    (case l23=>k_is)
    (case c23=>k_is)
    (case k23=>k_is)
    (case a24=>k_is)
    (case l24=>k_is)
    (case c24=>k_is)
    (case k24=>k_is)
    (case a25=>k_is)
    (case l25=>k_is)
    (case c25=>k_is)
    (case k25=>k_is)
    (case a26=>k_is)
    (case l26=>k_is)
    (case c26=>k_is)
    (case k26=>k_is)
    (case a27=>k_is)
    (case l27=>k_is)
    (case c27=>k_is)
    (case k27=>k_is)
    (case a28=>k_is)
    (case l28=>k_is)
    (case c28=>k_is)
    (case k28=>k_is)
    (case a29=>k_is)
    (case l29=>k_is)
    (case c29=>k_is)
    (case k29=>k_is)
    (case a30=>k_is)
    (case l30=>k_is)
    (case c30=>k_is)
    (case k30=>k_is)
    (case a31=>k_is)
    (case l31=>k_is)
    (case c31=>k_is)
    (case k31=>k_is)
    (case a32=>k_is)
    (case l32=>k_is)
    (case c32=>k_is)
    (case k32=>k_is)
    (case z0=>k_is)
    (case z1=>k_is)
    (case z2=>k_is)
    (case z3=>k_is)
    (case z4=>k_is)
    (case z5=>k_is)
    (case z6=>k_is)
    (case z7=>k_is)
    (case z8=>k_is)
    (case z9=>k_is)
    (case z10=>k_is)
    (case z11=>k_is)
    (case z12=>k_is)
    (case z13=>k_is)
    (case z14=>k_is)
    (case z15=>k_is)
    (case RA0=>k_is)
    (case RA2=>k_is)
    (case RA3=>k_is)
    (case RA4=>k_is)
    (case RA5=>k_is)
    (case RA6=>k_is)
    (case RA7=>k_is)
    (case RA8=>k_is)
    (case RA9=>k_is)
    (case RA12=>k_is)
    (case RM_=>k_is)
    (case Rlk2=>k_is)
    (case Rq2=>rfl)
    (case Rlk3=>k_is)
    (case Rq3=>rfl)
    (case Rex3=>k_exc)
    (case Rlk4=>k_is)
    (case Rq4=>rfl)
    (case Rex4=>k_exc)
    (case Rlk5=>k_is)
    (case Rq5=>rfl)
    (case Rex5=>k_exc)
    (case Rlk9=>k_is)
    (case Rq9=>rfl)
    (case Rex9=>k_exc)
    (case Rkp2=>k_is)
    (case Rga2=>k_is)
    (case Rgh2=>k_is)
    (case Rha2=>k_is)
    (case Rhm2=>k_is)
    (case Rsa2=>k_is)
    (case Ro0_2=>kit_is)
    (case Ro2_2=>kit_is)
    (case Ro3_2=>kit_is)
    (case Ro4_2=>kit_is)
    (case Ro5_2=>kit_is)
    (case Ro6_2=>kit_is)
    (case Ro7_2=>kit_is)
    (case Ro8_2=>kit_is)
    (case Ro9_2=>kit_is)
    (case Ro12_2=>kit_is)
    (case Rve2=>kit_is)
    (case Rem2=>kts_exm)
    (case Rn2_0=>k_is)
    (case Rhi2=>k_is)
    (case Rhf2=>k_is)
    (case RlI2=>k_is)
    (case RcI2=>k_is)
    (case RkI2=>k_is)
    (case Rkp3=>k_is)
    (case Rga3=>k_is)
    (case Rgh3=>k_is)
    (case Rha3=>k_is)
    (case Rhm3=>k_is)
    (case Rsa3=>k_is)
    (case Ro0_3=>kit_is)
    (case Ro2_3=>kit_is)
    (case Ro3_3=>kit_is)
    (case Ro4_3=>kit_is)
    (case Ro5_3=>kit_is)
    (case Ro6_3=>kit_is)
    (case Ro7_3=>kit_is)
    (case Ro8_3=>kit_is)
    (case Ro9_3=>kit_is)
    (case Ro12_3=>kit_is)
    (case Rve3=>kit_is)
    (case Rem3=>kts_exm)
    (case Rkp4=>k_is)
    (case Rga4=>k_is)
    (case Rgh4=>k_is)
    (case Rha4=>k_is)
    (case Rhm4=>k_is)
    (case Rsa4=>k_is)
    (case Ro0_4=>kit_is)
    (case Ro2_4=>kit_is)
    (case Ro3_4=>kit_is)
    (case Ro4_4=>kit_is)
    (case Ro5_4=>kit_is)
    (case Ro6_4=>kit_is)
    (case Ro7_4=>kit_is)
    (case Ro8_4=>kit_is)
    (case Ro9_4=>kit_is)
    (case Ro12_4=>kit_is)
    (case Rve4=>kit_is)
    (case Rem4=>kts_exm)
    (case Rkp5=>k_is)
    (case Rga5=>k_is)
    (case Rgh5=>k_is)
    (case Rha5=>k_is)
    (case Rhm5=>k_is)
    (case Rsa5=>k_is)
    (case Ro0_5=>kit_is)
    (case Ro2_5=>kit_is)
    (case Ro3_5=>kit_is)
    (case Ro4_5=>kit_is)
    (case Ro5_5=>kit_is)
    (case Ro6_5=>kit_is)
    (case Ro7_5=>kit_is)
    (case Ro8_5=>kit_is)
    (case Ro9_5=>kit_is)
    (case Ro12_5=>kit_is)
    (case Rve5=>kit_is)
    (case Rem5=>kts_exm)
    (case Rkp9=>k_is)
    (case Rga9=>k_is)
    (case Rgh9=>k_is)
    (case Rha9=>k_is)
    (case Rhm9=>k_is)
    (case Rsa9=>k_is)
    (case Ro0_9=>kit_is)
    (case Ro2_9=>kit_is)
    (case Ro3_9=>kit_is)
    (case Ro4_9=>kit_is)
    (case Ro5_9=>kit_is)
    (case Ro6_9=>kit_is)
    (case Ro7_9=>kit_is)
    (case Ro8_9=>kit_is)
    (case Ro9_9=>kit_is)
    (case Ro12_9=>kit_is)
    (case Rve9=>kit_is)
    (case Rem9=>kts_exm)
    (case Rhn=>k_is)
    (case Rtk=>k_is)
    (case RzV=>k_is)
    (case zset=>k_is)
    (case zzip=>k_is)
    (case zall=>k_is)
    (case aMC=>k_is)
    (case aMH=>k_is)
    (case aMU=>k_is)
    (case aJ=>k_is)
    (case lJ=>k_is)
    (case aP=>k_is)
    (case lP=>k_is)
    (case mP=>rfl)
    (case tp0=>k_is)
    (case tp1=>k_is)
    (case tp2=>k_is)
    (case tp3=>k_is)
    (case tp4=>k_is)
    (case tp5=>k_is)
    (case tp6=>k_is)
    (case tp7=>k_is)
    (case tp8=>k_is)
    (case tp9=>k_is)
    (case aMR=>k_is)
    (case ca0=>k_is)
    (case cp0=>k_is)
    (case cd0_=>k_is)
    (case co0=>k_is)
    (case cs0=>k_is)
    (case cf0_0=>k_is)
    (case cf0_1=>k_is)
    (case cm0_=>k_is)
    (case ck0=>k_is)
    (case am0_0=>k_is)
    (case lm0_0=>k_is)
    (case cm0_0=>k_is)
    (case im0_0=>k_is)
    (case km0_0=>k_is)
    (case am0_1=>k_is)
    (case lm0_1=>k_is)
    (case cm0_1=>k_is)
    (case im0_1=>k_is)
    (case km0_1=>k_is)
    (case am0_2=>k_is)
    (case lm0_2=>k_is)
    (case cm0_2=>k_is)
    (case im0_2=>k_is)
    (case km0_2=>k_is)
    (case ca1=>k_is)
    (case cp1=>k_is)
    (case cd1_=>k_is)
    (case co1=>k_is)
    (case cs1=>k_is)
    (case cf1_0=>k_is)
    (case cf1_1=>k_is)
    (case cm1_=>k_is)
    (case ck1=>k_is)
    (case am1_0=>k_is)
    (case lm1_0=>k_is)
    (case cm1_0=>k_is)
    (case im1_0=>k_is)
    (case km1_0=>k_is)
    (case am1_1=>k_is)
    (case lm1_1=>k_is)
    (case cm1_1=>k_is)
    (case im1_1=>k_is)
    (case km1_1=>k_is)
    (case am1_2=>k_is)
    (case lm1_2=>k_is)
    (case cm1_2=>k_is)
    (case im1_2=>k_is)
    (case km1_2=>k_is)
    (case am1_3=>k_is)
    (case lm1_3=>k_is)
    (case cm1_3=>k_is)
    (case im1_3=>k_is)
    (case km1_3=>k_is)
#print axioms PySem.Challenge.cw_marchmend_k53_no_mended_holds
