import PyProof.Rows.All
import Wide.All
import OpenK.AllK
import Wide.FinOn
import Lean
import PyProof.EqAt
import PyProof.EqKinds
import PyProof.TupleCall
import PyProof.StrLawsTight
import PyProof.Rows.StrJoin2
import PyProof.Rows.StrSplitJoin
import KE.KTab
import PyProof.ZipIter
import PyProof.Rows.TupIter
import PyProof.Rows.SortWalk
import PyProof.Rows.SortStr
import PyProof.ConsumeWalk
import KE.KRevSl
import KE.KTryMore
import PyProof.NsDelKeeps
import KE.KIntText
import PyProof.NeKinds
import KE.KDictLaws
import PyProof.DictIter
import PyProof.DictWalks
import PyProof.DictItems
import KE.KSortTup
import KE.KDictList
import PyProof.SetKind
import PyProof.SetRoads
import PyProof.Rows.SetFrom
import PyProof.CollectWalk
import PyProof.CollectIter
import PyProof.Rows.SortShell
import PyProof.Rows.MinMaxN
import KE.KNestM
import KE.KLam
import KE.KMinKey
import PyProof.Rows.CallKwBuiltin
import KE.RegKTryMore
import PySem.Challenge.RW_marchmend_k69_twenty_tests
set_option Elab.async false
set_option linter.all false
set_option maxRecDepth 100000
set_option maxHeartbeats 8000000
noncomputable section
open List (length_map mem_cons mem_cons_of_mem mem_map size_toArray getElem?_eq_getElem mem_cons_self length_cons getElem?_map map_cons map_append nodup_cons lookup_cons mem_of_getElem? length_append mem_singleton mem_append mem_append_right length_take all_eq_true find?_cons length_drop any_cons getElem?_of_mem mem_range append_nil replicate_succ take_length getElem_mem mem_filter)
open Nat (le_refl ne_of_lt lt_of_lt_of_le le_trans zero_le lt_irrefl ne_of_gt le_of_lt)
open PySem.Heap (lt_size get?_push_of_some get?_push_size get?_update_other size_push)
open Array (length_toList)
open Int (emod_nonneg emod_lt_of_pos)
namespace L2
open PySem PySem.Spec PyProof.Rows
theorem zl{n:Nat}(h:Nat.ble n 99=true:=by rfl):n<=sizeLine:=le_trans (Nat.le_of_ble_eq_true h) (by decide)
noncomputable abbrev Key:=Sum Int Str
noncomputable def yf3:Key->Value->Bool
 |.inl k,v=>Value.isInt k v
 |.inr x,v=>Value.isStrOf x v
noncomputable def keyH(w:World):Key->Int
 |.inl k=>hashInt k
 |.inr x=>hashStr w x
theorem yan:∀{k:Key}{v:Value},yf3 k v=true->(∃i t,k=Sum.inl i/\v=Value.int i t)\/(∃x t,k=Sum.inr x/\v=Value.str x t)
 |.inl i,v,h=>by
  obtain ⟨t,e⟩:=Value.isInt_shape (k:=i) (v:=v) h
  exact .inl ⟨i,t,rfl,e⟩
 |.inr x,v,h=>by
  obtain ⟨t,e⟩:=Value.isStrOf_shape (x:=x) (v:=v) h
  exact .inr ⟨x,t,rfl,e⟩
theorem qha(i:Int)(t:Tok):yf3 (.inl i) (.int i t)=true:=by simp[yf3,Value.isInt]
theorem qgj(x:Str)(t:Tok):yf3 (.inr x) (.str x t)=true:=by simp[yf3,Value.isStrOf]
theorem key_ll(a b:Int):decide ((Sum.inl a:Key)=Sum.inl b)=(a == b):=by
 by_cases e:a=b
 ·subst e;simp
 ·have h:¬ (Sum.inl a:Key)=Sum.inl b:=λq=>e (Sum.inl.inj q)
  rw[decide_eq_false h]
  exact (beq_eq_false_iff_ne.mpr e).symm
theorem key_rr(a b:Str):decide ((Sum.inr a:Key)=Sum.inr b)=decide (a=b):=by
 by_cases e:a=b
 ·subst e;simp
 ·have h:¬ (Sum.inr a:Key)=Sum.inr b:=λq=>e (Sum.inr.inj q)
  rw[decide_eq_false h,decide_eq_false e]
theorem key_lr(a:Int)(b:Str):decide ((Sum.inl a:Key)=Sum.inr b)=false:=decide_eq_false (λq=>nomatch q)
theorem key_rl(a:Str)(b:Int):decide ((Sum.inr a:Key)=Sum.inl b)=false:=decide_eq_false (λq=>nomatch q)
noncomputable def yas(prog:Program)(w:World):PySem.KeyKind prog w Key where
 is:=yf3
 hash:=keyH w
 inj:=λv a b ha hb=>by
  rcases yan ha with ⟨i,t,rfl,rfl⟩|⟨x,t,rfl,rfl⟩
  ·rcases yan hb with ⟨j,u,rfl,e⟩|⟨y,u,rfl,e⟩
   ·injection e with e1 _;rw[e1]
   ·exact nomatch e
  ·rcases yan hb with ⟨j,u,rfl,e⟩|⟨y,u,rfl,e⟩
   ·exact nomatch e
   ·injection e with e1 _;rw[e1]
 byValue:=λk v h=>by
  rcases yan h with ⟨i,t,rfl,rfl⟩|⟨x,t,rfl,rfl⟩<;>rfl
 pyHash:=λhv h=>by
  rcases yan hv with ⟨i,t,rfl,rfl⟩|⟨x,t,rfl,rfl⟩
  ·exact wpAny_pyHash_int h
  ·exact wpAny_pyHash_str h
 eqBool:=λhu hv h=>by
  rcases yan hu with ⟨i,t,rfl,rfl⟩|⟨x,t,rfl,rfl⟩
  ·rcases yan hv with ⟨j,u,rfl,rfl⟩|⟨y,u,rfl,rfl⟩
   ·rw[key_ll]at h;exact wpAny_eqBool_int h
   ·rw[key_lr]at h;exact SeqAt.EqAt.int_str i t y u _ _ _ _ h
  ·rcases yan hv with ⟨j,u,rfl,rfl⟩|⟨y,u,rfl,rfl⟩
   ·rw[key_rl]at h;exact SeqAt.EqAt.str_int x t j u _ _ _ _ h
   ·rw[key_rr]at h;exact wpAny_eqBool_str h
 «strs»:=λk x t v h=>by
  rcases yan h with ⟨i,u,rfl,e⟩|⟨y,u,rfl,e⟩
  ·exact nomatch e
  ·injection e with e1 _
   subst e1
   cases v<;>rfl
theorem yfh(prog:Program)(w:World)(i:Int)(t:Tok):(yas prog w).is (.inl i) (.int i t)=true:=qha i t
theorem qfi(prog:Program)(w:World)(x:Str)(t:Tok):(yas prog w).is (.inr x) (.str x t)=true:=qgj x t
end L2
namespace L2
open PySem PySem.Spec PyProof.Rows
inductive V where
 |non|bl (b:Bool)|int (i:Int)|str (x:Str)|byt (b:Array UInt8)|flt (b:UInt64)|ref (a:Addr)|ty (n:String)
 deriving DecidableEq
noncomputable def RelV:V->Value->Prop
 |.non,u=>u=Value.none
 |.bl b,u=>u=Value.bool b
 |.int i,u=>∃t,u=Value.int i t
 |.str x,u=>∃t,u=Value.str x t
 |.byt b,u=>∃t,u=Value.bytes b t
 |.flt b,u=>∃t,u=Value.float b t
 |.ref a,u=>u=Value.ref a
 |.ty n,u=>u=Value.type n
noncomputable abbrev Vals:List V->List Value->Prop:=Paired RelV
theorem Vals.length{xs:List V}{us:List Value}(r:Vals xs us):xs.length=us.length:=Paired.length r
theorem Vals.get:∀{xs:List V}{us:List Value}{i:Nat}{x:V},Vals xs us->xs[i]?=some x->∃u,us[i]?=some u/\RelV x u
 |_,_,_,_,.nil,e=>by simp at e
 |_,_,0,_,.cons r _,e=>by simp at e;subst e;exact ⟨_,rfl,r⟩
 |_,_,i+1,x,.cons _ t,e=>by
  obtain ⟨u,h1,h2⟩:=Vals.get (i:=i) (x:=x) t (by simpa using e)
  exact ⟨u,by simpa using h1,h2⟩
theorem Vals.append:∀{xs ys:List V}{us ws:List Value},Vals xs us->Vals ys ws->Vals (xs++ys) (us++ws)
 |_,_,_,_,.nil,s=>s
 |_,_,_,_,.cons r t,s=>.cons r (Vals.append t s)
theorem Vals.take:∀{xs:List V}{us:List Value} (n:Nat),Vals xs us->Vals (xs.take n) (us.take n)
 |_,_,0,_=>.nil
 |_,_,_+1,.nil=>.nil
 |_,_,n+1,.cons r t=>.cons r (Vals.take n t)
theorem Vals.drop:∀{xs:List V}{us:List Value} (n:Nat),Vals xs us->Vals (xs.drop n) (us.drop n)
 |_,_,0,r=>r
 |_,_,_+1,.nil=>.nil
 |_,_,n+1,.cons _ t=>Vals.drop n t
noncomputable def RelO:Option V->Option Value->Prop
 |some v,some u=>RelV v u
 |none,none=>True
 |_,_=>False
noncomputable def KV{κ:Type}:List (κ×V)->List (κ×Value)->Prop:=Paired λ(p:κ×V) (q:κ×Value)=>p.1=q.1/\RelV p.2 q.2
noncomputable def kV:Key->V
 |.inl i=>.int i
 |.inr x=>.str x
inductive HO where
 |lst (xs:List V)
 |tup (xs:List V)
 |dK (kvs:List (Key×V))|dT (kvs:List (List Key×V))
 |set (S:Int->Bool) (n:Nat)
 |ins (C dx:Addr) (fs:List (Str×V))
 |own (x:Addr)
 |xd (fs:List (Str×V))
 |met (f x:Addr)
 |rng (lo hi:Int)
 |frz (o:Obj) (u:HO)
 |tbl (ps:Array Value)
 |ext (φ:Heap->Prop)
noncomputable abbrev Hp:=Addr->Option HO
noncomputable def upd(H:Hp)(a:Addr)(o:HO):Hp:=λb=>if b=a then some o else H b
theorem yaa{H:Hp}{a:Addr}{o:HO}:upd H a o a=some o:=by unfold upd;rw[if_pos rfl]
theorem qaf{H:Hp}{a b:Addr}{o:HO}(h:b≠a):upd H a o b=H b:=by unfold upd;rw[if_neg h]
theorem upd_upd{H:Hp}{a:Addr}{o u:HO}:upd (upd H a o) a u=upd H a u:=by
 funext b;unfold upd;split<;>rfl
theorem ne_of{H:Hp}{a b:Addr}{o u:HO}(h:H a=some o)(h':H b=some u)(d:o≠u):a≠b:=by
 intro e;subst e;rw[h]at h';exact d (Option.some.inj h')
theorem qae{H:Hp}{a b:Addr}{o:HO}(h:H a=some o)(h':H b=none):a≠b:=by
 intro e;subst e;rw[h]at h';cases h'
section
variable (P:Program) (w:World)
noncomputable def qat(H:Hp)(h:Heap)(a:Addr):HO->Prop
 |.lst xs=>xs.length<=sizeLine/\∃(its:List Value) (n:Nat),Vals xs its/\h.get? a=some { cls:=.type "list",data:=.seq its.toArray n }
 |.tup xs=>xs.length<=sizeLine/\∃its:List Value,Vals xs its/\IsTup h a its.toArray
 |.dK kvs=>kvs.length<=sizeLine/\(a == sysModules)=false/\∃vs,KV kvs vs/\h.DictOf (yas P w) a vs
 |.dT kvs=>kvs.length<=sizeLine/\(a == sysModules)=false/\∃xs:List (List Key×Addr×Value),
   Paired (λ(p:List Key×V) (q:List Key×Addr×Value)=>p.1=q.1/\H q.2.1=some (.tup (p.1.map kV))/\RelV p.2 q.2.2) kvs xs/\
   ∃o es ep,h.get? a=some o/\o.ExactDict/\o.data=.dict es ep/\es.toList=xs.map (entryOfKey (tupleKind (yas P w)))/\(xs.map (·.1)).Nodup
 |.set S n=>h.SetOf (intKind P w) a S n
 |.ins C dx fs=>H dx=some (.own a)/\fs.length<=1000/\dx≠a/\h.get? a=some (W.instObj C dx)/\
   ∃mA,h.Ns1 dx mA/\(∀f,RelO (fs.lookup f) (mA f))/\PySem.Within mA (fs.map (·.1))
 |.own _=>∃o,h.get? a=some o
 |.xd fs=>∃mA,h.Ns1 a mA/\∀f,RelO (fs.lookup f) (mA f)
 |.rng lo hi=>∃t u v,h.get? a=some { cls:=.type "range",data:=.fields #[.int lo t,.int hi u,.int 1 v] }
 |.frz o u=>h.get? a=some o/\qat H h a u
 |.tbl ps=>h.get? a=some { cls:=.none,data:=.fields ps }
 |.met f x=>h.get? a=some (W.methodObj (.ref f) (.ref x))
 |.ext φ=>φ h/\(∃o,h.get? a=some o)/\∀h1 h2:Heap,φ h1->(∀o,h1.get? a=some o->h2.get? a=some o)->φ h2
noncomputable def HOk(H:Hp)(h:Heap):Prop:=∀a o,H a=some o->qat P w H h a o
end
section
variable {P:Program}{w:World}{H H':Hp}{h h':Heap}{a:Addr}{o:HO}
theorem qat.lt(x:qat P w H h a o):a<h.objs.size:=by
 cases o with
 |lst xs=>obtain ⟨_,_,_,_,e⟩:=x;exact lt_size e
 |tup xs=>obtain ⟨_,_,_,p⟩:=x;exact p.lt
 |dK kvs=>obtain ⟨_,_,_,_,o,_,_,e,_⟩:=x;exact lt_size e
 |dT kvs=>obtain ⟨_,_,_,_,o,_,_,e,_⟩:=x;exact lt_size e
 |set S n=>obtain ⟨o,_,_,_,e,_⟩:=x;exact lt_size e
 |ins C dx fs=>obtain ⟨_,_,_,e,_⟩:=x;exact lt_size e
 |own y=>obtain ⟨_,e⟩:=x;exact lt_size e
 |xd fs=>obtain ⟨_,⟨_,_,_,e,_⟩,_⟩:=x;exact lt_size e
 |rng lo hi=>obtain ⟨_,_,_,e⟩:=x;exact lt_size e
 |frz ob u=>obtain ⟨e,_⟩:=x;exact lt_size e
 |tbl ps=>exact lt_size (show h.get? a=some _ from x)
 |met f y=>exact lt_size (show h.get? a=some _ from x)
 |ext φ=>obtain ⟨_,⟨_,e⟩,_⟩:=x;exact lt_size e
theorem Paired.mapP{α β:Type}{F G:α->β->Prop}:∀{l₁:List α}{l₂:List β},Paired F l₁ l₂->(∀a b,F a b->G a b)->Paired G l₁ l₂
 |_,_,.nil,_=>.nil
 |_,_,.cons r t,f=>.cons (f _ _ r) (Paired.mapP t f)
theorem qat.stay(x:qat P w H h a o)(k:∀b u,(b=a\/H b=some (.own a))->h.get? b=some u->h'.get? b=some u)
  (ho:∀b,H b=some (.own a)->H' b=some (.own a)) (ht:∀b xs,H b=some (.tup xs)->H' b=some (.tup xs)):qat P w H' h' a o:=by
 induction o with
 |lst xs=>obtain ⟨z,its,n,r,e⟩:=x;exact ⟨z,its,n,r,k _ _ (.inl rfl) e⟩
 |tup xs=>obtain ⟨z,its,r,ob,e,c⟩:=x;exact ⟨z,its,r,ob,k _ _ (.inl rfl) e,c⟩
 |dK kvs=>obtain ⟨z,y,vs,r,ob,es,ep,e,c⟩:=x;exact ⟨z,y,vs,r,ob,es,ep,k _ _ (.inl rfl) e,c⟩
 |dT kvs=>
  obtain ⟨z,y,xs,r,ob,es,ep,e,c⟩:=x
  exact ⟨z,y,xs,Paired.mapP r λp q z=>⟨z.1,ht _ _ z.2.1,z.2.2⟩,ob,es,ep,k _ _ (.inl rfl) e,c⟩
 |set S n=>obtain ⟨ob,es,ep,t,e,c⟩:=x;exact ⟨ob,es,ep,t,k _ _ (.inl rfl) e,c⟩
 |ins C dx fs=>
  obtain ⟨d,z,ne,e,mA,⟨od,es,ep,e2,c⟩,r⟩:=x
  exact ⟨ho _ d,z,ne,k _ _ (.inl rfl) e,mA,⟨od,es,ep,k _ _ (.inr d) e2,c⟩,r⟩
 |own y=>obtain ⟨ob,e⟩:=x;exact ⟨ob,k _ _ (.inl rfl) e⟩
 |xd fs=>obtain ⟨mA,⟨od,es,ep,e,c⟩,r⟩:=x;exact ⟨mA,⟨od,es,ep,k _ _ (.inl rfl) e,c⟩,r⟩
 |rng lo hi=>obtain ⟨t,u,v,e⟩:=x;exact ⟨t,u,v,k _ _ (.inl rfl) e⟩
 |frz ob u ih=>obtain ⟨e,q⟩:=x;exact ⟨k _ _ (.inl rfl) e,ih q⟩
 |tbl ps=>
  have e:h.get? a=some { cls:=.none,data:=.fields ps }:=x
  show h'.get? a=some { cls:=.none,data:=.fields ps }
  exact k a _ (.inl rfl) e
 |met f y=>
  have e:h.get? a=some (W.methodObj (.ref f) (.ref y)):=x
  show h'.get? a=some (W.methodObj (.ref f) (.ref y))
  exact k a _ (.inl rfl) e
 |ext φ=>obtain ⟨p,⟨o,e⟩,st⟩:=x;exact ⟨st _ _ p λo q=>k _ _ (.inl rfl) q,⟨o,k _ _ (.inl rfl) e⟩,st⟩
theorem HOk.lt(x:HOk P w H h)(e:H a=some o):a<h.objs.size:=(x a o e).lt
theorem HOk.fresh(x:HOk P w H h)(e:h.objs.size<=a):H a=none:=by
 cases q:H a with
 |none=>rfl
 |some u=>exact absurd (lt_of_lt_of_le (x.lt q) e) (lt_irrefl _)
theorem HOk.kept(x:HOk P w H h)(k:∀b u,h.get? b=some u->h'.get? b=some u):HOk P w H h':=λa o e=>
 (x a o e).stay (λb u _ q=>k b u q) (λ_ q=>q) λ_ _ q=>q
theorem HOk.laid(x:HOk P w H h)(k:∀b u,h.get? b=some u->h'.get? b=some u)(hp:h.objs.size<=a)(new:qat P w (upd H a o) h' a o):HOk P w (upd H a o) h':=λb u e=>by
 have hn:=x.fresh hp
 by_cases hb:b=a
 ·subst hb;rw[yaa]at e;cases e;exact new
 ·rw[qaf hb]at e
  exact (x b u e).stay (λc v _ q=>k c v q) (λc q=>by rw[qaf (qae q hn)];exact q) λc xs q=>by rw[qaf (qae q hn)];exact q
end
noncomputable def Rd(H:Hp)(a:Addr)(u:HO):Prop:=H a=some u\/∃o,H a=some (.frz o u)
theorem Rd.ok{P:Program}{w:World}{H:Hp}{h:Heap}{a:Addr}{u:HO}(r:Rd H a u)(x:HOk P w H h):qat P w H h a u:=by
 rcases r with r|⟨o,r⟩
 ·exact x a u r
 ·obtain ⟨_,q⟩:=x a _ r
  exact q
noncomputable def Mut:Option HO->Prop
 |some (.lst _)=>True
 |some (.dK _)=>True
 |some (.dT _)=>True
 |some (.set _ _)=>True
 |some (.ins _ _ _)=>True
 |some (.ext _)=>True
 |_=>False
section
variable {P:Program}{w:World}{H:Hp}{h h':Heap}{x e:Addr}{o':HO}
theorem HOk.write(ok:HOk P w H h)(mu:Mut (H x))(he:e=x\/H e=some (.own x))(k:∀b u,b≠e->h.get? b=some u->h'.get? b=some u)(heo:∃u,h'.get? e=some u)
  (new:qat P w (upd H x o') h' x o'):HOk P w (upd H x o') h':=λb u q=>by
 have nown:∀c y,H c=some (.own y)->c≠x:=λc y r z=>by subst z;rw[r]at mu;exact mu
 have ntup:∀c xs,H c=some (.tup xs)->c≠x:=λc xs r z=>by subst z;rw[r]at mu;exact mu
 by_cases hb:b=x
 ·subst hb;rw[yaa]at q;cases q;exact new
 ·rw[qaf hb]at q
  by_cases hbe:b=e
  ·have q':H b=some (.own x):=by
    rcases he with z|z
    ·exact absurd (hbe.trans z) hb
    ·rw[hbe];exact z
   rw[q]at q';cases q'
   obtain ⟨v,hv⟩:=heo
   exact ⟨v,by rw[hbe];exact hv⟩
  ·refine (ok b u q).stay (λc v hc r=>k c v ?_ r) (λc r=>by rw[qaf (nown c b r)];exact r) λc xs r=>by rw[qaf (ntup c xs r)];exact r
   rcases hc with rfl|hc
   ·exact hbe
   ·rintro rfl
    rcases he with z|z
    ·exact nown c b hc z
    ·rw[hc]at z;cases z;exact hb rfl
end
structure Un(fs ex:List Addr)(H H':Hp)(h h':Heap):Prop where
 keep:∀b o,h.get? b=some o->H b=none->b∉fs->b∉ex->h'.get? b=some o
 slot:∀b o,h.get? b=some o->H b=none->b∈fs->b∉ex->∃sl,h'.get? b=some { o with slots:=sl }
 free:∀b o,h.get? b=some o->H b=none->b∉ex->H' b=none
 there:∀b o,h.get? b=some o->b∉ex->∃o',h'.get? b=some o'
 tups:∀b xs,H b=some (.tup xs)->H' b=some (.tup xs)
 frzs:∀b o u,H b=some (.frz o u)->H' b=some (.frz o u)
 tbls:∀b ps,H b=some (.tbl ps)->∃more,H' b=some (.tbl (ps++more))
section
variable {fs fs' ex ex':List Addr}{H H1 H2:Hp}{h h1 h2 h':Heap}{a x e:Addr}{o:HO}
theorem Un.any(u:Un fs ex H H1 h h1){b:Addr}{ob:Obj}(q:h.get? b=some ob)(n:H b=none)(hx:b∉ex):∃sl,h1.get? b=some { ob with slots:=sl }:=by
 by_cases hb:b∈fs
 ·exact u.slot b ob q n hb hx
 ·exact ⟨ob.slots,u.keep b ob q n hb hx⟩
theorem Un.kept(k:∀b u,h.get? b=some u->h'.get? b=some u):Un fs ex H H h h':=
 ⟨λb ob q _ _ _=>k b ob q,λb ob q _ _ _=>⟨ob.slots,k b ob q⟩,λ_ _ _ n _=>n,λb ob q _=>⟨ob,k b ob q⟩,λ_ _ q=>q,λ_ _ _ q=>q,λ_ ps q=>⟨#[],by rw[q];simp⟩⟩
theorem Un.refl:Un fs ex H H h h:=Un.kept λ_ _ q=>q
theorem Un.laid(k:∀b u,h.get? b=some u->h'.get? b=some u)(hp:h.objs.size<=a)(hn:H a=none):Un fs ex H (upd H a o) h h' where
 keep:=λb u q _ _ _=>k b u q
 slot:=λb u q _ _ _=>⟨u.slots,k b u q⟩
 free:=λb u q n _=>by rw[qaf (ne_of_lt (lt_of_lt_of_le (lt_size q) hp))];exact n
 there:=λb u q _=>⟨u,k b u q⟩
 tups:=λb xs q=>by rw[qaf (qae q hn)];exact q
 frzs:=λb u xs q=>by rw[qaf (qae q hn)];exact q
 tbls:=λb ps q=>⟨#[],by rw[qaf (qae q hn),q];simp⟩
theorem Un.write(mu:Mut (H x))(he:e=x\/H e=some (.own x))(k:∀b u,b≠e->h.get? b=some u->h'.get? b=some u)(heo:∃u,h'.get? e=some u):Un fs ex H (upd H x o) h h':=by
 have hx:∀b,H b=none->b≠x:=λb n z=>by subst z;rw[n]at mu;exact mu
 have hb:∀b,H b=none->b≠e:=λb n z=>by
  subst z
  rcases he with r|r
  ·exact hx b n r
  ·rw[n]at r;cases r
 have hm:∀b u,H b=some u->¬ Mut (some u)->b≠x:=λb u q nm z=>by subst z;rw[q]at mu;exact nm mu
 refine ⟨λb u q n _ _=>k b u (hb b n) q,λb u q n _ _=>⟨u.slots,k b u (hb b n) q⟩,λb u q n _=>by rw[qaf (hx b n)];exact n,λb u q _=>?_,
  λb xs q=>by rw[qaf (hm b _ q λz=>z)];exact q,λb u xs q=>by rw[qaf (hm b _ q λz=>z)];exact q,λb ps q=>⟨#[],by rw[qaf (hm b _ q λz=>z),q];simp⟩⟩
 by_cases hbe:b=e
 ·subst hbe;exact heo
 ·exact ⟨u,k b u hbe q⟩
end
noncomputable def trk(h:Heap)(H:Hp):List Addr:=(List.range h.objs.size).filter λa=>(H a).isSome
noncomputable def hidT(h:Heap)(H:Hp):Heap:=W.hideAll h (trk h H)
theorem qgw(h:Heap)(H:Hp):(hidT h H).objs.size=h.objs.size:=W.hideAll_size _ _
theorem hidT_get{h:Heap}{H:Hp}{b:Addr}{o:Obj}(e:h.get? b=some o)(n:H b=none):(hidT h H).get? b=some o:=
 W.hideAll_get _ e λhm=>by
  have q:(H b).isSome=true:=(mem_filter.mp hm).2
  rw[n]at q;simp at q
theorem of_hidT{h:Heap}{H:Hp}{b:Addr}{o:Obj}(e:(hidT h H).get? b=some o):h.get? b=some o/\H b=none:=by
 have e':h.get? b=some o:=W.of_hideAll (trk h H) e
 refine ⟨e',?_⟩
 cases q:H b with
 |none=>rfl
 |some x=>
  have hm:b∈trk h H:=mem_filter.mpr ⟨mem_range.mpr (lt_size e'),by simp[q]⟩
  have z:(hidT h H).get? b=none:=W.hideAll_none (trk h H) hm
  rw[z]at e;cases e
structure Mod(K:W.Frag)(mg:Str->Option Value)(base:Heap):Prop where
 kin:K.In base
 glob:base.Ns mainGlobals mg
 blt:∃mb,base.Ns builtinsNs mb/\∀x:Str,x≠"__name__"->mb x=bootBuiltins x
 nolimit:base.NoLimit
structure Cx where
 prog:Program
 w:World
 K:W.Frag
 mg:Str->Option Value
 base:Heap
 A:Around
 N:List Str
 s₀:Shared
 H₀:Hp
 env:Env
 outer:List Env
 stack:List Env
 ex:List Addr
 fn:Str->Bool
 calm:Bool
 pn:List (Addr×Obj)
 xe:Value->Shared->Prop
noncomputable def frs(l:List Env):List Addr:=l.filterMap (·.frame)
noncomputable abbrev Cx.fs(X:Cx):List Addr:=frs X.outer
noncomputable def Vis(sc:Scope)(x:Str):Prop:=sc.names.lookup x=some .local\/sc.names.lookup x=some .cell\/sc.names.lookup x=some .free
noncomputable def Loc(sc:Scope)(x:Str):Prop:=sc.names.lookup x=some .local\/sc.names.lookup x=some .cell
noncomputable def Look(env:Env)(h:Heap)(m:Str->Option Value)(x:Str)(u:Value):Prop:=
 (env.kindOf x=some .local/\m x=some u)\/((env.kindOf x=some .cell\/env.kindOf x=some .free)/\∃c,env.cells.lookup x=some c/\h.IsCell c (some u))
structure Cx.Ok(X:Cx):Prop where
 mod:Mod X.K X.mg X.base
 kind:X.env.scope.kind=.function
 glob:X.env.globals=mainGlobals
 blt:X.env.builtins=builtinsNs
 above:X.s₀.heap.objs.size<=X.env.locals
 inj:∀x y c,X.env.cells.lookup x=some c->X.env.cells.lookup y=some c->x=y
 has:∀x,(X.env.kindOf x=some .cell\/X.env.kindOf x=some .free)->∃c,X.env.cells.lookup x=some c
 cab:∀x c,X.fn x=true->X.env.cells.lookup x=some c->X.s₀.heap.objs.size<=c
 hd:X.calm=true->X.A.handled=none
 frames:X.A.frames=some X.stack
 stk:X.stack=X.outer\/(X.stack=X.env::X.outer/\X.env.frame=some X.env.locals)
 exf:∀b∈X.ex,b≠X.env.locals/\∀x c,X.env.cells.lookup x=some c->c≠b
 bs:∀b o,X.base.get? b=some o->X.s₀.heap.get? b=some o/\X.H₀ b=none
 bsz:X.base.objs.size<=X.s₀.heap.objs.size
 noex:∀b o,X.base.get? b=some o->b∉X.ex
 exfs:∀b∈X.ex,b∉X.fs
 funs:X.s₀.heap.FunFrames X.base X.outer
 frf:∀b∈X.fs,X.H₀ b=none
structure Inv(X:Cx)(pins:List (Addr×Obj))(σ:List (Option V))(H:Hp)(s:Shared):Prop where
 ok:X.Ok
 os:s.os=X.s₀.os
 bare:AllBare s.gens
 base:Un X.fs X.ex X.H₀ H X.s₀.heap s.heap
 loc:∃m,s.heap.Ns X.env.locals m/\∀(i:Nat) (x:Str) (v:V),X.N[i]?=some x->σ[i]?=some (some v)->Vis X.env.scope x->∃u,RelV v u/\Look X.env s.heap m x u
 cell:∀x c,X.env.cells.lookup x=some c->∃v,s.heap.IsCell c v
 free:H X.env.locals=none
 freeC:∀x c,X.env.cells.lookup x=some c->H c=none
 pin:∀p∈X.pn++pins,s.heap.get? p.1=some p.2/\H p.1=none/\p.1≠X.env.locals/\p.1∉X.fs/\∀v,p.2.data≠.cell v
 hok:HOk X.prog X.w H s.heap
 len:σ.length=X.N.length
section
variable {X:Cx}{pins:List (Addr×Obj)}{σ:List (Option V)}{H H':Hp}{s:Shared}{h':Heap}
theorem Cx.Ok.nofr(ok:X.Ok){b:Addr}{o:Obj}(e:X.base.get? b=some o):b∉X.fs:=λhb=>by
 have:=(ok.funs.mem hb).1
 rw[e]at this;cases this
theorem Inv.bs(I:Inv X pins σ H s):∀b o,X.base.get? b=some o->s.heap.get? b=some o/\H b=none:=λb o e=>
 ⟨I.base.keep b o (I.ok.bs b o e).1 (I.ok.bs b o e).2 (I.ok.nofr e) (I.ok.noex b o e),I.base.free b o (I.ok.bs b o e).1 (I.ok.bs b o e).2 (I.ok.noex b o e)⟩
theorem Inv.bk(I:Inv X pins σ H s):∀b o,X.base.get? b=some o->s.heap.get? b=some o:=λb o e=>(I.bs b o e).1
theorem Inv.mod(I:Inv X pins σ H s):Mod X.K X.mg X.base:=I.ok.mod
theorem Inv.kIn(I:Inv X pins σ H s):X.K.In s.heap:=I.ok.mod.kin.keeps I.bk
theorem Inv.lt(I:Inv X pins σ H s):X.env.locals<s.heap.objs.size:=let ⟨_,hn,_⟩:=I.loc;hn.lt
theorem Inv.sz(I:Inv X pins σ H s):X.s₀.heap.objs.size<=s.heap.objs.size:=le_trans I.ok.above (le_of_lt I.lt)
theorem Inv.nofs(I:Inv X pins σ H s){a:Addr}(h:s.heap.objs.size<=a):a∉X.fs:=λhb=>by
 obtain ⟨_,o,ho,_⟩:=I.ok.funs.mem hb
 exact absurd (lt_of_lt_of_le (lt_size ho) (le_trans I.sz h)) (lt_irrefl _)
theorem Inv.cne(I:Inv X pins σ H s):∀x c,X.env.cells.lookup x=some c->c≠X.env.locals:=λx c e z=>by
 obtain ⟨v,o,ho,hd⟩:=I.cell x c e
 obtain ⟨m,⟨o',es,ep,ho',hd',_⟩,_⟩:=I.loc
 rw[z,ho']at ho;cases ho;rw[hd']at hd;cases hd
theorem Inv.funs(I:Inv X pins σ H s):s.heap.FunFrames X.base X.outer:=by
 have all:∀(l:List Env),(∀b∈frs l,b∈X.fs)->X.s₀.heap.FunFrames X.base l->s.heap.FunFrames X.base l:=by
  intro l
  induction l with
  |nil=>intro _ _;trivial
  |cons env r ih=>
   intro hs hl
   obtain ⟨hk,⟨L,o,hf,hn,ho,hd⟩,hr⟩:=hl
   have hL:L∈X.fs:=hs L (by unfold frs;rw[List.filterMap_cons,hf];exact mem_cons_self)
   obtain ⟨sl,e⟩:=I.base.slot L o ho (I.ok.frf L hL) hL λz=>I.ok.exfs L z hL
   exact ⟨hk,⟨L,_,hf,hn,e,hd⟩,ih (λb hb=>hs b (by unfold frs;rw[List.filterMap_cons,hf];exact mem_cons_of_mem _ hb)) hr⟩
 exact all X.outer (λ_ hb=>hb) I.ok.funs
theorem Inv.stack(I:Inv X pins σ H s):s.heap.FunFrames X.base X.stack:=by
 rcases I.ok.stk with e|⟨e,hf⟩
 ·rw[e];exact I.funs
 ·rw[e]
  obtain ⟨m,hn,_⟩:=I.loc
  refine .cons (by rw[I.ok.kind];decide) hf hn ?_ I.funs
  exact Heap.get?_none_of_le (le_trans I.ok.bsz I.ok.above)
theorem Inv.stkSub(I:Inv X pins σ H s):∀b∈frs X.stack,b∈X.env.locals::X.fs:=λb hb=>by
 rcases I.ok.stk with e|⟨e,hf⟩
 ·rw[e]at hb;exact mem_cons_of_mem _ hb
 ·rw[e]at hb
  unfold frs at hb
  rw[List.filterMap_cons,hf]at hb
  exact hb
theorem Inv.stkFree(I:Inv X pins σ H s):∀b∈frs X.stack,H b=none:=λb hb=>by
 rcases mem_cons.mp (I.stkSub b hb) with e|hb
 ·rw[e];exact I.free
 ·obtain ⟨_,o,ho,_⟩:=I.ok.funs.mem hb
  exact I.base.free b o ho (I.ok.frf b hb) λz=>I.ok.exfs b z hb
theorem Inv.step{g':Array GenState}{t':Nat}{d':Drawn}{ch:List Addr}(I:Inv X pins σ H s)
  (hch:∀b∈ch,(b∈X.ex\/X.s₀.heap.objs.size<=b)/\b≠X.env.locals/\(∀x c,X.env.cells.lookup x=some c->c≠b)/\∀p∈X.pn++pins,p.1≠b)
  (keep:∀b o,b≠X.env.locals->b∉X.fs->b∉ch->s.heap.get? b=some o->H b=none->h'.get? b=some o)
  (slot:∀b o,b≠X.env.locals->b∈X.fs->b∉ch->s.heap.get? b=some o->H b=none->∃sl,h'.get? b=some { o with slots:=sl }) (free:∀b o,b∉ch->s.heap.get? b=some o->H b=none->H' b=none)
  (there:∀b o,b∉ch->s.heap.get? b=some o->∃o',h'.get? b=some o')
  (tups:∀b xs,H b=some (.tup xs)->H' b=some (.tup xs)) (frzs:∀b o u,H b=some (.frz o u)->H' b=some (.frz o u)) (tbls:∀b ps,H b=some (.tbl ps)->∃more,H' b=some (.tbl (ps++more)))
  (ns:∀m,s.heap.Ns X.env.locals m->h'.Ns X.env.locals m) (hok:HOk X.prog X.w H' h') (hg:AllBare g') :
  Inv X pins σ H' { s with heap:=h',gens:=g',drawn:=d',toks:=t' }:=by
 have neL:∀b o,X.s₀.heap.get? b=some o->b≠X.env.locals:=λb o e=>ne_of_lt (lt_of_lt_of_le (lt_size e) I.ok.above)
 have neC:∀b o,X.s₀.heap.get? b=some o->b∉X.ex->b∉ch:=λb o e hx hb=>by
  rcases (hch b hb).1 with z|z
  ·exact hx z
  ·exact absurd (lt_of_lt_of_le (lt_size e) z) (lt_irrefl _)
 have cellK:∀x c,X.env.cells.lookup x=some c->∀v,s.heap.IsCell c v->h'.IsCell c v:=λx c e v ⟨o,ho,hd⟩=>by
  have nch:c∉ch:=λz=>(hch c z).2.2.1 x c e rfl
  by_cases hc:c∈X.fs
  ·obtain ⟨sl,q⟩:=slot c o (I.cne x c e) hc nch ho (I.freeC x c e)
   exact ⟨_,q,hd⟩
  ·exact ⟨o,keep c o (I.cne x c e) hc nch ho (I.freeC x c e),hd⟩
 refine ⟨I.ok,I.os,hg,⟨λb o e n hb hx=>?_,λb o e n hb hx=>?_,λb o e n hx=>?_,λb o e hx=>?_,λb xs e=>tups b xs (I.base.tups b xs e),λb o xs e=>frzs b o xs (I.base.frzs b o xs e),λb ps e=>?_⟩,?_,λx c e=>?_,?_,λx c e=>?_,λp hp=>?_,hok,I.len⟩
 ·exact keep b o (neL b o e) hb (neC b o e hx) (I.base.keep b o e n hb hx) (I.base.free b o e n hx)
 ·obtain ⟨sl,e1⟩:=I.base.slot b o e n hb hx
  obtain ⟨sl',e2⟩:=slot b _ (neL b o e) hb (neC b o e hx) e1 (I.base.free b o e n hx)
  exact ⟨sl',e2⟩
 ·obtain ⟨o',e1⟩:=I.base.there b o e hx
  exact free b o' (neC b o e hx) e1 (I.base.free b o e n hx)
 ·obtain ⟨o',e1⟩:=I.base.there b o e hx
  exact there b o' (neC b o e hx) e1
 ·obtain ⟨m1,e1⟩:=I.base.tbls b ps e
  obtain ⟨m2,e2⟩:=tbls b _ e1
  exact ⟨m1++m2,by rw[e2,Array.append_assoc]⟩
 ·obtain ⟨m,hn,hl⟩:=I.loc
  refine ⟨m,ns m hn,λi x v e1 e2 e3=>?_⟩
  obtain ⟨u,r,l⟩:=hl i x v e1 e2 e3
  refine ⟨u,r,?_⟩
  rcases l with l|⟨k,c,e,z⟩
  ·exact .inl l
  ·exact .inr ⟨k,c,e,cellK x c e _ z⟩
 ·obtain ⟨v,z⟩:=I.cell x c e
  exact ⟨v,cellK x c e v z⟩
 ·obtain ⟨m,⟨o,_,_,ho,_⟩,_⟩:=I.loc
  exact free _ o (λz=>(hch _ z).2.1 rfl) ho I.free
 ·obtain ⟨v,o,ho,hd⟩:=I.cell x c e
  exact free c o (λz=>(hch c z).2.2.1 x c e rfl) ho (I.freeC x c e)
 ·obtain ⟨e,n,ne,nf,d⟩:=I.pin p hp
  have nch:p.1∉ch:=λz=>(hch p.1 z).2.2.2 p hp rfl
  exact ⟨keep p.1 p.2 ne nf nch e n,free p.1 p.2 nch e n,ne,nf,d⟩
theorem Inv.un{t':Nat}(I:Inv X pins σ H s)(u:Un X.fs [] H H' s.heap h')(hok:HOk X.prog X.w H' h'):Inv X pins σ H' { s with heap:=h',toks:=t' }:=by
 obtain ⟨m,⟨o,es,ep,ho,r⟩,_⟩:=id I.loc
 obtain ⟨sl,hL⟩:=u.any ho I.free (by simp)
 exact I.step (g':=s.gens) (d':=s.drawn) (ch:=[]) (λ_ z=>nomatch z) (λb o _ hb _ e n=>u.keep b o e n hb (by simp)) (λb o _ hb _ e n=>u.slot b o e n hb (by simp)) (λb o _ e n=>u.free b o e n (by simp)) (λb o _ e=>u.there b o e (by simp)) u.tups u.frzs u.tbls (λm' hm=>by
  obtain ⟨o',es',ep',ho',r'⟩:=hm
  rw[ho]at ho';cases ho'
  exact ⟨_,es',ep',hL,r'⟩) hok I.bare
theorem Inv.call{g':Array GenState}{t':Nat}{d':Drawn}{ch:List Addr}(I:Inv X pins σ H s)(u:Un (frs X.stack) ch H H' s.heap h')(hok:HOk X.prog X.w H' h')(hg:AllBare g')
  (hch:∀b∈ch,(b∈X.ex\/X.s₀.heap.objs.size<=b)/\b≠X.env.locals/\(∀x c,X.env.cells.lookup x=some c->c≠b)/\∀p∈X.pn++pins,p.1≠b) :
  Inv X pins σ H' { s with heap:=h',gens:=g',drawn:=d',toks:=t' }:=by
 obtain ⟨m,⟨o,es,ep,ho,r⟩,_⟩:=id I.loc
 obtain ⟨sl,hL⟩:=u.any ho I.free λz=>(hch _ z).2.1 rfl
 exact I.step (ch:=ch) hch (λb o hL hb hc e n=>u.keep b o e n (λz=>(mem_cons.mp (I.stkSub b z)).elim hL hb) hc) (λb o _ _ hc e n=>u.any e n hc) (λb o hc e n=>u.free b o e n hc) (λb o hc e=>u.there b o e hc) u.tups u.frzs u.tbls (λm' hm=>by
  obtain ⟨o',es',ep',ho',r'⟩:=hm
  rw[ho]at ho';cases ho'
  exact ⟨_,es',ep',hL,r'⟩) hok hg
theorem Inv.turned{t':Nat}{it:Addr}(I:Inv X pins σ H s)(k:∀b o,b≠it->s.heap.get? b=some o->h'.get? b=some o)(hn:H it=none)(hL:it≠X.env.locals)
  (h1:it∈X.ex\/X.s₀.heap.objs.size<=it) (h2:∀x c,X.env.cells.lookup x=some c->c≠it) (h3:∀p∈X.pn++pins,p.1≠it):Inv X pins σ H { s with heap:=h',toks:=t' }:=by
 have nit:∀b u,H b=some u->b≠it:=λb u e z=>by rw[z,hn]at e;cases e
 refine I.step (g':=s.gens) (d':=s.drawn) (ch:=[it]) (λb hb=>?_) (λb o _ _ hc e _=>k b o (λz=>hc (by simp[z])) e) (λb o _ _ hc e _=>⟨o.slots,k b o (λz=>hc (by simp[z])) e⟩) (λ_ _ _ _ n=>n)
  (λb o hc e=>⟨o,k b o (λz=>hc (by simp[z])) e⟩) (λ_ _ e=>e) (λ_ _ _ e=>e) (λb ps e=>⟨#[],by rw[e];simp⟩) (λm hm=>?_) (λb u e=>?_) I.bare
 ·have e:b=it:=by simpa using hb
  subst e
  exact ⟨h1,hL,h2,h3⟩
 ·obtain ⟨o,es,ep,ho,r⟩:=hm
  exact ⟨o,es,ep,k _ o (Ne.symm hL) ho,r⟩
 ·refine (I.hok b u e).stay (λc v hc q=>k c v ?_ q) (λ_ q=>q) λ_ _ q=>q
  rcases hc with z|z
  ·rw[z];exact nit b u e
  ·exact nit c _ z
theorem Inv.tok(I:Inv X pins σ H s)(t:Nat):Inv X pins σ H { s with toks:=t }:=I.un (h':=s.heap) (t':=t) Un.refl I.hok
theorem Inv.kept{t':Nat}(I:Inv X pins σ H s)(k:∀b u,s.heap.get? b=some u->h'.get? b=some u):Inv X pins σ H { s with heap:=h',toks:=t' }:=I.un (Un.kept k) (I.hok.kept k)
theorem Inv.laid{a:Addr}{o:HO}{t':Nat}(I:Inv X pins σ H s)(k:∀b u,s.heap.get? b=some u->h'.get? b=some u)(hp:s.heap.objs.size<=a)(new:qat X.prog X.w (upd H a o) h' a o) :
  Inv X pins σ (upd H a o) { s with heap:=h',toks:=t' }:=I.un (Un.laid k hp (I.hok.fresh hp)) (I.hok.laid k hp new)
theorem Inv.write{x e:Addr}{o:HO}{t':Nat}(I:Inv X pins σ H s)(mu:Mut (H x))(he:e=x\/H e=some (.own x))(k:∀b u,b≠e->s.heap.get? b=some u->h'.get? b=some u)(heo:∃u,h'.get? e=some u)
  (new:qat X.prog X.w (upd H x o) h' x o):Inv X pins σ (upd H x o) { s with heap:=h',toks:=t' }:=I.un (Un.write mu he k heo) (I.hok.write mu he k heo new)
theorem Inv.weak{σ':List (Option V)}(I:Inv X pins σ H s)(hl:σ'.length=σ.length)(w:∀(i:Nat) v,σ'[i]?=some (some v)->σ[i]?=some (some v)):Inv X pins σ' H s:=
 ⟨I.ok,I.os,I.bare,I.base,let ⟨m,hn,hl'⟩:=I.loc;⟨m,hn,λi x v e1 e2 e3=>hl' i x v e1 (w i v e2) e3⟩,I.cell,I.free,I.freeC,I.pin,I.hok,hl.trans I.len⟩
theorem Inv.pins_of{pins':List (Addr×Obj)}(I:Inv X pins σ H s)(h:∀p∈pins',s.heap.get? p.1=some p.2/\H p.1=none/\p.1≠X.env.locals/\p.1∉X.fs/\∀v,p.2.data≠.cell v):Inv X pins' σ H s:=
 ⟨I.ok,I.os,I.bare,I.base,I.loc,I.cell,I.free,I.freeC,λp hp=>(mem_append.mp hp).elim (λz=>I.pin p (List.mem_append_left _ z)) (h p),I.hok,I.len⟩
theorem qd0{N:List Str}(hN:N.Nodup){i j:Nat}{x:Str}(a:N[i]?=some x)(b:N[j]?=some x):i=j:=by
 obtain ⟨h1,e1⟩:=List.getElem?_eq_some_iff.mp a
 obtain ⟨h2,e2⟩:=List.getElem?_eq_some_iff.mp b
 exact (List.getElem_inj hN).mp (e1.trans e2.symm)
theorem yej{M:Model}{A:Around}{E:Value->Shared->Prop}{i:Nat}{x:Str}{v:V}{u:Value}{Q:Unit->Shared->Prop}(I:Inv X pins σ H s)(hN:X.N.Nodup)(hi:X.N[i]?=some x)(hx:Loc X.env.scope x)(r:RelV v u)
  (h:∀s',Inv X pins (σ.set i (some v)) H s'->(∃a,Heap.SameBut a s.heap s'.heap/\(a=X.env.locals\/X.env.cells.lookup x=some a))->Q () s') (hf:X.fn x=true\/X.env.scope.names.lookup x=some .local:=by first|exact .inl rfl|exact .inr rfl|assumption):wpAny M A (storeName X.env x u) Q E s:=by
 obtain ⟨m,hn,hl⟩:=id I.loc
 have hcls:(X.env.scope.kind == .class||(X.env.scope.kind == .module&&X.env.locals != X.env.globals))=false:=by rw[I.ok.kind];rfl
 have hiσ:i<σ.length:=by rw[I.len];exact (List.getElem?_eq_some_iff.mp hi).1
 have cne:=I.cne
 have tracked:∀{a:Addr}{h':Heap},(∃o,s.heap.get? a=some o/\H a=none)->Heap.SameBut a s.heap h'->HOk X.prog X.w H h':=λ{a h'} ha hs b ob e=>by
  obtain ⟨_,_,hfree⟩:=ha
  refine (I.hok b ob e).stay (λc w' hc q=>(hs.2 c ?_).trans q) (λ_ q=>q) λ_ _ q=>q
  rintro rfl
  rcases hc with rfl|hc
  ·rw[hfree]at e;cases e
  ·rw[hfree]at hc;cases hc
 rcases hx with hk|hk
 ·refine wpAny_storeName_local hk hn (λh' hn' hs=>?_) hcls
  obtain ⟨oL,_,_,hoL,_⟩:=id hn
  refine h _ ⟨I.ok,I.os,I.bare,⟨λb o e n hb hx=>?_,λb o e n hb hx=>?_,I.base.free,λb o e hx=>?_,I.base.tups,I.base.frzs,I.base.tbls⟩,⟨_,hn',λj y v' e1 e2 e3=>?_⟩,λy c e=>?_,I.free,I.freeC,λp hp=>?_,tracked ⟨oL,hoL,I.free⟩ hs,by simpa using I.len⟩ ⟨_,hs,.inl rfl⟩
  ·exact (hs.2 b (ne_of_lt (lt_of_lt_of_le (lt_size e) I.ok.above))).trans (I.base.keep b o e n hb hx)
  ·obtain ⟨sl,e1⟩:=I.base.slot b o e n hb hx
   exact ⟨sl,(hs.2 b (ne_of_lt (lt_of_lt_of_le (lt_size e) I.ok.above))).trans e1⟩
  ·obtain ⟨o',e1⟩:=I.base.there b o e hx
   exact ⟨o',(hs.2 b (ne_of_lt (lt_of_lt_of_le (lt_size e) I.ok.above))).trans e1⟩
  ·by_cases hj:j=i
   ·subst hj
    rw[hi]at e1;cases e1
    rw[List.getElem?_set_self hiσ]at e2
    cases e2
    exact ⟨u,r,.inl ⟨hk,by simp⟩⟩
   ·rw[List.getElem?_set_ne (Ne.symm hj)]at e2
    obtain ⟨u',r',q⟩:=hl j y v' e1 e2 e3
    refine ⟨u',r',?_⟩
    rcases q with ⟨k,e⟩|⟨k,c,e,z⟩
    ·refine .inl ⟨k,?_⟩
     have:y≠x:=λe=>hj (qd0 hN e1 (e ▸ hi))
     simp[this,e]
    ·exact .inr ⟨k,c,e,z.sameBut hs (cne y c e)⟩
  ·obtain ⟨w',z⟩:=I.cell y c e
   exact ⟨w',z.sameBut hs (cne y c e)⟩
  ·obtain ⟨e,n,ne,nf,d⟩:=I.pin p hp
   exact ⟨(hs.2 p.1 ne).trans e,n,ne,nf,d⟩
 ·have hfn:X.fn x=true:=by
   rcases hf with z|z
   ·exact z
   ·rw[z]at hk;cases hk
  obtain ⟨c,hc⟩:=I.ok.has x (.inl hk)
  obtain ⟨w',z⟩:=I.cell x c hc
  refine wpAny_storeName_cell I.ok.kind hk hc z (λh' hc' hs=>?_)
  obtain ⟨oc,hoc,hocd⟩:=id z
  refine h { s with heap:=h' } ⟨I.ok,I.os,I.bare,⟨λb o e n hb hx=>?_,λb o e n hb hx=>?_,I.base.free,λb o e hx=>?_,I.base.tups,I.base.frzs,I.base.tbls⟩,⟨m,hn.sameBut hs (Ne.symm (cne x c hc)),λj y v' e1 e2 e3=>?_⟩,λy c' e=>?_,I.free,I.freeC,λp hp=>?_,tracked ⟨oc,hoc,I.freeC x c hc⟩ hs,by simpa using I.len⟩ ⟨c,hs,.inr hc⟩
  ·exact (hs.2 b (ne_of_lt (lt_of_lt_of_le (lt_size e) (I.ok.cab x c hfn hc)))).trans (I.base.keep b o e n hb hx)
  ·obtain ⟨sl,e1⟩:=I.base.slot b o e n hb hx
   exact ⟨sl,(hs.2 b (ne_of_lt (lt_of_lt_of_le (lt_size e) (I.ok.cab x c hfn hc)))).trans e1⟩
  ·obtain ⟨o',e1⟩:=I.base.there b o e hx
   exact ⟨o',(hs.2 b (ne_of_lt (lt_of_lt_of_le (lt_size e) (I.ok.cab x c hfn hc)))).trans e1⟩
  ·by_cases hj:j=i
   ·subst hj
    rw[hi]at e1;cases e1
    rw[List.getElem?_set_self hiσ]at e2
    cases e2
    exact ⟨u,r,.inr ⟨.inl hk,c,hc,hc'⟩⟩
   ·rw[List.getElem?_set_ne (Ne.symm hj)]at e2
    obtain ⟨u',r',q⟩:=hl j y v' e1 e2 e3
    refine ⟨u',r',?_⟩
    rcases q with q|⟨k,c',e,z'⟩
    ·exact .inl q
    ·refine .inr ⟨k,c',e,z'.sameBut hs ?_⟩
     rintro rfl
     exact hj (qd0 hN e1 (I.ok.inj _ _ _ e hc ▸ hi))
  ·by_cases hcc:c'=c
   ·subst hcc;exact ⟨_,hc'⟩
   ·obtain ⟨w2,z2⟩:=I.cell y c' e
    exact ⟨w2,z2.sameBut hs hcc⟩
  ·obtain ⟨e,n,ne,nf,d⟩:=I.pin p hp
   refine ⟨(hs.2 p.1 ?_).trans e,n,ne,nf,d⟩
   intro q
   rw[q,hoc]at e
   have q':oc=p.2:=Option.some.inj e
   exact d w' (by rw[<-q'];exact hocd)
theorem qc2{M:Model}{A:Around}{E:Value->Shared->Prop}{i:Nat}{x:Str}{v:V}{u:Value}{Q:Unit->Shared->Prop}(I:Inv X pins σ H s)(hN:X.N.Nodup)(hi:X.N[i]?=some x)(hx:Loc X.env.scope x)(r:RelV v u)
  (h:∀s',Inv X pins (σ.set i (some v)) H s'->Q () s') (hf:X.fn x=true\/X.env.scope.names.lookup x=some .local:=by first|exact .inl rfl|exact .inr rfl|assumption):wpAny M A (storeName X.env x u) Q E s:=
 yej I hN hi hx r (λs' I' _=>h s' I') hf
theorem Inv.call'{s':Shared}{ch:List Addr}(I:Inv X pins σ H s)(ho:s'.os=s.os)(u:Un (frs X.stack) ch H H' s.heap s'.heap)(hok:HOk X.prog X.w H' s'.heap)(hg:AllBare s'.gens)
  (hch:∀b∈ch,(b∈X.ex\/X.s₀.heap.objs.size<=b)/\b≠X.env.locals/\(∀x c,X.env.cells.lookup x=some c->c≠b)/\∀p∈X.pn++pins,p.1≠b):Inv X pins σ H' s':=by
 obtain ⟨h',g',d',t',o'⟩:=s'
 have e:o'=s.os:=ho
 subst e
 exact I.call (g':=g') (t':=t') (d':=d') u hok hg hch
end
noncomputable abbrev XK:=Value->Option Addr->Hp->Prop
noncomputable abbrev St:=List (Option V)
noncomputable abbrev VK:=V->Hp->Prop
noncomputable abbrev TE:=St->Hp->VK->Prop
noncomputable abbrev TT:=St->Hp->(Bool->Hp->Prop)->Prop
noncomputable abbrev TA:=St->Hp->(List V->Hp->Prop)->Prop
structure Ends where
 nx:St->Hp->Prop
 rt:VK
 bk:St->Hp->Prop:=λ_ _=>False
 ct:St->Hp->Prop:=λ_ _=>False
noncomputable abbrev TS:=Ends->St->Hp->Prop
noncomputable def EP(X:Cx)(pins:List (Addr×Obj))(σ:St)(Q:VK)(u:Value)(s':Shared):Prop:=∃v H',Inv X pins σ H' s'/\RelV v u/\Q v H'
noncomputable def TP(X:Cx)(pins:List (Addr×Obj))(σ:St)(Q:Bool->Hp->Prop)(b:Bool)(s':Shared):Prop:=∃H',Inv X pins σ H' s'/\Q b H'
noncomputable def AP(X:Cx)(pins:List (Addr×Obj))(σ:St)(Q:List V->Hp->Prop)(us:List Value)(s':Shared):Prop:=∃vs H',Inv X pins σ H' s'/\Vals vs us/\Q vs H'
noncomputable def SP(X:Cx)(pins:List (Addr×Obj))(D:Ends)(f:Flow)(s':Shared):Prop:=
 match f with
 |.next=>∃σ' H',Inv X pins σ' H' s'/\D.nx σ' H'
 |.brk=>∃σ' H',Inv X pins σ' H' s'/\D.bk σ' H'
 |.cont=>∃σ' H',Inv X pins σ' H' s'/\D.ct σ' H'
 |.ret u=>∃v σ' H',Inv X pins σ' H' s'/\RelV v u/\D.rt v H'
noncomputable def PE(X:Cx)(e:Expr)(t:TE):Prop:=
 ∀(pins:List (Addr×Obj)) (s:Shared) (σ:St) (H:Hp) (Q:VK),Inv X pins σ H s->t σ H Q->wpAny (model X.prog X.w) X.A (eval e X.env) (EP X pins σ Q) X.xe s
noncomputable def PT(X:Cx)(e:Expr)(t:TT):Prop:=
 ∀(pins:List (Addr×Obj)) (s:Shared) (σ:St) (H:Hp) (Q:Bool->Hp->Prop),Inv X pins σ H s->t σ H Q->wpAny (model X.prog X.w) X.A (isTrue e X.env (eval e X.env)) (TP X pins σ Q) X.xe s
noncomputable def PW(X:Cx)(e:Expr)(t:TT):Prop:=
 ∀(whole:Sem Value) (pins:List (Addr×Obj)) (s:Shared) (σ:St) (H:Hp) (Q:Bool->Hp->Prop),Inv X pins σ H s->t σ H Q->wpAny (model X.prog X.w) X.A (isTrue e X.env whole) (TP X pins σ Q) X.xe s
theorem PW.pt{X:Cx}{e:Expr}{t:TT}(h:PW X e t):PT X e t:=h _
noncomputable def PA(X:Cx)(es:List Expr)(t:TA):Prop:=
 ∀(pos:Pos) (pins:List (Addr×Obj)) (s:Shared) (σ:St) (H:Hp) (Q:List V->Hp->Prop),Inv X pins σ H s->t σ H Q->wpAny (model X.prog X.w) X.A (spliced (backTo pos (starEach es X.env))) (AP X pins σ Q) X.xe s
noncomputable def PS(X:Cx)(st:Stmt)(t:TS):Prop:=
 ∀(pins:List (Addr×Obj)) (s:Shared) (σ:St) (H:Hp) (D:Ends),Inv X pins σ H s->t D σ H->wpAny (model X.prog X.w) X.A (exec st X.env) (SP X pins D) X.xe s
noncomputable def PSs(X:Cx)(st:List Stmt)(t:TS):Prop:=
 ∀(pins:List (Addr×Obj)) (s:Shared) (σ:St) (H:Hp) (D:Ends),Inv X pins σ H s->t D σ H->wpAny (model X.prog X.w) X.A (execs st X.env) (SP X pins D) X.xe s
theorem thn{α:Type}{t:Sem α}{Q Q':α->Shared->Prop}{M:Model}{A:Around}{E:Value->Shared->Prop}{s:Shared}(h:wpAny M A t Q E s)(hQ:∀a s,Q a s->Q' a s):wpAny M A t Q' E s:=wpAny_mono h hQ λ_ _ x=>x
section
variable {X:Cx}
noncomputable def tVar(i:Nat):TE:=λσ H Q=>∃v,σ[i]?=some (some v)/\Q v H
noncomputable def tC(v:V):TE:=λ_ H Q=>Q v H
theorem pe_var{i:Nat}{x:Str}{pos:Pos}(hN:X.N[i]?=some x)(hv:Vis X.env.scope x)(hd:(x == ("__debug__" : Str))=false:=by decide)(hcd:(x == ("__classdict__" : Str))=false:=by decide):PE X (.Name x pos) (tVar i):=by
 intro pins s σ H Q I h
 obtain ⟨v,e,h⟩:=h
 obtain ⟨m,hn,hl⟩:=I.loc
 obtain ⟨u,r,l⟩:=hl i x v hN e hv
 have fin:EP X pins σ Q u s:=⟨v,H,I,r,h⟩
 rcases l with ⟨hk,hm⟩|⟨hk,c,hc,hcell⟩
 ·exact wpAny_Name (wpAny_loadName_local I.ok.kind hk hn hm fin) hd
 ·rcases hk with hk|hk
  ·exact wpAny_Name (wpAny_loadName_cell I.ok.kind hk hc hcell fin) hd
  ·exact wpAny_Name (wpAny_loadName_free I.ok.kind hk hc hcell fin hcd) hd
theorem yad{i j pos}:PE X (.Constant (.int i) j pos) (tC (.int i)):=λ_ _ _ H _ I h=>wpAny_Constant_int ⟨.int i,H,I.tok _,⟨_,rfl⟩,h⟩
theorem ydb{b j pos}:PE X (.Constant (.bool b) j pos) (tC (.bl b)):=λ_ _ _ H _ I h=>Constant_bool ⟨.bl b,H,I,rfl,h⟩
theorem qcv{j pos}:PE X (.Constant .none j pos) (tC .non):=λ_ _ _ H _ I h=>Constant_none ⟨.non,H,I,rfl,h⟩
theorem qah{x j pos}:PE X (.Constant (.str x) j pos) (tC (.str x)):=λ_ _ _ H _ I h=>Calls.Constant_str ⟨.str x,H,I.tok _,⟨_,rfl⟩,h⟩
noncomputable def Gl(X:Cx)(x:Str):Prop:=X.env.kindOf x=some .globalImplicit
theorem qcq{E:Value->Shared->Prop}{pins:List (Addr×Obj)}{s:Shared}{σ:St}{H:Hp}{x:Str}{u:Value}{pos:Pos}{Q:Value->Shared->Prop}(I:Inv X pins σ H s)(hg:Gl X x)(hm:X.mg x=some u)(h:Q u s)
  (hd:(x == ("__debug__" : Str))=false:=by decide):wpAny (model X.prog X.w) X.A (eval (.Name x pos) X.env) Q E s:=
 Calls.Name_function_global I.ok.kind hg (Calls.loadGlobal_global (by rw[I.ok.glob];exact I.mod.glob.keeps I.bk) hm h) hd
theorem qeq{E:Value->Shared->Prop}{pins:List (Addr×Obj)}{s:Shared}{σ:St}{H:Hp}{x:Str}{u:Value}{pos:Pos}{Q:Value->Shared->Prop}(I:Inv X pins σ H s)(hg:Gl X x)(hm:X.mg x=none)(hv:bootBuiltins x=some u)(h:Q u s)
  (hn:x≠"__name__":=by decide) (hd:(x == ("__debug__" : Str))=false:=by decide):wpAny (model X.prog X.w) X.A (eval (.Name x pos) X.env) Q E s:=by
 obtain ⟨mb,h1,h2⟩:=I.mod.blt
 exact Calls.Name_function_global I.ok.kind hg (Calls.loadGlobal_builtin (by rw[I.ok.glob];exact I.mod.glob.keeps I.bk) hm (by rw[I.ok.blt];exact h1.keeps I.bk) ((h2 x hn).trans hv) h) hd
theorem yaq{x:Str}{v:V}{u:Value}{pos:Pos}(hg:Gl X x)(hm:X.mg x=some u)(r:RelV v u)(hd:(x == ("__debug__" : Str))=false:=by decide):PE X (.Name x pos) (tC v):=
 λ_ _ _ H _ I h=>qcq I hg hm ⟨v,H,I,r,h⟩ hd
theorem qbr{x:Str}{v:V}{u:Value}{pos:Pos}(hg:Gl X x)(hm:X.mg x=none)(hv:bootBuiltins x=some u)(r:RelV v u)(hn:x≠"__name__":=by decide)(hd:(x == ("__debug__" : Str))=false:=by decide):PE X (.Name x pos) (tC v):=
 λ_ _ _ H _ I h=>qeq I hg hm hv ⟨v,H,I,r,h⟩ hn hd
variable {a b:Expr}{ta tb:TE}{pos:Pos}
noncomputable def PC(X:Cx)(op:CmpOp)(a b:Expr)(t:TE):Prop:=
 ∀(pins:List (Addr×Obj)) (s:Shared) (σ:St) (H:Hp) (Q:VK),Inv X pins σ H s->t σ H Q->
  wpAny (model X.prog X.w) X.A (eval a X.env) (λv s₁=>wpAny (model X.prog X.w) X.A (eval b X.env) (λu s₂=>wpAny (model X.prog X.w) X.A (compareOp op v u) (EP X pins σ Q) X.xe s₂) X.xe s₁) X.xe s
theorem nobehind(b:Expr){op:CmpOp}(h:op≠.In)(h2:op≠.NotIn):behindInMarks op b=false:=by
 have e1:(op == CmpOp.In)=false:=by cases op<;>first|rfl|exact absurd rfl h
 have e2:(op == CmpOp.NotIn)=false:=by cases op<;>first|rfl|exact absurd rfl h2
 cases b<;>simp[behindInMarks,e1,e2]
noncomputable def tIsN(ta:TE):TE:=λσ H Q=>ta σ H λx H1=>Q (.bl (decide (x=.non))) H1
noncomputable def tNotN(ta:TE):TE:=λσ H Q=>ta σ H λx H1=>Q (.bl (!decide (x=.non))) H1
theorem RelV.none_iff{x:V}{v:Value}(r:RelV x v):(v == Value.none)=decide (x=.non):=by
 cases x with
 |non=>cases r;rfl
 |bl _=>cases r;rfl
 |int _=>obtain ⟨t,rfl⟩:=r;rfl
 |str _=>obtain ⟨t,rfl⟩:=r;rfl
 |byt _=>obtain ⟨t,rfl⟩:=r;rfl
 |flt _=>obtain ⟨t,rfl⟩:=r;rfl
 |ref _=>cases r;rfl
 |ty _=>cases r;rfl
theorem pc_isN{j pos'}(ha:PE X a ta):PC X .Is a (.Constant .none j pos') (tIsN ta):=by
 intro pins s σ H Q I h
 refine thn (ha pins s σ H _ I h) λv s1 ⟨x,H1,I1,r1,q1⟩=>?_
 exact Constant_none (is_none_gen ⟨.bl _,H1,I1,by rw[r1.none_iff];rfl,q1⟩)
theorem pc_notN{j pos'}(ha:PE X a ta):PC X .IsNot a (.Constant .none j pos') (tNotN ta):=by
 intro pins s σ H Q I h
 refine thn (ha pins s σ H _ I h) λv s1 ⟨x,H1,I1,r1,q1⟩=>?_
 exact Constant_none (isnot_none_gen ⟨.bl _,H1,I1,by rw[r1.none_iff];rfl,q1⟩)
noncomputable def tB(t:TE):TT:=λσ H Q=>t σ H λx H1=>∃c,x=.bl c/\Q c H1
theorem qev{op:CmpOp}{t:TE}(h:PC X op a b t)(h1:behindInMarks op b=false:=by first|exact nobehind _ (by decide) (by decide)|rfl):PT X (.Compare a [op] [b] pos) (tB t):=by
 intro pins s σ H Q I hw
 refine wpAny_isTrue_Compare1 (thn (h pins s σ H _ I hw) λv s1 h1=>thn h1 λu s2 h2=>thn h2 λc s3 ⟨x,H1,I1,r1,q1⟩=>?_) h1
 obtain ⟨d,rfl,q⟩:=q1
 cases r1
 exact wpAny_truthy_bool ⟨H1,I1,q⟩
theorem pt_val{e:Expr}{t:TE}(h:PE X e t)(he:∀whole,isTrue e X.env whole=(do let v <-whole;standAt e.pos;holding [v] (truthy v)):=by intro _;rfl):PT X e (tB t):=by
 intro pins s σ H Q I hw
 refine isTrue_plain (thn (h pins s σ H _ I hw) λv s1 ⟨x,H1,I1,r1,q1⟩=>?_) (he _)
 obtain ⟨d,rfl,q⟩:=q1
 cases r1
 exact wpAny_truthy_bool ⟨H1,I1,q⟩
variable {tA tB':TT}{rest:List Expr}
noncomputable def tAnd(t u:TT):TT:=λσ H Q=>t σ H λc H1=>if c=true then u σ H1 Q else Q false H1
noncomputable def tOr(t u:TT):TT:=λσ H Q=>t σ H λc H1=>if c=true then Q true H1 else u σ H1 Q
noncomputable def tNot(t:TT):TT:=λσ H Q=>t σ H λc H1=>Q (!c) H1
theorem pw_and1(ha:PT X a tA):PW X (.BoolOp .And [a] pos) tA:=by
 intro wh pins s σ H Q I h
 refine isTrue_and (thn (ha pins s σ H Q I h) λc s1 e=>?_)
 cases c with
 |true=>exact isTrue_and_nil e
 |false=>exact e
theorem pw_or1(ha:PT X a tA):PW X (.BoolOp .Or [a] pos) tA:=by
 intro wh pins s σ H Q I h
 refine isTrue_or (thn (ha pins s σ H Q I h) λc s1 e=>?_)
 cases c with
 |false=>exact isTrue_or_nil e
 |true=>exact e
theorem pw_and(ha:PT X a tA)(hb:PW X (.BoolOp .And (b::rest) pos) tB'):PW X (.BoolOp .And (a::b::rest) pos) (tAnd tA tB'):=by
 intro wh pins s σ H Q I h
 refine isTrue_and (thn (ha pins s σ H _ I h) λc s1 ⟨H1,I1,q1⟩=>?_)
 cases c with
 |true=>exact hb wh pins s1 σ H1 Q I1 q1
 |false=>exact ⟨H1,I1,q1⟩
theorem pw_or(ha:PT X a tA)(hb:PW X (.BoolOp .Or (b::rest) pos) tB'):PW X (.BoolOp .Or (a::b::rest) pos) (tOr tA tB'):=by
 intro wh pins s σ H Q I h
 refine isTrue_or (thn (ha pins s σ H _ I h) λc s1 ⟨H1,I1,q1⟩=>?_)
 cases c with
 |true=>exact ⟨H1,I1,q1⟩
 |false=>exact hb wh pins s1 σ H1 Q I1 q1
theorem pt_not(ha:PT X a tA):PT X (.UnaryOp .Not a pos) (tNot tA):=by
 intro pins s σ H Q I h
 exact isTrue_not (ha pins s σ H (λc H1=>Q (!c) H1) I h)
noncomputable def tAndV(ta tb:TE):TE:=λσ H Q=>ta σ H λx H1=>∃c,x=.bl c/\if c=true then tb σ H1 Q else Q (.bl false) H1
noncomputable def tNotV(ta:TE):TE:=λσ H Q=>ta σ H λx H1=>∃c,x=.bl c/\Q (.bl (!c)) H1
theorem ybe{op}{t:TE}(h:PE X a t):PE X (.BoolOp op [a] pos) t:=λpins s σ H Q I hw=>BoolOp_one (h pins s σ H Q I hw)
theorem qa2(ha:PE X a ta)(hb:PE X (.BoolOp .And (b::rest) pos) tb):PE X (.BoolOp .And (a::b::rest) pos) (tAndV ta tb):=by
 intro pins s σ H Q I h
 refine BoolOp_and (thn (ha pins s σ H _ I h) λv s1 ⟨x,H1,I1,r1,q1⟩=>?_)
 obtain ⟨c,rfl,q1⟩:=q1
 cases r1
 refine wpAny_truthy_bool ?_
 cases c with
 |true=>exact hb pins s1 σ H1 Q I1 q1
 |false=>exact ⟨.bl false,H1,I1,rfl,q1⟩
theorem pe_not(ha:PE X a ta):PE X (.UnaryOp .Not a pos) (tNotV ta):=by
 intro pins s σ H Q I h
 refine UnaryOp_ (thn (ha pins s σ H _ I h) λv s1 ⟨x,H1,I1,r1,q1⟩=>?_)
 obtain ⟨c,rfl,q1⟩:=q1
 cases r1
 exact not_of (wpAny_truthy_bool ⟨.bl (!c),H1,I1,rfl,q1⟩)
noncomputable def tIf(t:TT)(ta tb:TE):TE:=λσ H Q=>t σ H λc H1=>if c=true then ta σ H1 Q else tb σ H1 Q
theorem pe_ifExp{c:Expr}(hc:PT X c tA)(ha:PE X a ta)(hb:PE X b tb):PE X (.IfExp c a b pos) (tIf tA ta tb):=by
 intro pins s σ H Q I h
 refine wpAny_IfExp (thn (hc pins s σ H _ I h) λd s1 ⟨H1,I1,q1⟩=>?_)
 cases d with
 |true=>exact ha pins s1 σ H1 Q I1 q1
 |false=>exact hb pins s1 σ H1 Q I1 q1
end
noncomputable def SqL(K:W.Frag)(H:Hp)(a:Addr)(xs:List V):Prop:=
 Rd H a (.lst xs)\/
  ∃(o:Obj) (its:Array Value) (n:Nat),K.lookup a=some o/\o.cls=.type "list"/\o.dict=none/\o.data=.seq its n/\its.size<=sizeLine/\Vals xs its.toList
noncomputable def SqT(K:W.Frag)(H:Hp)(a:Addr)(xs:List V):Prop:=
 Rd H a (.tup xs)\/
  ∃(o:Obj) (its:Array Value) (n:Nat),K.lookup a=some o/\o.cls=.type "tuple"/\o.data=.seq its n/\its.size<=sizeLine/\Vals xs its.toList
noncomputable def absV:Value->Option V
 |.none=>some .non
 |.bool b=>some (.bl b)
 |.int i _=>some (.int i)
 |.str x _=>some (.str x)
 |.bytes b _=>some (.byt b)
 |.float b _=>some (.flt b)
 |.ref a=>some (.ref a)
 |.type n=>some (.ty n)
 |_=>none
theorem RelV.abs{x:V}{u:Value}(r:RelV x u):absV u=some x:=by
 cases x with
 |non=>cases r;rfl
 |bl _=>cases r;rfl
 |int _=>obtain ⟨t,rfl⟩:=r;rfl
 |str _=>obtain ⟨t,rfl⟩:=r;rfl
 |byt _=>obtain ⟨t,rfl⟩:=r;rfl
 |flt _=>obtain ⟨t,rfl⟩:=r;rfl
 |ref _=>cases r;rfl
 |ty _=>cases r;rfl
theorem RelV.inj{x y:V}{u:Value}(r:RelV x u)(q:RelV y u):x=y:=Option.some.inj (r.abs.symm.trans q.abs)
theorem Vals.inj:∀{xs ys:List V}{us:List Value},Vals xs us->Vals ys us->xs=ys
 |_,_,_,.nil,.nil=>rfl
 |_,_,_,.cons r t,.cons r' t'=>by rw[r.inj r',Vals.inj t t']
section
variable {X:Cx}{pins:List (Addr×Obj)}{σ:St}{H:Hp}{s:Shared}{a:Addr}{xs ys:List V}
theorem sqlO{K:W.Frag}(h:H a=some (.lst xs)):SqL K H a xs:=.inl (.inl h)
theorem sqtO{K:W.Frag}(h:H a=some (.tup xs)):SqT K H a xs:=.inl (.inl h)
theorem Inv.list(I:Inv X pins σ H s)(h:SqL X.K H a xs):∃its:List Value,Vals xs its/\PlainL s.heap a its.toArray/\xs.length<=sizeLine:=by
 rcases h with h|⟨o,its,n,hk,hc,hd,hs,hz,r⟩
 ·obtain ⟨z,its,n,r,e⟩:=h.ok I.hok
  exact ⟨its,r,⟨_,n,e,rfl,rfl,rfl⟩,z⟩
 ·refine ⟨its.toList,r,⟨o,n,I.kIn a o hk,hc,hd,by simpa using hs⟩,?_⟩
  have e:=r.length
  simp only[length_toList]at e
  omega
theorem Inv.tuple(I:Inv X pins σ H s)(h:SqT X.K H a xs):∃its:List Value,Vals xs its/\IsTup s.heap a its.toArray/\xs.length<=sizeLine:=by
 rcases h with h|⟨o,its,n,hk,hc,hs,hz,r⟩
 ·obtain ⟨z,its,r,p⟩:=h.ok I.hok
  exact ⟨its,r,p,z⟩
 ·refine ⟨its.toList,r,⟨o,I.kIn a o hk,hc,n,by simpa using hs⟩,?_⟩
  have e:=r.length
  simp only[length_toList]at e
  omega
theorem Inv.list_inj(I:Inv X pins σ H s)(h:SqL X.K H a xs)(h':SqL X.K H a ys):xs=ys:=by
 obtain ⟨its,r,⟨o,n,e,_,_,d⟩,_⟩:=I.list h
 obtain ⟨its',r',⟨o',n',e',_,_,d'⟩,_⟩:=I.list h'
 rw[e]at e';cases e'
 rw[d]at d'
 injection d' with d1 _
 have:its=its':=by simpa using congrArg Array.toList d1
 subst this
 exact r.inj r'
end
noncomputable abbrev Cx.wish(X:Cx)(E:Value->Shared->Prop):Cx:={ X with xe:=E }
noncomputable abbrev Cx.nox(X:Cx):Cx:=X.wish λ_ _=>False
theorem Cx.Ok.wish{X:Cx}(ok:X.Ok)(E:Value->Shared->Prop):(X.wish E).Ok:=
 ⟨ok.mod,ok.kind,ok.glob,ok.blt,ok.above,ok.inj,ok.has,ok.cab,ok.hd,ok.frames,ok.stk,ok.exf,ok.bs,ok.bsz,ok.noex,ok.exfs,ok.funs,ok.frf⟩
theorem Cx.Ok.unwish{X:Cx}{E:Value->Shared->Prop}(ok:(X.wish E).Ok):X.Ok:=
 ⟨ok.mod,ok.kind,ok.glob,ok.blt,ok.above,ok.inj,ok.has,ok.cab,ok.hd,ok.frames,ok.stk,ok.exf,ok.bs,ok.bsz,ok.noex,ok.exfs,ok.funs,ok.frf⟩
section
variable {X:Cx}{pins:List (Addr×Obj)}{σ:St}{H:Hp}{s:Shared}{E:Value->Shared->Prop}
theorem Inv.wish(I:Inv X pins σ H s)(E:Value->Shared->Prop):Inv (X.wish E) pins σ H s:=⟨I.ok.wish E,I.os,I.bare,I.base,I.loc,I.cell,I.free,I.freeC,I.pin,I.hok,I.len⟩
theorem Inv.unwish(I:Inv (X.wish E) pins σ H s):Inv X pins σ H s:=⟨I.ok.unwish,I.os,I.bare,I.base,I.loc,I.cell,I.free,I.freeC,I.pin,I.hok,I.len⟩
theorem SP.unwish{D:Ends}{f:Flow}{s':Shared}(h:SP (X.wish E) pins D f s'):SP X pins D f s':=by
 cases f with
 |next=>obtain ⟨σ',H',I,q⟩:=h;exact ⟨σ',H',I.unwish,q⟩
 |brk=>obtain ⟨σ',H',I,q⟩:=h;exact ⟨σ',H',I.unwish,q⟩
 |cont=>obtain ⟨σ',H',I,q⟩:=h;exact ⟨σ',H',I.unwish,q⟩
 |ret u=>obtain ⟨v,σ',H',I,r,q⟩:=h;exact ⟨v,σ',H',I.unwish,r,q⟩
theorem PSs.nox{st:List Stmt}{t:TS}(h:PSs X.nox st t):PSs X st t:=λpins s σ H D I hw=>
 wpAny_mono (h pins s σ H D (I.wish _) hw) (λ_ _ q=>q.unwish) λ_ _ z=>False.elim z
end
section
variable {X:Cx}{st:Stmt}{rest:List Stmt}{t u:TS}{e:Expr}{te:TE}{pos:Pos}
noncomputable def tNext:TS:=λD σ H=>D.nx σ H
noncomputable def tSeq(t u:TS):TS:=λD σ H=>t { D with nx:=u D } σ H
theorem pss_nil:PSs X [] tNext:=λ_ _ σ H _ I h=>wpAny_execs_nil ⟨σ,H,I,h⟩
theorem pss_cons(h1:PS X st t)(h2:PSs X rest u):PSs X (st::rest) (tSeq t u):=by
 intro pins s σ H D I h
 refine wpAny_execs_cons (thn (h1 pins s σ H { D with nx:=u D } I h) λf s1 q=>?_)
 cases f with
 |next=>
  obtain ⟨σ',H',I',q⟩:=q
  exact h2 pins s1 σ' H' D I' q
 |ret v=>exact q
 |brk=>exact q
 |cont=>exact q
theorem qe5(h1:PS X st t):PSs X [st] t:=by
 intro pins s σ H D I h
 refine wpAny_execs_cons (thn (h1 pins s σ H D I h) λf s1 q=>?_)
 cases f with
 |next=>exact wpAny_execs_nil q
 |ret v=>exact q
 |brk=>exact q
 |cont=>exact q
theorem Inv.quiet{pins:List (Addr×Obj)}{σ:St}{H:Hp}{s:Shared}(I:Inv X pins σ H s):interactive X.env=false:=by simp[interactive,I.ok.kind]
noncomputable def tDrop(te:TE):TS:=λD σ H=>te σ H λ_ H1=>D.nx σ H1
theorem ps_expr(he:PE X e te)(hs:swapsWith e none pos.line X.env=pure false:=by rfl):PS X (.Expr e pos) (tDrop te):=by
 intro pins s σ H D I h
 exact wpAny_Expr_any (thn (he pins s σ H _ I h) λv s1 ⟨x,H1,I1,r1,q1⟩=>⟨σ,H1,I1,q1⟩) I.quiet hs
noncomputable def tRet(te:TE):TS:=λD σ H=>te σ H D.rt
theorem ps_ret(he:PE X e te):PS X (.Return (some e) pos) (tRet te):=by
 intro pins s σ H D I h
 exact wpAny_Return_some (thn (he pins s σ H _ I h) λv s1 ⟨x,H1,I1,r1,q1⟩=>⟨x,σ,H1,I1,r1,q1⟩)
noncomputable def tIfS(c:TT)(t u:TS):TS:=λD σ H=>c σ H λb H1=>if b=true then t D σ H1 else u D σ H1
theorem ps_if{c:Expr}{a b:List Stmt}{tc:TT}(hc:PT X c tc)(ha:PSs X a t)(hb:PSs X b u):PS X (.If c a b pos) (tIfS tc t u):=by
 intro pins s σ H D I h
 refine wpAny_If (thn (hc pins s σ H _ I h) λd s1 ⟨H1,I1,q1⟩=>?_)
 cases d with
 |true=>exact ha pins s1 σ H1 D I1 q1
 |false=>exact hb pins s1 σ H1 D I1 q1
noncomputable def yg4:TS:=λ_ _ _=>False
theorem yci:PS X st yg4:=λ_ _ _ _ _ _ h=>h.elim
theorem yf9{sts:List Stmt}:PSs X sts yg4:=λ_ _ _ _ _ _ h=>h.elim
end
noncomputable abbrev TG:=V->St->Hp->(St->Hp->Prop)->Prop
noncomputable abbrev TGs:=List V->St->Hp->(St->Hp->Prop)->Prop
noncomputable def PG(X:Cx)(target:Expr)(t:TG):Prop:=
 ∀(pins:List (Addr×Obj)) (s:Shared) (σ:St) (H:Hp) (v:V) (u:Value) (Q:St->Hp->Prop),Inv X pins σ H s->RelV v u->t v σ H Q->
  wpAny (model X.prog X.w) X.A (assign target X.env u) (λ_ s'=>∃σ' H',Inv X pins σ' H' s'/\Q σ' H') X.xe s
noncomputable def PGs(X:Cx)(ts:List Expr)(t:TGs):Prop:=
 ∀(pins:List (Addr×Obj)) (s:Shared) (σ:St) (H:Hp) (vs:List V) (us:List Value) (Q:St->Hp->Prop),Inv X pins σ H s->Vals vs us->t vs σ H Q->
  wpAny (model X.prog X.w) X.A (assignInOrder ((assignEach ts X.env).map (·.2)) us) (λ_ s'=>∃σ' H',Inv X pins σ' H' s'/\Q σ' H') X.xe s
section
variable {X:Cx}{pos:Pos}
noncomputable def qf6(i:Nat):TG:=λv σ H Q=>Q (σ.set i (some v)) H
theorem qba{i:Nat}{x:Str}(hN:X.N.Nodup)(hi:X.N[i]?=some x)(hx:Loc X.env.scope x)(hf:X.fn x=true\/X.env.scope.names.lookup x=some .local:=by first|exact .inl rfl|exact .inr rfl|assumption):PG X (.Name x pos) (qf6 i):=by
 intro pins s σ H v u Q I r h
 exact wpAny_assign_Name (qc2 I hN hi hx r (λs' I'=>⟨_,H,I',h⟩) hf)
theorem pgn(i:Nat){x:Str}(hN:X.N.Nodup)(hi:X.N[i]?=some x:=by rfl)(hx:Loc X.env.scope x:=by exact Or.inl rfl)(hf:X.fn x=true\/X.env.scope.names.lookup x=some .local:=by first|exact .inl rfl|exact .inr rfl|assumption):PG X (.Name x pos) (qf6 i):=qba hN hi hx hf
noncomputable def gNil:TGs:=λvs σ H Q=>vs=[]/\Q σ H
noncomputable def gCons(t:TG)(u:TGs):TGs:=λvs σ H Q=>∃v r,vs=v::r/\t v σ H λσ' H'=>u r σ' H' Q
theorem yb7:PGs X [] gNil:=by
 intro pins s σ H vs us Q I r h
 obtain ⟨e,h⟩:=h
 subst e
 cases r
 exact assignInOrder_nil ⟨σ,H,I,h⟩
theorem qau{e:Expr}{es:List Expr}{t:TG}{u:TGs}(h1:PG X e t)(h2:PGs X es u)
  (hs:(assignEach (e::es) X.env).map (·.2)=assign e X.env::(assignEach es X.env).map (·.2):=by rfl):PGs X (e::es) (gCons t u):=by
 intro pins s σ H vs us Q I r h
 obtain ⟨v,vr,e1,h⟩:=h
 subst e1
 cases r with
 |cons r rr=>
  rw[hs]
  refine assignInOrder_cons (thn (h1 pins s σ H _ _ _ I r h) λ_ s1 ⟨σ1,H1,I1,q1⟩=>?_)
  exact h2 pins s1 σ1 H1 _ _ Q I1 rr q1
noncomputable def gTup(K:W.Frag)(n:Nat)(t:TGs):TG:=λv σ H Q=>∃a xs,v=.ref a/\SqT K H a xs/\xs.length=n/\t xs σ H Q
theorem qds{es:List Expr}{k:Nat}{t:TGs}{n:Nat}(hc:X.calm=true)(h:PGs X es t)
  (hn:(assignEach es X.env).length=n:=by rfl) (hst:(assignEach es X.env).findIdx? (·.1)=none:=by rfl):PG X (.Tuple es k pos) (gTup X.K n t):=by
 intro pins s σ H v u Q I r hw
 obtain ⟨a,xs,e1,hq,hl,hw⟩:=hw
 subst e1
 cases r
 obtain ⟨its,rv,ht,hz⟩:=I.tuple hq
 refine assign_Tuple_tuple (I.ok.hd hc) ht (by simp[hn,<-hl,rv.length]) hst λh' hx=>?_
 have I1:Inv X pins σ H { s with heap:=h' }:=I.kept (t':=s.toks) λb o e=>hx b o (ne_of_lt (lt_size e)) e
 exact h pins _ σ H xs _ Q I1 (by simpa using rv) hw
noncomputable def tAsg(te:TE)(g:TG):TS:=λD σ H=>te σ H λx H1=>g x σ H1 D.nx
theorem qgi{i:Nat}{x:Str}{e:Expr}{te:TE}{pos':Pos}(hN:X.N.Nodup)(hi:X.N[i]?=some x)(hx:Loc X.env.scope x)(he:PE X e te)(hs:swapsWith e (some (.Name x pos')) pos.line X.env=pure false:=by rfl)(hf:X.fn x=true\/X.env.scope.names.lookup x=some .local:=by first|exact .inl rfl|exact .inr rfl|assumption) :
  PS X (.Assign [.Name x pos'] e pos) (tAsg te (qf6 i)):=by
 intro pins s σ H D I h
 refine wpAny_Assign_Name (thn (he pins s σ H _ I h) λv s1 ⟨y,H1,I1,r1,q1⟩=>?_) hs
 exact qc2 I1 hN hi hx r1 (λs2 I2=>⟨_,H1,I2,q1⟩) hf
theorem pst(i:Nat){x:Str}{e:Expr}{te:TE}{pos':Pos}(hN:X.N.Nodup)(he:PE X e te)(hi:X.N[i]?=some x:=by rfl)(hx:Loc X.env.scope x:=by exact Or.inl rfl)(hs:swapsWith e (some (.Name x pos')) pos.line X.env=pure false:=by rfl)(hf:X.fn x=true\/X.env.scope.names.lookup x=some .local:=by first|exact .inl rfl|exact .inr rfl|assumption):PS X (.Assign [.Name x pos'] e pos) (tAsg te (qf6 i)):=qgi hN hi hx he hs hf
end
structure It where
 go:Nat->Hp->Prop
 yld:Nat->Hp->V->Hp->Prop
 stop:Nat->Hp->Prop
noncomputable def FpOk(X:Cx)(pins:List (Addr×Obj))(H:Hp)(b:Addr):Prop:=
 H b=none/\b≠X.env.locals/\b∉X.fs/\(b∈X.ex\/X.s₀.heap.objs.size<=b)/\(∀x c,X.env.cells.lookup x=some c->c≠b)/\∀p∈X.pn++pins,p.1≠b
theorem Inv.fpOk{X:Cx}{pins:List (Addr×Obj)}{σ:St}{H H':Hp}{s:Shared}{b:Addr}(I:Inv X pins σ H s)(hb:s.heap.objs.size<=b)(hn:H' b=none):FpOk X pins H' b:=by
 refine ⟨hn,ne_of_gt (lt_of_lt_of_le I.lt hb),I.nofs hb,.inr (le_trans I.sz hb),λx c e z=>?_,λp hp z=>?_⟩
 ·obtain ⟨v,q⟩:=I.cell x c e
  exact absurd (lt_of_lt_of_le q.lt (by rw[z];exact hb)) (lt_irrefl _)
 ·exact absurd (lt_of_lt_of_le (lt_size (I.pin p hp).1) (by rw[z];exact hb)) (lt_irrefl _)
structure Turn(P:Program)(w:World)(K:W.Frag)(tg:Expr)(J:It)(fp:List Addr)(it:Addr)(tn:Nat->Heap->Prop):Prop where
 mem:it∈fp
 obj:∀i h,tn i h->∀b∈fp,∃o,h.get? b=some o/\∀v,o.data≠.cell v
 keep:∀i h h',tn i h->(∀b∈fp,∀o,h.get? b=some o->h'.get? b=some o)->tn i h'
 item:∀(X:Cx),X.prog=P->X.w=w->X.K=K->X.calm=true->∀(i:Nat) (pins:List (Addr×Obj)) (s:Shared) (σ:St) (H:Hp) (E:Value->Shared->Prop),Inv X pins σ H s->(∀b∈fp,FpOk X pins H b)->tn i s.heap->J.go i H->
  wpAny (model P w) X.A (pyNext (.ref it)) (λr s1=>∃u,r=some u/\
   wpAny (model P w) X.A (letOwnedTupleGo tg (.ref it) u) (λ_ s2=>∃x H',Inv X pins σ H' s2/\RelV x u/\J.yld i H x H'/\tn (i+1) s2.heap/\∀b∈fp,H' b=none) E s1) E s
 done:∀(X:Cx),X.prog=P->X.w=w->X.K=K->X.calm=true->∀(i:Nat) (pins:List (Addr×Obj)) (s:Shared) (σ:St) (H:Hp) (E:Value->Shared->Prop),Inv X pins σ H s->(∀b∈fp,FpOk X pins H b)->tn i s.heap->J.stop i H->
  wpAny (model P w) X.A (pyNext (.ref it)) (λr s1=>r=none/\Inv X pins σ H s1) E s
 self:∀(A:Around) (i:Nat) (s:Shared) (Q:Value->Shared->Prop) (E:Value->Shared->Prop),tn i s.heap->Q (.ref it) s->wpAny (model P w) A (pyIter (.ref it)) Q E s
noncomputable abbrev TI:=St->Hp->(It->Hp->Prop)->Prop
noncomputable def PIE(X:Cx)(pins:List (Addr×Obj))(σ:St)(tg:Expr)(R:It->Hp->Prop)(itv:Value)(s2:Shared):Prop:=
 ∃(it:Addr) (fp:List Addr) (tn:Nat->Heap->Prop) (J:It) (H':Hp),itv=.ref it/\Inv X pins σ H' s2/\Turn X.prog X.w X.K tg J fp it tn/\tn 0 s2.heap/\(∀b∈fp,FpOk X pins H' b)/\R J H'
noncomputable def PI(X:Cx)(tg iter:Expr)(wi:TI):Prop:=
 ∀(pins:List (Addr×Obj)) (s:Shared) (σ:St) (H:Hp) (R:It->Hp->Prop),Inv X pins σ H s->wi σ H R->
  wpAny (model X.prog X.w) X.A (eval iter X.env) (λv s1=>wpAny (model X.prog X.w) X.A (pyIter v) (PIE X pins σ tg R) X.xe s1) X.xe s
theorem go_of{M:Model}{A:Around}{E:Value->Shared->Prop}{s:Shared}{tg:Expr}{it:Addr}{u:Value}{o:Obj}{n:String}{vs:Array Value}{Q:Unit->Shared->Prop}(ho:s.heap.get? it=some o)(hc:o.cls=.type n)(hd:o.data=.fields vs)
    (hn:["enumerate","zip","dict_itemiterator","dict_reverseitemiterator","odict_iterator","itertools.zip_longest","itertools.pairwise"].contains n=false) (hQ:Q () s):wpAny M A (letOwnedTupleGo tg (.ref it) u) Q E s:=by
  unfold letOwnedTupleGo
  cases tg<;>first
    |exact wpAny_pure hQ
    | (cases u<;>first
        |exact wpAny_pure hQ
        | (refine wpAny_bind (wpAny_load ho ?_)
           rw[hc,hd]
           show wpAny M A (if (["enumerate","zip","dict_itemiterator","dict_reverseitemiterator","odict_iterator","itertools.zip_longest","itertools.pairwise"].contains n&&vs[0]? == some (rawInt _))=true then _ else _) Q E s
           rw[if_neg (by intro h;rw[hn,Bool.false_and]at h;cases h)]
           exact wpAny_pure hQ))
noncomputable def Itl(K:W.Frag)(a:Addr):It:=
 ⟨λi H=>∃xs x,SqL K H a xs/\xs[i]?=some x,λi H x H'=>H'=H/\∀xs,SqL K H a xs->xs[i]?=some x,λi H=>∃xs,SqL K H a xs/\xs.length<=i⟩
noncomputable def Itr(lo:Int)(n:Nat):It:=⟨λi _=>i<n,λi H x H'=>H'=H/\x=.int (lo+i),λi _=>n<=i⟩
theorem yg8{P:Program}{w:World}{K:W.Frag}{tg:Expr}(a it:Addr):Turn P w K tg (Itl K a) [it] it (λi h=>h.IsListIter it a i) where
 mem:=by simp
 obj:=λi h st b hb=>by
  have e:b=it:=by simpa using hb
  subst e
  obtain ⟨o,e,c,d⟩:=st
  exact ⟨o,e,λv z=>by rw[d]at z;cases z⟩
 keep:=λi h h' st k=>st.at λo e=>k it (by simp) o e
 item:=by
  intro X hP hw hK hc i pins s σ H E I hf st hg
  subst hP hw hK
  obtain ⟨xs,x,hq,hx⟩:=hg
  obtain ⟨its,rv,p,hz⟩:=I.list hq
  obtain ⟨u,hu,ru⟩:=rv.get hx
  obtain ⟨f0,f1,f2,f3,f4,f5⟩:=hf it (by simp)
  refine wpAny_pyNext_list_item st p.isList (x:=u) (by simpa using hu) λh' st' sb=>?_
  have I1:Inv X pins σ H { s with heap:=h' }:=I.turned (t':=s.toks) (λb o hb e=>(sb.2 b hb).trans e) f0 f1 f3 f4 f5
  obtain ⟨o,e,c,d⟩:=id st'
  exact ⟨u,rfl,go_of (s:={ s with heap:=h' }) e c d (by decide) ⟨x,H,I1,ru,⟨rfl,λys hy=>by rw[I.list_inj hy hq];exact hx⟩,st',λb hb=>(hf b hb).1⟩⟩
 done:=by
  intro X hP hw hK hc i pins s σ H E I hf st hg
  subst hP hw hK
  obtain ⟨xs,hq,hx⟩:=hg
  obtain ⟨its,rv,p,hz⟩:=I.list hq
  obtain ⟨f0,f1,f2,f3,f4,f5⟩:=hf it (by simp)
  have hl:=rv.length
  exact wpAny_pyNext_list_end (I.ok.hd hc) st p.isList (by simp;omega) λh' eb=>⟨rfl,I.turned (t':=s.toks) (λb o hb e=>eb b o hb e) f0 f1 f3 f4 f5⟩
 self:=λ_ _ _ _ _ st h=>wpAny_pyIter_listiter st h
theorem qf7{P:Program}{w:World}{K:W.Frag}{tg:Expr}(it:Addr)(lo:Int)(n:Nat):Turn P w K tg (Itr lo n) [it] it (λi h=>IsRangeIter h it (lo+(i:Nat)*1) ((n:Int)-(i:Nat)) 1) where
 mem:=by simp
 obj:=λi h st b hb=>by
  have e:b=it:=by simpa using hb
  subst e
  exact ⟨_,st,λv z=>by
   have z':Data.fields _=Data.cell v:=z
   cases z'⟩
 keep:=λi h h' st k=>k it (by simp) _ st
 item:=by
  intro X hP hw hK hc i pins s σ H E I hf st hg
  subst hP hw hK
  obtain ⟨f0,f1,f2,f3,f4,f5⟩:=hf it (by simp)
  have W:=Walks.range (prog:=X.prog) (w:=X.w) (I.ok.hd hc) it lo 1 n
  refine W.item i s _ _ hg st λv h' tk hv st' kk=>?_
  obtain ⟨t,rfl⟩:=hv
  have I1:Inv X pins σ H { s with heap:=h',toks:=tk }:=I.turned (λb o hb e=>kk b o (by simpa using hb) e) f0 f1 f3 f4 f5
  refine ⟨_,rfl,go_of (s:={ s with heap:=h',toks:=tk }) (n:="range_iterator") st' rfl rfl (by decide) ⟨.int (lo+i),H,I1,⟨t,?_⟩,⟨rfl,rfl⟩,st',λb hb=>(hf b hb).1⟩⟩
  rw[Int.mul_one]
 done:=by
  intro X hP hw hK hc i pins s σ H E I hf st hg
  subst hP hw hK
  obtain ⟨f0,f1,f2,f3,f4,f5⟩:=hf it (by simp)
  exact wpAny_pyNext_range_end (I.ok.hd hc) st (by have:n<=i:=hg;omega) λh' eb=>⟨rfl,I.turned (t':=s.toks) (λb o hb e=>eb b o hb e) f0 f1 f3 f4 f5⟩
 self:=λ_ _ _ _ _ st h=>wpAny_pyIter_rangeiter st h
section
variable {X:Cx}{tg:Expr}
noncomputable def iList(K:W.Frag)(tl:TE):TI:=λσ H R=>tl σ H λx H1=>∃a,x=.ref a/\(∃xs,SqL K H1 a xs)/\R (Itl K a) H1
theorem yce{l:Expr}{tl:TE}(hl:PE X l tl):PI X tg l (iList X.K tl):=by
 intro pins s σ H R I h
 refine thn (hl pins s σ H _ I h) λv s1 ⟨x,H1,I1,r1,q1⟩=>?_
 obtain ⟨a,e,⟨xs,hq⟩,q⟩:=q1
 subst e
 cases r1
 obtain ⟨its,rv,p,hz⟩:=I1.list hq
 refine wpAny_pyIter_list p.isList ?_
 refine ⟨s1.heap.objs.size,[s1.heap.objs.size],_,_,H1,rfl,I1.kept (t':=s1.toks) λb o e=>get?_push_of_some _ e,yg8 a _,⟨_,get?_push_size _ rfl,rfl,rfl⟩,λb hb=>?_,q⟩
 have e:b=s1.heap.objs.size:=by simpa using hb
 subst e
 exact I1.fpOk (le_refl _) (I1.hok.fresh (le_refl _))
theorem range_it{pins:List (Addr×Obj)}{σ:St}{H:Hp}{s:Shared}{R:It->Hp->Prop}{E:Value->Shared->Prop}{lo hi:Int}{t u v:Tok}{tk:Nat}(I:Inv X pins σ H s)(h1:-(2 ^ 62)<=lo)(h2:lo<2 ^ 62)(h3:-(2 ^ 62)<=hi)(h4:hi<2 ^ 62)
  (q:R (Itr lo (hi-lo).toNat) H):wpAny (model X.prog X.w) X.A (pyIter (.ref s.heap.objs.size)) (PIE X pins σ tg R) E { s with heap:=s.heap.push { cls:=.type "range",data:=.fields #[.int lo t,.int hi u,.int 1 v] },toks:=tk }:=by
 refine wpAny_pyIter_range (IsRange.new ..) (small_one h1 h2 h3 h4) ?_
 have I1:Inv X pins σ H { s with heap:=s.heap.push { cls:=.type "range",data:=.fields #[.int lo t,.int hi u,.int 1 v] },toks:=tk }:=I.kept λb o e=>get?_push_of_some _ e
 refine ⟨(s.heap.push { cls:=.type "range",data:=.fields #[.int lo t,.int hi u,.int 1 v] }).objs.size,[(s.heap.push { cls:=.type "range",data:=.fields #[.int lo t,.int hi u,.int 1 v] }).objs.size],_,_,H,rfl,
  I1.kept (t':=tk) λb o e=>get?_push_of_some _ e,qf7 _ lo (hi-lo).toNat,?_,λb hb=>?_,q⟩
 ·have e1:lo+((0:Nat):Int)*1=lo:=by simp
  have e2:(((hi-lo).toNat:Nat):Int)-((0:Nat):Int)=Builtin.Range.rangeSize lo hi 1:=by rw[rangeSize_one];split<;>omega
  show IsRangeIter _ _ (lo+((0:Nat):Int)*1) ((((hi-lo).toNat:Nat):Int)-((0:Nat):Int)) 1
  rw[e1,e2]
  exact get?_push_size _ rfl
 ·have e:b=(s.heap.push { cls:=.type "range",data:=.fields #[.int lo t,.int hi u,.int 1 v] }).objs.size:=by simpa using hb
  subst e
  exact I1.fpOk (le_refl _) (I1.hok.fresh (le_refl _))
noncomputable def iRng1(ta:TA):TI:=λσ H R=>ta σ H λvs H1=>∃j:Int,vs=[.int j]/\-(2 ^ 62)<=j/\j<2 ^ 62/\R (Itr 0 j.toNat) H1
theorem qen{a:Expr}{ta:TA}{p pos:Pos}(hg:Gl X "range")(hm:X.mg "range"=none)(ha:PA X [a] ta)(hs:starEach [a] X.env=[(false,eval a X.env)]:=by rfl):PI X tg (.Call (.Name "range" p) [a] [] pos) (iRng1 ta):=by
 intro pins s σ H R I h
 refine Call_ (qeq I hg hm boot_range (PyProof.Rows.callWith_type1 (thn (ha pos pins s σ H _ I h) λus s1 ⟨vs,H1,I1,r1,q1⟩=>?_) hs rfl))
 obtain ⟨j,e,q1,q2,q⟩:=q1
 subst e
 cases r1 with
 |cons r rr=>
  cases rr
  obtain ⟨t,rfl⟩:=r
  exact call_range_1 (range_it I1 (by omega) (by omega) q1 q2 (by simpa using q))
noncomputable def tFor(wi:TI)(g:TG)(tb:TS):TS:=λD σ H=>wi σ H λJ H1=>∃W:Nat->Nat->St->Hp->Prop,(∃m,W 0 m σ H1)/\∀i m σ H,W i m σ H->
 (J.stop i H/\D.nx σ H)\/(J.go i H/\∃N:St->Hp->Prop,(∀σ' H',N σ' H'->∃m',m' < m/\W (i+1) m' σ' H')/\∀x H',J.yld i H x H'->g x σ H' λσ2 H2=>tb { D with nx:=N,ct:=N,bk:=D.nx } σ2 H2)
noncomputable def qeu(fp:List Addr)(h:Heap):List (Addr×Obj):=fp.filterMap λb=>(h.get? b).map λo=>(b,o)
theorem ybx{fp:List Addr}{h:Heap}{b:Addr}{o:Obj}(hb:b∈fp)(e:h.get? b=some o):(b,o)∈qeu fp h:=List.mem_filterMap.mpr ⟨b,hb,by rw[e];rfl⟩
theorem ygu{fp:List Addr}{h:Heap}{p:Addr×Obj}(hp:p∈qeu fp h):p.1∈fp/\h.get? p.1=some p.2:=by
 obtain ⟨b,hb,e⟩:=List.mem_filterMap.mp hp
 cases q:h.get? b with
 |none=>rw[q]at e;cases e
 |some o=>
  rw[q]at e
  have e':(b,o)=p:=Option.some.inj e
  subst e'
  exact ⟨hb,q⟩
theorem Inv.pinned{pins:List (Addr×Obj)}{σ:St}{H:Hp}{s:Shared}{fp:List Addr}(I:Inv X pins σ H s)(hf:∀b∈fp,FpOk X pins H b)(ho:∀b∈fp,∃o,s.heap.get? b=some o/\∀v,o.data≠.cell v):Inv X (pins++qeu fp s.heap) σ H s:=
 I.pins_of λp hp=>(mem_append.mp hp).elim (λz=>I.pin p (mem_append_right _ z)) λz=>by
  obtain ⟨hb,e⟩:=ygu z
  obtain ⟨f0,f1,f2,_⟩:=hf p.1 hb
  obtain ⟨o,e',d⟩:=ho p.1 hb
  rw[e]at e';cases e'
  exact ⟨e,f0,f1,f2,d⟩
theorem Inv.unpinned{pins pl:List (Addr×Obj)}{σ:St}{H:Hp}{s:Shared}(I:Inv X (pins++pl) σ H s):Inv X pins σ H s:=I.pins_of λp hp=>I.pin p (mem_append_right _ (List.mem_append_left _ hp))
theorem ps_for{iter:Expr}{body:List Stmt}{wi:TI}{g:TG}{tb:TS}{pos:Pos}(hp:PassesOwn (model X.prog X.w) X.A X.env X.xe)(hc:X.calm=true)(hi:PI X tg iter wi)(hg:PG X tg g)(hb:PSs X body tb)
  (hs:∀x,foldedSetIterable iter X.env x=pure x:=by intro _;rfl):PS X (.For tg iter body [] pos) (tFor wi g tb):=by
 intro pins s σ H D I h
 refine wpAny_For (thn (hi pins s σ H _ I h) λv s1 h1=>thn h1 λitv s2 h2=>?_) hs
 obtain ⟨it,fp,tn,J,H2,e,I2,T,st2,f2,W,⟨m0,w0⟩,turn⟩:=h2
 subst e
 -- what stays true of the iterator's objects through the loop
 have stat:∀{H':Hp},(∀b∈fp,H' b=none)->∀b∈fp,FpOk X pins H' b:=λhn b hb=>⟨hn b hb,(f2 b hb).2⟩
 refine codeAny_forLoop_any (λn s'=>∃i σ' H',Inv X pins σ' H' s'/\tn i s'.heap/\(∀b∈fp,H' b=none)/\W i n σ' H') ?_ m0 ⟨0,σ,H2,I2,st2,λb hb=>(f2 b hb).1,w0⟩
 rintro n s3 ⟨i,σ3,H3,I3,st3,fr3,w3⟩
 rcases turn i n σ3 H3 w3 with ⟨stop,qn⟩|⟨go,N,hN,step⟩
 ·refine wpAny_passesOwn hp (thn (T.done X rfl rfl rfl hc i pins s3 σ3 H3 X.xe I3 (stat fr3) st3 stop) λr s4 ⟨hr,I4⟩=>?_)
  subst hr
  exact wpAny_execs_nil ⟨σ3,H3,I4,qn⟩
 ·refine wpAny_passesOwn hp (thn (T.item X rfl rfl rfl hc i pins s3 σ3 H3 X.xe I3 (stat fr3) st3 go) λr s4 ⟨u,hr,h4⟩=>?_)
  subst hr
  refine wpAny_passesOwn hp (thn h4 λ_ s5 ⟨x,H5,I5,r5,y5,st5,fr5⟩=>?_)
  have I5':=I5.pinned (stat fr5) (T.obj _ _ st5)
  refine wpAny_passesOwn hp (thn (hg _ s5 σ3 H5 x u _ I5' r5 (step x H5 y5)) λ_ s6 ⟨σ6,H6,I6,q6⟩=>?_)
  refine wpAny_passesOwn hp (thn (hb _ s6 σ6 H6 _ I6 q6) λf s7 q7=>?_)
  have again:∀{σ7:St}{H7:Hp},Inv X (pins++qeu fp s5.heap) σ7 H7 s7->N σ7 H7->∃m,m<n/\∃i σ' H',Inv X pins σ' H' s7/\tn i s7.heap/\(∀b∈fp,H' b=none)/\W i m σ' H':=λ{σ7 H7} I7 n7=>by
   obtain ⟨m',hm,w7⟩:=hN σ7 H7 n7
   refine ⟨m',hm,i+1,σ7,H7,I7.unpinned,T.keep _ _ _ st5 λb hb o e=>(I7.pin (b,o) (mem_append_right _ (mem_append_right _ (ybx hb e)))).1,λb hb=>?_,w7⟩
   obtain ⟨o,e,d⟩:=T.obj _ _ st5 b hb
   exact (I7.pin (b,o) (mem_append_right _ (mem_append_right _ (ybx hb e)))).2.1
  cases f with
  |next=>obtain ⟨σ7,H7,I7,n7⟩:=q7;exact again I7 n7
  |cont=>obtain ⟨σ7,H7,I7,n7⟩:=q7;exact again I7 n7
  |brk=>obtain ⟨σ7,H7,I7,q7⟩:=q7;exact ⟨σ7,H7,I7.unpinned,q7⟩
  |ret v=>obtain ⟨x7,σ7,H7,I7,r7,q7⟩:=q7;exact ⟨x7,σ7,H7,I7.unpinned,r7,q7⟩
end
theorem yfl{K:W.Frag}{a:Addr}{xs:List V}{g:TG}{tb:TS}{D:Ends}{σ:St}{H:Hp}(Pv:Nat->St->Hp->Prop)(h0:Pv 0 σ H)(hl:∀i σ H,i<=xs.length->Pv i σ H->SqL K H a xs)
  (hs:∀i x σ H,xs[i]?=some x->Pv i σ H->g x σ H λσ2 H2=>tb { D with nx:=Pv (i+1),ct:=Pv (i+1),bk:=D.nx } σ2 H2) (hd:∀σ H,Pv xs.length σ H->D.nx σ H) :
  ∃W:Nat->Nat->St->Hp->Prop,(∃m,W 0 m σ H)/\∀i m σ H,W i m σ H->
   ((Itl K a).stop i H/\D.nx σ H)\/((Itl K a).go i H/\∃N:St->Hp->Prop,(∀σ' H',N σ' H'->∃m',m' < m/\W (i+1) m' σ' H')/\∀x H',(Itl K a).yld i H x H'->g x σ H' λσ2 H2=>tb { D with nx:=N,ct:=N,bk:=D.nx } σ2 H2):=by
 refine ⟨λi m σ H=>m=xs.length-i/\i<=xs.length/\Pv i σ H,⟨xs.length,by simp,zero_le _,h0⟩,?_⟩
 rintro i m σ H ⟨rfl,hi,p⟩
 have q:=hl i σ H hi p
 by_cases hlt:i<xs.length
 ·refine .inr ⟨⟨xs,xs[i],q,by simp[hlt]⟩,Pv (i+1),λσ' H' p'=>⟨xs.length-(i+1),by omega,rfl,hlt,p'⟩,λx H' y=>?_⟩
  obtain ⟨e,y⟩:=y
  subst e
  exact hs i x σ _ (y xs q) p
 ·have e:i=xs.length:=by omega
  subst e
  exact .inl ⟨⟨xs,q,le_refl _⟩,hd σ H p⟩
theorem yei{lo:Int}{n:Nat}{g:TG}{tb:TS}{D:Ends}{σ:St}{H:Hp}(Pv:Nat->St->Hp->Prop)(h0:Pv 0 σ H)
  (hs:∀i σ H,i<n->Pv i σ H->g (.int (lo+i)) σ H λσ2 H2=>tb { D with nx:=Pv (i+1),ct:=Pv (i+1),bk:=D.nx } σ2 H2) (hd:∀σ H,Pv n σ H->D.nx σ H) :
  ∃W:Nat->Nat->St->Hp->Prop,(∃m,W 0 m σ H)/\∀i m σ H,W i m σ H->
   ((Itr lo n).stop i H/\D.nx σ H)\/((Itr lo n).go i H/\∃N:St->Hp->Prop,(∀σ' H',N σ' H'->∃m',m' < m/\W (i+1) m' σ' H')/\∀x H',(Itr lo n).yld i H x H'->g x σ H' λσ2 H2=>tb { D with nx:=N,ct:=N,bk:=D.nx } σ2 H2):=by
 refine ⟨λi m σ H=>m=n-i/\i<=n/\Pv i σ H,⟨n,by simp,zero_le _,h0⟩,?_⟩
 rintro i m σ H ⟨rfl,hi,p⟩
 by_cases hlt:i<n
 ·refine .inr ⟨hlt,Pv (i+1),λσ' H' p'=>⟨n-(i+1),by omega,rfl,hlt,p'⟩,λx H' y=>?_⟩
  obtain ⟨e,y⟩:=y
  subst e y
  exact hs i σ _ hlt p
 ·have e:i=n:=by omega
  subst e
  exact .inl ⟨le_refl _,hd σ H p⟩
noncomputable abbrev R2:=V->V->Hp->VK->Prop
noncomputable def OpR(X:Cx)(f:Value->Value->Sem Value)(r:R2):Prop:=
 ∀(pins:List (Addr×Obj)) (s:Shared) (σ:St) (H:Hp) (x y:V) (v u:Value) (Q:VK),Inv X pins σ H s->RelV x v->RelV y u->r x y H Q->
  wpAny (model X.prog X.w) X.A (f v u) (EP X pins σ Q) X.xe s
noncomputable def qca(X:Cx)(f:Value)(r:List V->Hp->VK->Prop):Prop:=
 ∀(pins:List (Addr×Obj)) (s:Shared) (σ:St) (H:Hp) (xs:List V) (us:List Value) (Q:VK),Inv X pins σ H s->Vals xs us->r xs H Q->
  wpAny (model X.prog X.w) X.A (call f us) (EP X pins σ Q) X.xe s
noncomputable def TruR(X:Cx)(r:V->Hp->(Bool->Hp->Prop)->Prop):Prop:=
 ∀(pins:List (Addr×Obj)) (s:Shared) (σ:St) (H:Hp) (x:V) (v:Value) (Q:Bool->Hp->Prop),Inv X pins σ H s->RelV x v->r x H Q->
  wpAny (model X.prog X.w) X.A (truthy v) (TP X pins σ Q) X.xe s
noncomputable def tOp(r:R2)(ta tb:TE):TE:=λσ H Q=>ta σ H λx H1=>tb σ H1 λy H2=>r x y H2 Q
noncomputable def rI(C:Int->Int->Prop)(g:Int->Int->V):R2:=λx y H Q=>∃i j,x=.int i/\y=.int j/\C i j/\Q (g i j) H
noncomputable def rI0(g:Int->Int->V):R2:=λx y H Q=>∃i j,x=.int i/\y=.int j/\Q (g i j) H
section
variable {X:Cx}{a b c:Expr}{ta tb tc:TE}{pos:Pos}
theorem binT(ha:PE X a ta)(hb:PE X b tb){pins:List (Addr×Obj)}{s:Shared}{σ:St}{H:Hp}{R:V->V->Hp->Prop}(I:Inv X pins σ H s)
  (h:ta σ H λx H1=>tb σ H1 λy H2=>R x y H2) {Q:Value->Shared->Prop}{f:Value->Value->Sem Value}
  (hf:∀v u s2 x y H2,Inv X pins σ H2 s2->RelV x v->RelV y u->R x y H2->wpAny (model X.prog X.w) X.A (f v u) Q X.xe s2) :
  wpAny (model X.prog X.w) X.A (eval a X.env) (λv s₁=>wpAny (model X.prog X.w) X.A (eval b X.env) (λu s₂=>wpAny (model X.prog X.w) X.A (f v u) Q X.xe s₂) X.xe s₁) X.xe s:=by
 refine thn (ha pins s σ H _ I h) λv s1 ⟨x,H1,I1,r1,q1⟩=>?_
 refine thn (hb pins s1 σ H1 _ I1 q1) λu s2 ⟨y,H2,I2,r2,q2⟩=>?_
 exact hf v u s2 x y H2 I2 r1 r2 q2
theorem qbd{op:Operator}{r:R2}(ho:OpR X (binaryOp op) r)(ha:PE X a ta)(hb:PE X b tb):PE X (.BinOp a op b pos) (tOp r ta tb):=by
 intro pins s σ H Q I h
 exact wpAny_BinOp (binT ha hb I h λv u s2 x y H2 I2 rx ry q=>ho pins s2 σ H2 x y v u Q I2 rx ry q)
theorem opI{f:Value->Value->Sem Value}{C:Int->Int->Prop}{g:Int->Int->Int}
  (rule:∀(i j:Int) (t u:Tok) (s:Shared) (Q:Value->Shared->Prop) (E:Value->Shared->Prop),C i j->Q (.int (g i j) s.toks) { s with toks:=s.toks+1 }->wpAny (model X.prog X.w) X.A (f (.int i t) (.int j u)) Q E s) :
  OpR X f (rI C λi j=>.int (g i j)):=by
 intro pins s σ H x y v u Q I rx ry h
 obtain ⟨i,j,rfl,rfl,hc,q⟩:=h
 obtain ⟨t,rfl⟩:=rx
 obtain ⟨t',rfl⟩:=ry
 exact rule i j t t' s _ _ hc ⟨.int (g i j),H,I.tok _,⟨_,rfl⟩,q⟩
theorem opI0{f:Value->Value->Sem Value}{g:Int->Int->Int}
  (rule:∀(i j:Int) (t u:Tok) (s:Shared) (Q:Value->Shared->Prop) (E:Value->Shared->Prop),Q (.int (g i j) s.toks) { s with toks:=s.toks+1 }->wpAny (model X.prog X.w) X.A (f (.int i t) (.int j u)) Q E s) :
  OpR X f (rI0 λi j=>.int (g i j)):=by
 intro pins s σ H x y v u Q I rx ry h
 obtain ⟨i,j,rfl,rfl,q⟩:=h
 obtain ⟨t,rfl⟩:=rx
 obtain ⟨t',rfl⟩:=ry
 exact rule i j t t' s _ _ ⟨.int (g i j),H,I.tok _,⟨_,rfl⟩,q⟩
theorem opB0{f:Value->Value->Sem Value}{g:Int->Int->Bool}
  (rule:∀(i j:Int) (t u:Tok) (s:Shared) (Q:Value->Shared->Prop) (E:Value->Shared->Prop),Q (.bool (g i j)) s->wpAny (model X.prog X.w) X.A (f (.int i t) (.int j u)) Q E s) :
  OpR X f (rI0 λi j=>.bl (g i j)):=by
 intro pins s σ H x y v u Q I rx ry h
 obtain ⟨i,j,rfl,rfl,q⟩:=h
 obtain ⟨t,rfl⟩:=rx
 obtain ⟨t',rfl⟩:=ry
 exact rule i j t t' s _ _ ⟨.bl (g i j),H,I,rfl,q⟩
noncomputable def CDiv(i j:Int):Prop:=0<j/\j<1073741824
noncomputable def CPow(i j:Int):Prop:=0<=j/\j<=1000000/\i.natAbs<2 ^ 64
noncomputable def CMul(i j:Int):Prop:=(-(2 ^ 64)<i/\i<2 ^ 64)\/(-(2 ^ 64)<j/\j<2 ^ 64)
theorem CMul.ok{i j:Int}(h:CMul i j):IntMulOk i j:=by
 rcases h with ⟨h1,h2⟩|⟨h1,h2⟩
 ·exact .of_left (intBits_le_64 h1 h2)
 ·exact .of_right (intBits_le_64 h1 h2)
theorem qbe:OpR X (binaryOp .Add) (rI0 λi j=>.int (i+j)):=opI0 λ_ _ _ _ _ _ _ q=>add_int q
theorem qdk:OpR X (binaryOp .Mult) (rI CMul λi j=>.int (i*j)):=opI λ_ _ _ _ _ _ _ hc q=>mul_int q hc.ok
theorem ycc:OpR X (binaryOp .FloorDiv) (rI CDiv λi j=>.int (i / j)):=opI λi j _ _ _ _ _ hc q=>by
 have h1:(0:Int)<j:=hc.1
 have h2:j<1073741824:=hc.2
 exact floordiv_int (by omega) (by rw[Int.fdiv_eq_ediv_of_nonneg i (by omega)];exact q) (.inl (PyProof.noPylong_small (by omega)))
theorem qa5:OpR X (binaryOp .Mod) (rI (λ_ j=>0<j) λi j=>.int (i % j)):=opI λi j _ _ _ _ _ hc q=>by
 have h1:(0:Int)<j:=hc
 exact mod_int' (by omega) (by rw[Int.fmod_eq_emod_of_nonneg i (by omega)];exact q)
theorem op_pow:OpR X (binaryOp .Pow) (rI CPow λi j=>.int (i ^ j.toNat)):=opI λ_ _ _ _ _ _ _ hc q=>pow_int_small hc.1 hc.2.1 hc.2.2 q
noncomputable def scal:V->V->Bool
 |.non,.non=>true|.non,.int _=>true|.int _,.non=>true|.non,.bl _=>true|.bl _,.non=>true|.non,.str _=>true|.str _,.non=>true
 |.int _,.int _=>true|.bl _,.bl _=>true|.str _,.str _=>true|.byt _,.byt _=>true
 |.int _,.str _=>true|.str _,.int _=>true|.bl _,.str _=>true|.str _,.bl _=>true
 |_,_=>false
noncomputable def rEq:R2:=λx y H Q=>scal x y=true/\Q (.bl (decide (x=y))) H
noncomputable def rNe:R2:=λx y H Q=>scal x y=true/\Q (.bl (!decide (x=y))) H
theorem ygy{i j:Int}:decide (V.int i=V.int j)=(i == j):=by
 rw[Bool.eq_iff_iff]
 simp
theorem dec_bl{i j:Bool}:decide (V.bl i=V.bl j)=(i == j):=by
 rw[Bool.eq_iff_iff]
 simp
theorem qgd{i j:Str}:decide (V.str i=V.str j)=(i == j):=by
 rw[Bool.eq_iff_iff]
 simp
theorem yg0{i j:Array UInt8}:decide (V.byt i=V.byt j)=(i.toList == j.toList):=by
 rw[Bool.eq_iff_iff]
 cases i
 cases j
 simp
theorem yao{pins:List (Addr×Obj)}{σ:St}{H:Hp}{s:Shared}{Q:VK}{k k':Bool}(I:Inv X pins σ H s)(q:Q (.bl k) H)(e:k=k'):EP X pins σ Q (.bool k') s:=by
 subst e
 exact ⟨.bl k,H,I,rfl,q⟩
theorem yc1:OpR X (compareOp .Eq) rEq:=by
 intro pins s σ H x y v u Q I rx ry h
 obtain ⟨hs,q⟩:=h
 cases x with
 |non=>
  cases rx
  cases y with
  |non=>cases ry;exact PySem.EqNone.eq_none_none (yao I q (by simp))
  |bl j=>cases ry;exact PySem.EqNone.eq_none_bool (yao I q (by simp))
  |int j=>obtain ⟨t',rfl⟩:=ry;exact PySem.EqNone.eq_none_int (yao I q (by simp))
  |str j=>obtain ⟨t',rfl⟩:=ry;exact PySem.EqNone.eq_none_str (yao I q (by simp))
  |_=>exact absurd (show false=true from hs) Bool.false_ne_true
 |bl i=>
  cases rx
  cases y with
  |non=>cases ry;exact PySem.EqNone.eq_bool_none (yao I q (by simp))
  |bl j=>cases ry;exact eq_bool (yao I q dec_bl)
  |str j=>obtain ⟨t',rfl⟩:=ry;exact PySem.EqMixed.eq_bool_str (yao I q (by simp))
  |_=>exact absurd (show false=true from hs) Bool.false_ne_true
 |int i=>
  obtain ⟨t,rfl⟩:=rx
  cases y with
  |non=>cases ry;exact PySem.EqNone.eq_int_none (yao I q (by simp))
  |int j=>obtain ⟨t',rfl⟩:=ry;exact eq_int (yao I q ygy)
  |str j=>obtain ⟨t',rfl⟩:=ry;exact PySem.EqMixed.eq_int_str (yao I q (by simp))
  |_=>exact absurd (show false=true from hs) Bool.false_ne_true
 |str i=>
  obtain ⟨t,rfl⟩:=rx
  cases y with
  |non=>cases ry;exact PySem.EqNone.eq_str_none (yao I q (by simp))
  |bl j=>cases ry;exact PySem.EqMixed.eq_str_bool (yao I q (by simp))
  |int j=>obtain ⟨t',rfl⟩:=ry;exact PySem.EqMixed.eq_str_int (yao I q (by simp))
  |str j=>obtain ⟨t',rfl⟩:=ry;exact eq_str (yao I q qgd)
  |_=>exact absurd (show false=true from hs) Bool.false_ne_true
 |byt i=>
  obtain ⟨t,rfl⟩:=rx
  cases y with
  |byt j=>obtain ⟨t',rfl⟩:=ry;exact W.eq_bytes (yao I q yg0)
  |_=>exact absurd (show false=true from hs) Bool.false_ne_true
 |_=>cases y<;>exact absurd (show false=true from hs) Bool.false_ne_true
theorem op_ne:OpR X (compareOp .NotEq) rNe:=by
 intro pins s σ H x y v u Q I rx ry h
 obtain ⟨hs,q⟩:=h
 cases x with
 |non=>
  cases rx
  cases y with
  |non=>cases ry;exact PySem.EqNone.ne_none_none (yao I q (by simp))
  |bl j=>cases ry;exact PySem.EqNone.ne_none_bool (yao I q (by simp))
  |int j=>obtain ⟨t',rfl⟩:=ry;exact PySem.EqNone.ne_none_int (yao I q (by simp))
  |str j=>obtain ⟨t',rfl⟩:=ry;exact PySem.EqNone.ne_none_str (yao I q (by simp))
  |_=>exact absurd (show false=true from hs) Bool.false_ne_true
 |bl i=>
  cases rx
  cases y with
  |non=>cases ry;exact PySem.EqNone.ne_bool_none (yao I q (by simp))
  |bl j=>cases ry;exact ne_bool (yao I q (congrArg not dec_bl))
  |str j=>obtain ⟨t',rfl⟩:=ry;exact PySem.EqMixed.ne_bool_str (yao I q (by simp))
  |_=>exact absurd (show false=true from hs) Bool.false_ne_true
 |int i=>
  obtain ⟨t,rfl⟩:=rx
  cases y with
  |non=>cases ry;exact PySem.EqNone.ne_int_none (yao I q (by simp))
  |int j=>obtain ⟨t',rfl⟩:=ry;exact ne_int (yao I q (congrArg not ygy))
  |str j=>obtain ⟨t',rfl⟩:=ry;exact PySem.EqMixed.ne_int_str (yao I q (by simp))
  |_=>exact absurd (show false=true from hs) Bool.false_ne_true
 |str i=>
  obtain ⟨t,rfl⟩:=rx
  cases y with
  |non=>cases ry;exact PySem.EqNone.ne_str_none (yao I q (by simp))
  |bl j=>cases ry;exact PySem.EqMixed.ne_str_bool (yao I q (by simp))
  |int j=>obtain ⟨t',rfl⟩:=ry;exact PySem.EqMixed.ne_str_int (yao I q (by simp))
  |str j=>obtain ⟨t',rfl⟩:=ry;exact ne_str (yao I q (congrArg not qgd))
  |_=>exact absurd (show false=true from hs) Bool.false_ne_true
 |byt i=>
  obtain ⟨t,rfl⟩:=rx
  cases y with
  |byt j=>obtain ⟨t',rfl⟩:=ry;exact W.ne_bytes (yao I q (congrArg not yg0))
  |_=>exact absurd (show false=true from hs) Bool.false_ne_true
 |_=>cases y<;>exact absurd (show false=true from hs) Bool.false_ne_true
theorem op_lt:OpR X (compareOp .Lt) (rI0 λi j=>.bl (decide (i<j))):=opB0 λ_ _ _ _ _ _ _ q=>lt_int q
theorem op_le:OpR X (compareOp .LtE) (rI0 λi j=>.bl (decide (i<=j))):=opB0 λ_ _ _ _ _ _ _ q=>le_int q
theorem qfj:OpR X (compareOp .Gt) (rI0 λi j=>.bl (decide (j<i))):=opB0 λ_ _ _ _ _ _ _ q=>gt_int q
theorem op_ge:OpR X (compareOp .GtE) (rI0 λi j=>.bl (decide (j<=i))):=opB0 λ_ _ _ _ _ _ _ q=>ge_int q
theorem qak(b:Expr){op:CmpOp}(h:op≠.In:=by decide)(h2:op≠.NotIn:=by decide):behindInMarks op b=false:=by
 have e1:(op == CmpOp.In)=false:=by cases op<;>first|rfl|exact absurd rfl h
 have e2:(op == CmpOp.NotIn)=false:=by cases op<;>first|rfl|exact absurd rfl h2
 cases b<;>simp[behindInMarks,e1,e2]
theorem yax{op:CmpOp}{r:R2}(ho:OpR X (compareOp op) r)(ha:PE X a ta)(hb:PE X b tb)(hm:behindInMarks op b=false):PE X (.Compare a [op] [b] pos) (tOp r ta tb):=by
 intro pins s σ H Q I h
 exact wpAny_Compare1 (binT ha hb I h λv u s2 x y H2 I2 rx ry q=>ho pins s2 σ H2 x y v u Q I2 rx ry q) hm
noncomputable def tTest(t:TE):TT:=λσ H Q=>t σ H λx H'=>∃k,x=.bl k/\Q k H'
theorem pt_cmpR{op:CmpOp}{r:R2}(ho:OpR X (compareOp op) r)(ha:PE X a ta)(hb:PE X b tb)(hm:behindInMarks op b=false):PT X (.Compare a [op] [b] pos) (tTest (tOp r ta tb)):=by
 intro pins s σ H Q I h
 refine wpAny_isTrue_Compare1 (thn (ha pins s σ H _ I h) λv s1 ⟨x,H1,I1,r1,q1⟩=>thn (hb pins s1 σ H1 _ I1 q1) λu s2 ⟨y,H2,I2,r2,q2⟩=>
  thn (ho pins s2 σ H2 x y v u _ I2 r1 r2 q2) λc s3 ⟨z,H3,I3,r3,k,e,q3⟩=>?_) hm
 subst e
 cases r3
 exact wpAny_truthy_bool ⟨H3,I3,q3⟩
noncomputable def TruV(K:W.Frag)(x:V)(H:Hp)(k:Bool):Prop:=
 match x with
 |.non=>k=false
 |.bl b=>k=b
 |.int i=>k=(i != 0)
 |.str y=>y.length<=sizeLine/\k=((y.length:Int) != 0)
 |.byt y=>y.size<=sizeLine/\k=((y.size:Int) != 0)
 |.ref p=>(∃xs,SqL K H p xs/\k=!xs.isEmpty)\/(∃xs,SqT K H p xs/\k=!xs.isEmpty)\/∃kvs,H p=some (.dK kvs)/\k=!kvs.isEmpty
 |_=>False
theorem yfz{κ:Type}{kvs:List (κ×V)}{vs:List (κ×Value)}(r:KV kvs vs):(!vs.isEmpty)=!kvs.isEmpty:=by
 cases r<;>rfl
theorem qdv{xs:List V}{its:List Value}(r:Vals xs its):(!its.toArray.isEmpty)=!xs.isEmpty:=by
 cases r<;>simp
theorem ydu:(sizeLine:Nat)<2 ^ 63:=by rw[sizeLine_eq];decide
theorem tru_ok:TruR X (λx H Q=>∃k,TruV X.K x H k/\Q k H):=by
 intro pins s σ H x v Q I rx h
 obtain ⟨k,e,q⟩:=h
 have hl:=ydu
 have hs:sizeLine=16777216:=sizeLine_eq
 cases x with
 |non=>
  cases rx
  have e':k=false:=e
  subst e'
  exact truthy_none ⟨H,I,q⟩
 |bl b=>
  cases rx
  have e':k=b:=e
  subst e'
  exact wpAny_truthy_bool ⟨H,I,q⟩
 |int i=>
  obtain ⟨t,rfl⟩:=rx
  have e':k=(i != 0):=e
  subst e'
  exact PySem.P.truthy_int ⟨H,I,q⟩
 |str y=>
  obtain ⟨t,rfl⟩:=rx
  obtain ⟨hy,e'⟩:y.length<=sizeLine/\k=((y.length:Int) != 0):=e
  subst e'
  exact PySem.P.truthy_str (by omega) ⟨H,I.tok _,q⟩
 |byt y=>
  obtain ⟨t,rfl⟩:=rx
  obtain ⟨hy,e'⟩:y.size<=sizeLine/\k=((y.size:Int) != 0):=e
  subst e'
  exact W.truthy_bytes (by omega) ⟨H,I.tok _,q⟩
 |ref p=>
  cases rx
  have e':(∃xs,SqL X.K H p xs/\k=!xs.isEmpty)\/(∃xs,SqT X.K H p xs/\k=!xs.isEmpty)\/∃kvs,H p=some (.dK kvs)/\k=!kvs.isEmpty:=e
  rcases e' with ⟨xs,hx,e'⟩|⟨xs,hx,e'⟩|⟨kvs,hx,e'⟩
  ·subst e'
   obtain ⟨its,r,pl,hz⟩:=I.list hx
   have hlen:=r.length
   exact wpAny_truthy_list pl.isList (by simp only[size_toArray];omega) ⟨H,I.tok _,by rw[qdv r];exact q⟩
  ·subst e'
   obtain ⟨its,r,pl,hz⟩:=I.tuple hx
   have hlen:=r.length
   exact truthy_tuple pl (by simp only[size_toArray];omega) ⟨H,I.tok _,by rw[qdv r];exact q⟩
  ·subst e'
   obtain ⟨hz,hS,vs,r,m⟩:kvs.length<=sizeLine/\(p == sysModules)=false/\∃vs,KV kvs vs/\s.heap.DictOf (yas X.prog X.w) p vs:=I.hok p _ hx
   have hlen:kvs.length=vs.length:=Paired.length r
   exact wpAny_truthy_dict hS m (by omega) ⟨H,I.tok _,by rw[yfz r];exact q⟩
 |_=>exact (show False from e).elim
theorem qap:OpR X (binaryOp .Add) (λx y H Q=>∃i j,x=.str i/\y=.str j/\i.length+j.length<=sizeLine/\Q (.str (i++j)) H):=by
 intro pins s σ H x y v u Q I rx ry h
 obtain ⟨i,j,rfl,rfl,hz,q⟩:=h
 obtain ⟨t,rfl⟩:=rx
 obtain ⟨t',rfl⟩:=ry
 exact add_str (λt' tk=>⟨.str (i++j),H,I.tok _,⟨_,rfl⟩,q⟩) hz
theorem yfj{x:V}{us:List Value}(r:Vals [x] us):∃u,us=[u]/\RelV x u:=by
 cases r with
 |cons r1 r2=>cases r2;exact ⟨_,rfl,r1⟩
theorem call_abs:qca X (.builtin "abs") (λxs H Q=>∃i,xs=[.int i]/\Q (.int (if i<0 then -i else i)) H):=by
 intro pins s σ H xs us Q I r h
 obtain ⟨i,rfl,q⟩:=h
 obtain ⟨u,rfl,t,rfl⟩:=yfj r
 exact call_abs_int λu tk=>⟨.int (if i<0 then -i else i),H,I.tok _,⟨_,rfl⟩,q⟩
theorem qgb:qca X (.type "int") (λxs H Q=>(∃i,xs=[.int i]/\Q (.int i) H)\/∃k,xs=[.bl k]/\Q (.int (if k then 1 else 0)) H):=by
 intro pins s σ H xs us Q I r h
 rcases h with ⟨i,rfl,q⟩|⟨k,rfl,q⟩
 ·obtain ⟨u,rfl,t,rfl⟩:=yfj r
  exact call_int_int ⟨.int i,H,I,⟨_,rfl⟩,q⟩
 ·obtain ⟨u,rfl,r1⟩:=yfj r
  cases r1
  exact call_int_bool ⟨.int (if k then 1 else 0),H,I.tok _,⟨_,rfl⟩,q⟩
theorem qcx:qca X (.type "str") (λxs H Q=>∃i,xs=[.int i]/\i.natAbs.log2<1920/\Q (.str (toString i)) H):=by
 intro pins s σ H xs us Q I r h
 obtain ⟨i,rfl,hz,q⟩:=h
 obtain ⟨u,rfl,t,rfl⟩:=yfj r
 exact PySem.P.str_of_int hz ⟨.str _,H,I.tok _,⟨_,rfl⟩,q⟩
end
structure ObjM(h:Heap)(x dx C:Addr)(mA:Str->Option Value):Prop where
 obj:h.get? x=some (W.instObj C dx)
 ns:h.Ns1 dx mA
 ne:dx≠x
theorem qgn{h:Heap}{dx:Addr}{mA:Str->Option Value}(n:h.Ns1 dx mA):∃od,h.get? dx=some od/\∀name,W.lookIn name od=some (mA name):=by
 obtain ⟨o,es,ep,ho,hd,hk,_,hm⟩:=n
 refine ⟨o,ho,λname=>?_⟩
 have e:=hm name
 unfold nsFind findBy at e
 rw[<-Array.find?_toList]at e
 unfold W.lookIn
 rw[hd]
 dsimp only
 split
 ·rename_i y q
  rw[q]at e
  exact congrArg some e
 ·rename_i q
  rw[q]at e
  have a:es.toList.any (·.refKey)=false:=by
   rw[List.any_eq_false]
   intro y hy
   obtain ⟨z,t,hkey⟩:=hk y (Array.mem_toList_iff.mp hy)
   simp[DictEntry.refKey,hkey]
  have a':¬ es.toList.any (·.refKey)=true:=by rw[a];exact Bool.false_ne_true
  rw[if_neg a']
  exact congrArg some e
theorem ObjM.look{h:Heap}{x dx C:Addr}{mA:Str->Option Value}(I:ObjM h x dx C mA):∃od,W.InstAt h x (W.instObj C dx) C (some od)/\∀name,W.lookIn name od=some (mA name):=
 let ⟨od,ho,hl⟩:=qgn I.ns
 ⟨od,⟨I.obj,rfl,rfl,ho⟩,hl⟩
section
variable {prog:Program}{w:World}{A:Around}{E:Value->Shared->Prop}{s:Shared}{K:W.Frag}{x dx C f:Addr}{mA:Str->Option Value}{name:Str}{v:Value}
theorem get_map{expr:Bool}{Q:Value->Shared->Prop}(X:K.In s.heap)(I:ObjM s.heap x dx C mA)(hg:W.plainGet K C name=true)(hh:W.hasDictIn K C=true)
  (ha:W.findIn K (.ref C) name=some none) (hv:mA name=some v) (hv':W.handedIn v=true) (h:Q v { s with toks:=s.toks+1 }) :
  wpAny (model prog w) A (getAttr (.ref x) name expr) Q E s:=by
 obtain ⟨od,J,hl⟩:=I.look
 exact W.get_value X J (W.plainGet_of hg).1 (W.findObj_own hh ha rfl (by rw[hl,hv])) hv' h
theorem get_meth{pl:Sem Bool}{Q:Value×List Value->Shared->Prop}(X:K.In s.heap)(I:ObjM s.heap x dx C mA)(hg:W.plainGet K C name=true)
  (hf:W.findIn K (.ref C) name=some (some (.ref f))) (ht:W.isFn K (.ref f)=true) (hv:mA name=none) (h:Q (.ref f,[.ref x]) s) :
  wpAny (model prog w) A (getMethod (.ref x) name pl) Q E s:=by
 obtain ⟨od,J,hl⟩:=I.look
 exact W.method_fn X J (W.plainGet_of hg).1 (W.plainGet_of hg).2 hf (beq_iff_eq.mp ht) (by show (W.lookIn name od).map (·.isSome)=some false;rw[hl,hv];rfl) h
theorem set_map{ns:List Str}{Q:Unit->Shared->Prop}(X:K.In s.heap)(I:ObjM s.heap x dx C mA)
  (hs:W.findIn K (.ref C) "__setattr__"=some (some (.builtin "object.__setattr__"))) (hp:W.plainOver K C=true) (ht:W.takerIn K C name=some none) (hh:W.hasDictIn K C=true)
  (hw:PySem.Within mA ns) (hsz:ns.length<=sizeLine)
  (h:∀h',ObjM h' x dx C (λy=>if y=name then some v else mA y)->Heap.SameBut dx s.heap h'->Q () { s with heap:=h',toks:=s.toks+2 }) :
  wpAny (model prog w) A (setAttr (.ref x) name v) Q E s:=by
 obtain ⟨od,J,hl⟩:=I.look
 refine W.set_plain X J hs (W.osa_open (s:={ s with toks:=s.toks+1 }) (r:=none) X J hp ht λb=>?_)
 obtain ⟨cd,hc,hd'⟩:=W.any_some hh
 have hx:s.heap.get? x=some ⟨.ref C,some dx,.plain,#[]⟩:=I.obj
 refine wpAny_bind (wpAny_pure (wpAny_bind (wpAny_bind (wpAny_loadPart hx (wpAny_bind (W.Looks.here (s:={ s with toks:=s.toks+1 }) (W.looks_clsIn X hc) ?_))))))
 rw[hd']
 refine wpAny_pure (a:=some dx) (wpAny_bind (wpAny_pure (wpAny_bind ?_)))
 refine wpAny_nsSet1 (s:={ s with toks:=s.toks+1 }) I.ns λh' hn2 hs2=>?_
 obtain ⟨oD,esD,epD,hoD,hdD,hcD⟩:=hn2.count (PySem.Within.cons name v hw)
 refine wpAny_bind (wpAny_lookBehind hoD (by rw[hdD];exact pastItsLine_dict (le_trans hcD (by rw[length_cons];omega))) ?_)
 exact wpAny_pure (h _ ⟨(hs2.2 _ (Ne.symm I.ne)).trans I.obj,hn2,I.ne⟩ hs2)
theorem make_map{R:Result->Shared->Prop}{vs:List Value}{kw:List (Str×Value)}(X:K.In s.heap)(hm:W.makesIn K C=true)
  (hi:W.findIn K (.ref C) "__init__"=some (some (.ref f))) (hf:W.typeIn K (.ref f)=some (.type "function"))
  (h:codeAny (model prog w) (A.under (.builtin "type.__call__" ⟨.ref C::vs,kw⟩)) (.call (.ref f) ⟨.ref (s.heap.objs.size+1)::vs,kw⟩) (W.InitBack (s.heap.objs.size+1) R)
   {s with heap:=(s.heap.push W.emptyDict).push (W.instObj C s.heap.objs.size) }) :
  codeAny (model prog w) A (.call (.ref C) ⟨vs,kw⟩) R s:=by
 obtain ⟨hh,g,d,t,os⟩:=s
 exact W.make_core (W.makes_of X hm) (W.looks_findIn X hi) (λself=>W.bind_fn X self hf) (.inl rfl) h
end
noncomputable def putF(f:Str)(v:V):List (Str×V)->List (Str×V)
 |[]=>[(f,v)]
 | (g,x)::r=>if g=f then (g,v)::r else (g,x)::putF f v r
theorem yb8(f g:Str)(v:V):∀fs:List (Str×V),(putF f v fs).lookup g=if g=f then some v else fs.lookup g
 |[]=>by
  show List.lookup g [(f,v)]=_
  by_cases h:g=f
  ·have hb:(g == f)=true:=beq_iff_eq.mpr h
   simp only[List.lookup,hb,if_pos h]
  ·have hb:(g == f)=false:=beq_eq_false_iff_ne.mpr h
   simp only[List.lookup,hb,if_neg h]
 | (k,x)::r=>by
  have ih:=yb8 f g v r
  rw[show putF f v ((k,x)::r)=(if k=f then (k,v)::r else (k,x)::putF f v r) from rfl]
  by_cases hk:k=f
  ·rw[if_pos hk]
   by_cases h:g=k
   ·have hb:(g == k)=true:=beq_iff_eq.mpr h
    simp only[List.lookup,hb,if_pos (h.trans hk)]
   ·have hb:(g == k)=false:=beq_eq_false_iff_ne.mpr h
    simp only[List.lookup,hb,if_neg (λe:g=f=>h (e.trans hk.symm))]
  ·rw[if_neg hk]
   by_cases h:g=k
   ·have hb:(g == k)=true:=beq_iff_eq.mpr h
    simp only[List.lookup,hb,if_neg (λe:g=f=>hk (h.symm.trans e))]
   ·have hb:(g == k)=false:=beq_eq_false_iff_ne.mpr h
    simp only[List.lookup,hb]
    exact ih
theorem qbn(f:Str)(v:V):∀fs:List (Str×V),f∈(putF f v fs).map (·.1)/\∀g,g∈fs.map (·.1)->g∈(putF f v fs).map (·.1)
 |[]=>⟨by simp[putF],λg h=>by simp at h⟩
 | (k,x)::r=>by
  obtain ⟨i1,i2⟩:=qbn f v r
  rw[show putF f v ((k,x)::r)=(if k=f then (k,v)::r else (k,x)::putF f v r) from rfl]
  by_cases hk:k=f
  ·rw[if_pos hk]
   subst hk
   exact ⟨by simp,λg h=>by simpa using h⟩
  ·rw[if_neg hk]
   refine ⟨?_,λg h=>?_⟩
   ·rw[map_cons]
    exact mem_cons_of_mem _ i1
   ·rw[map_cons]at h ⊢
    rcases mem_cons.mp h with e|e
    ·exact mem_cons.mpr (.inl e)
    ·exact mem_cons_of_mem _ (i2 g e)
theorem qcd(f:Str)(v:V):∀fs:List (Str×V),(putF f v fs).length<=fs.length+1
 |[]=>by simp[putF]
 | (k,x)::r=>by
  have ih:=qcd f v r
  rw[show putF f v ((k,x)::r)=(if k=f then (k,v)::r else (k,x)::putF f v r) from rfl]
  by_cases hk:k=f
  ·rw[if_pos hk,length_cons,length_cons];omega
  ·rw[if_neg hk,length_cons,length_cons];omega
theorem RelO.some_of{v:V}{o:Option Value}(r:RelO (some v) o):∃u,o=some u/\RelV v u:=by
 cases o with
 |none=>exact (show False from r).elim
 |some u=>exact ⟨u,rfl,r⟩
theorem RelO.none_of{o:Option Value}(r:RelO none o):o=none:=by
 cases o with
 |none=>rfl
 |some u=>exact (show False from r).elim
theorem yem{v:V}{u:Value}(r:RelV v u):W.handedIn u=true:=by
 cases v with
 |non=>cases (show u=Value.none from r);rfl
 |bl b=>cases (show u=Value.bool b from r);rfl
 |int i=>obtain ⟨t,e⟩:=(show ∃t,u=Value.int i t from r);cases e;rfl
 |str x=>obtain ⟨t,e⟩:=(show ∃t,u=Value.str x t from r);cases e;rfl
 |byt b=>obtain ⟨t,e⟩:=(show ∃t,u=Value.bytes b t from r);cases e;rfl
 |flt b=>obtain ⟨t,e⟩:=(show ∃t,u=Value.float b t from r);cases e;rfl
 |ref a=>cases (show u=Value.ref a from r);rfl
 |ty n=>cases (show u=Value.type n from r);rfl
section
variable {P:Program}{w:World}{H H':Hp}{h h':Heap}{a C dx:Addr}{fs fs':List (Str×V)}
theorem qd2(hok:HOk P w H h)(e:H a=some (.ins C dx fs)):∃mA,ObjM h a dx C mA/\(∀f,RelO (fs.lookup f) (mA f))/\PySem.Within mA (fs.map (·.1))/\fs.length<=1000/\H dx=some (.own a):=by
 obtain ⟨d,z,ne,ob,mA,n,r,q⟩:=(show qat P w H h a (.ins C dx fs) from hok a _ e)
 exact ⟨mA,⟨ob,n,ne⟩,r,q,z,d⟩
end
structure Cls(K:W.Frag)(C:Addr):Prop where
 pg:W.plainGet K C Str.empty=true
 hd:W.hasDictIn K C=true
 po:W.plainOver K C=true
 sa:W.findIn K (.ref C) "__setattr__"=some (some (.builtin "object.__setattr__"))
theorem Cls.get{K:W.Frag}{C:Addr}(c:Cls K C)(f:Str):W.plainGet K C f=true:=c.pg
noncomputable def ydf(K:W.Frag)(C:Addr)(f:Str):Prop:=W.findIn K (.ref C) f=some none
theorem ydf.taker{K:W.Frag}{C:Addr}{f:Str}(n:ydf K C f):W.takerIn K C f=some none:=by
 unfold W.takerIn
 rw[show W.findIn K (.ref C) f=some none from n]
 rfl
structure Meth(K:W.Frag)(C:Addr)(m:Str)(f:Addr):Prop where
 at_:W.findIn K (.ref C) m=some (some (.ref f))
 fn:W.isFn K (.ref f)=true
 kp:W.keepIn K (.ref f)=true
section
variable {X:Cx}{pins:List (Addr×Obj)}{σ:St}{H:Hp}{s:Shared}{a C dx:Addr}{fs:List (Str×V)}{f:Str}{v:V}{A:Around}{E:Value->Shared->Prop}
theorem yfy{b:Bool}{Q:Value->Shared->Prop}(I:Inv X pins σ H s)(e:H a=some (.ins C dx fs))(c:Cls X.K C)(n:ydf X.K C f)(l:fs.lookup f=some v)
  (h:∀u s',Inv X pins σ H s'->RelV v u->Q u s'):wpAny (model X.prog X.w) A (getAttr (.ref a) f b) Q E s:=by
 obtain ⟨mA,O,r,_,_,_⟩:=qd2 I.hok e
 obtain ⟨u,hu,ru⟩:=RelO.some_of (v:=v) (o:=mA f) (by rw[<-l];exact r f)
 exact get_map I.kIn O (c.get f) c.hd n hu (yem ru) (h u _ (I.tok _) ru)
theorem ydv{m:Str}{g:Addr}{pl:Sem Bool}{Q:Value×List Value->Shared->Prop}(I:Inv X pins σ H s)(e:H a=some (.ins C dx fs))(c:Cls X.K C)(k:Meth X.K C m g)(l:fs.lookup m=none)
  (h:Q (.ref g,[.ref a]) s):wpAny (model X.prog X.w) A (getMethod (.ref a) m pl) Q E s:=by
 obtain ⟨mA,O,r,_,_,_⟩:=qd2 I.hok e
 have hn:mA m=none:=RelO.none_of (by rw[<-l];exact r m)
 exact get_meth I.kIn O (c.get m) k.at_ k.fn hn h
theorem yf1{y:V}{u:Value}{Q:Unit->Shared->Prop}(I:Inv X pins σ H s)(e:H a=some (.ins C dx fs))(c:Cls X.K C)(n:ydf X.K C f)(hl:fs.length<1000)(ry:RelV y u)
  (h:∀s',Inv X pins σ (upd H a (.ins C dx (putF f y fs))) s'->Q () s'):wpAny (model X.prog X.w) A (setAttr (.ref a) f u) Q E s:=by
 obtain ⟨mA,O,r,wi,_,ho⟩:=qd2 I.hok e
 have hz:(fs.map (·.1)).length<=sizeLine:=by rw[length_map,sizeLine_eq];omega
 refine set_map I.kIn O c.sa c.po n.taker c.hd wi hz λh' O' sb=>h _ ?_
 have hd:∃o,h'.get? dx=some o:=let ⟨o,_,_,e',_⟩:=O'.ns;⟨o,e'⟩
 refine I.write (x:=a) (e:=dx) (by rw[e];exact True.intro) (.inr ho) (λb q hb z=>(sb.2 b hb).trans z) hd ?_
 refine ⟨by rw[qaf O.ne];exact ho,?_,O.ne,O'.obj,_,O'.ns,λg=>?_,λg hg=>?_⟩
 ·have:=qcd f y fs;omega
 ·show RelO ((putF f y fs).lookup g) (if g=f then some u else mA g)
  rw[yb8]
  by_cases q:g=f
  ·rw[if_pos q,if_pos q];exact ry
  ·rw[if_neg q,if_neg q];exact r g
 ·by_cases q:g=f
  ·rw[q];exact (qbn f y fs).1
  ·refine (qbn f y fs).2 g (wi g λz=>hg ?_)
   show (if g=f then some u else mA g)=none
   rw[if_neg q];exact z
theorem Inv.made(I:Inv X pins σ H s):Inv X pins σ (upd (upd H s.heap.objs.size (.own (s.heap.objs.size+1))) (s.heap.objs.size+1) (.ins C s.heap.objs.size []))
  {s with heap:=(s.heap.push W.emptyDict).push (W.instObj C s.heap.objs.size) }:=by
 have e1:(s.heap.push W.emptyDict).get? s.heap.objs.size=some W.emptyDict:=get?_push_size s.heap rfl
 have e2:((s.heap.push W.emptyDict).push (W.instObj C s.heap.objs.size)).get? (s.heap.objs.size+1)=some (W.instObj C s.heap.objs.size):=by
  have:=get?_push_size (s.heap.push W.emptyDict) (o:=W.instObj C s.heap.objs.size) rfl
  rwa [size_push]at this
 have e3:(s.heap.push W.emptyDict).Ns s.heap.objs.size (λ_=>none):=⟨W.emptyDict,#[],_,e1,rfl,(λe he=>absurd he (by simp)),λ_=>rfl⟩
 have I1:=I.laid (a:=s.heap.objs.size) (o:=.own (s.heap.objs.size+1)) (h':=s.heap.push W.emptyDict) (t':=s.toks) (λb u q=>get?_push_of_some _ q) (le_refl _) ⟨_,e1⟩
 refine I1.laid (a:=s.heap.objs.size+1) (o:=.ins C s.heap.objs.size []) (t':=s.toks) (λb u q=>get?_push_of_some _ q) (Nat.le_of_eq (size_push _ _)) ?_
 have ne:s.heap.objs.size≠s.heap.objs.size+1:=ne_of_lt (Nat.lt_succ_self _)
 refine ⟨by rw[qaf ne,yaa],zero_le _,ne,e2,λ_=>none,(Heap.Ns1.of_empty e3).at λo q=>get?_push_of_some _ q,λ_=>True.intro,λy hy=>absurd rfl hy⟩
theorem qgf{prog:Program}{w:World}{env:Env}{e:Expr}{f:Str}{pos:Pos}{s:Shared}{Q:Value->Shared->Prop}(hb:attributeBase e f env (eval e env)=eval e env)
  (h:wpAny (model prog w) A (eval e env) (λo s₁=>wpAny (model prog w) A (getAttr o f true) Q E s₁) E s):wpAny (model prog w) A (eval (.Attribute e f pos) env) Q E s:=
 Attribute_any_ h (by rw[arm_eval_Attribute,hb])
end
noncomputable def tFld(K:W.Frag)(ta:TE)(f:Str):TE:=λσ H Q=>ta σ H λx H1=>∃a C dx fs v,x=.ref a/\H1 a=some (.ins C dx fs)/\Cls K C/\ydf K C f/\fs.lookup f=some v/\Q v H1
noncomputable def sFld(K:W.Frag)(ta tv:TE)(f:Str):TS:=λD σ H=>tv σ H λy H1=>ta σ H1 λx H2=>∃a C dx fs,x=.ref a/\H2 a=some (.ins C dx fs)/\Cls K C/\ydf K C f/\fs.length<1000/\
 D.nx σ (upd H2 a (.ins C dx (putF f y fs)))
section
variable {X:Cx}{o e value:Expr}{f:Str}{pos pos' tpos:Pos}{ta tv:TE}
theorem pe_fld(he:PE X e ta)(hb:attributeBase e f X.env (eval e X.env)=eval e X.env):PE X (.Attribute e f pos) (tFld X.K ta f):=by
 intro pins s σ H Q I h
 refine qgf hb (thn (he pins s σ H _ I h) λu s1 ⟨x,H1,I1,rx,a,C,dx,fs,v,ex,ea,c,n,l,q⟩=>?_)
 subst ex
 obtain rfl:u=Value.ref a:=rx
 exact yfy I1 ea c n l λu' s2 I2 ru=>⟨v,H1,I2,ru,q⟩
theorem ps_fld(ha:PE X o ta)(hv:PE X value tv)(hs:swapsWith value (some (.Attribute o f pos')) pos.line X.env=pure false):PS X (.Assign [.Attribute o f pos'] value pos) (sFld X.K ta tv f):=by
 intro pins s σ H D I h
 refine plainObj_wpAny_Assign_Attribute (thn (hv pins s σ H _ I h) λu s1 ⟨y,H1,I1,ry,q⟩=>thn (ha pins s1 σ H1 _ I1 q) λov s2 ⟨x,H2,I2,rx,a,C,dx,fs,ex,ea,c,n,l,q2⟩=>?_) hs
 subst ex
 obtain rfl:ov=Value.ref a:=rx
 exact yf1 I2 ea c n l ry λs3 I3=>⟨σ,_,I3,q2⟩
end
section
variable {X:Cx}{pins:List (Addr×Obj)}{σ:St}{H:Hp}{s:Shared}{A:Around}{E:Value->Shared->Prop}{Q:Value->Shared->Prop}{c:Value}{b:Bool}
inductive TyOf(K:W.Frag)(H:Hp):V->Value->Prop where
 |non:TyOf K H .non (.type "NoneType")
 |bl (x:Bool):TyOf K H (.bl x) (.type "bool")
 |int (i:Int):TyOf K H (.int i) (.type "int")
 |str (x:Str):TyOf K H (.str x) (.type "str")
 |flt (x:UInt64):TyOf K H (.flt x) (.type "float")
 |lst {a:Addr}{xs:List V} (e:H a=some (.lst xs)):TyOf K H (.ref a) (.type "list")
 |frz {a:Addr}{o:Obj}{xs:List V} (e:H a=some (.frz o (.lst xs))):TyOf K H (.ref a) (.type "list")
 |tup {a:Addr}{xs:List V} (e:H a=some (.tup xs)):TyOf K H (.ref a) (.type "tuple")
 |dK {a:Addr}{kvs:List (Key×V)} (e:H a=some (.dK kvs)):TyOf K H (.ref a) (.type "dict")
 |dT {a:Addr}{kvs:List (List Key×V)} (e:H a=some (.dT kvs)):TyOf K H (.ref a) (.type "dict")
 |ins {a C dx:Addr}{fs:List (Str×V)} (e:H a=some (.ins C dx fs)) (cl:Cls K C) (ha:W.findIn K (.ref C) "__class__"=some (some (.builtin "object.__class__")))
   (hn:W.specialIn K (.builtin "object.__class__") "__get__"=some (some (.builtin "getset_descriptor.__get__"))) (htk:W.takesIn K (.builtin "object.__class__")=some true)
   (hm:W.mroIn K C (.type "object")=some true):TyOf K H (.ref a) (.ref C)
theorem yf8{x:V}{u t:Value}(I:Inv X pins σ H s)(rx:RelV x u)(ty:TyOf X.K H x t)(e:W.kitOne X.K t c=some b)(h:∀tk,Q (.bool b) { s with toks:=tk }) :
  wpAny (model X.prog X.w) A (call (.builtin "isinstance") [u,c]) Q E s:=by
 cases ty with
 |non=>cases (show u=Value.none from rx);exact W.kia_one W.kitx_none I.kIn True.intro e (λz=>nomatch z) h
 |bl y=>cases (show u=Value.bool y from rx);exact W.kia_one W.kitx_bool I.kIn True.intro e (λz=>nomatch z) h
 |int i=>obtain ⟨t,q⟩:=(show ∃t,u=Value.int i t from rx);cases q;exact W.kia_one W.kitx_int I.kIn True.intro e (λz=>nomatch z) h
 |str y=>obtain ⟨t,q⟩:=(show ∃t,u=Value.str y t from rx);cases q;exact W.kia_one W.kitx_str I.kIn True.intro e (λz=>nomatch z) h
 |flt y=>obtain ⟨t,q⟩:=(show ∃t,u=Value.float y t from rx);cases q;exact W.kia_one W.kitx_float I.kIn True.intro e (λz=>nomatch z) h
 |@lst a xs ea=>
  cases (show u=Value.ref a from rx)
  obtain ⟨_,_,n,_,h1⟩:=(show qat X.prog X.w H s.heap a (.lst xs) from I.hok a _ ea)
  exact W.kia_one W.kitx_list I.kIn ⟨_,h1,rfl⟩ e (λz=>nomatch z) h
 |@frz a ob xs ea=>
  cases (show u=Value.ref a from rx)
  obtain ⟨_,_,_,n,_,h1⟩:=(show qat X.prog X.w H s.heap a (.frz ob (.lst xs)) from I.hok a _ ea)
  exact W.kia_one W.kitx_list I.kIn ⟨_,h1,rfl⟩ e (λz=>nomatch z) h
 |@tup a xs ea=>
  cases (show u=Value.ref a from rx)
  obtain ⟨_,_,_,p⟩:=(show qat X.prog X.w H s.heap a (.tup xs) from I.hok a _ ea)
  obtain ⟨o,h1,h2,_⟩:=p
  exact W.kia_one W.kitx_tuple I.kIn ⟨o,h1,h2⟩ e (λz=>nomatch z) h
 |@dK a kvs ea=>
  cases (show u=Value.ref a from rx)
  obtain ⟨_,_,vs,_,p⟩:=(show qat X.prog X.w H s.heap a (.dK kvs) from I.hok a _ ea)
  obtain ⟨o,es,ep,h1,h2,_⟩:=p
  exact W.kia_one W.kitx_dict I.kIn ⟨o,h1,h2.1⟩ e (λz=>nomatch z) h
 |@dT a kvs ea=>
  cases (show u=Value.ref a from rx)
  obtain ⟨_,_,xs,_,o,es,ep,h1,h2,_⟩:=(show qat X.prog X.w H s.heap a (.dT kvs) from I.hok a _ ea)
  exact W.kia_one W.kitx_dict I.kIn ⟨o,h1,h2.1⟩ e (λz=>nomatch z) h
 |@ins a C dx fs ea cl ha hn htk hm=>
  cases (show u=Value.ref a from rx)
  obtain ⟨mA,O,_⟩:=qd2 I.hok ea
  obtain ⟨od,J,_⟩:=O.look
  exact W.kia_one (W.kitx_own (cl.get _) cl.hd ha hn htk hm) I.kIn J e (λz=>nomatch z) h
end
structure Room(k:Nat)(A:Around):Prop where
 hd:A.handled=none
 dp:A.depth+3*k+5<recursionLimit
 un:A.units+16*k+200<cLine
 gd:A.guards=some []
theorem Room.mono{j k:Nat}{A:Around}(r:Room k A)(h:j<=k):Room j A:=⟨r.hd,by have:=r.dp;omega,by have:=r.un;omega,r.gd⟩
theorem Room.deeper{k:Nat}{A:Around}(r:Room (k+1) A)(env:Env):Room k (A.deeper env):=
 ⟨r.hd,by have:=r.dp;show A.depth+1+3*k+5<_;omega,by have:=r.un;show A.units+3+16*k+200<_;omega,r.gd⟩
theorem yf5{A:Around}{C:Addr}{us:List Value}{kw:List (Str×Value)}:(A.under (.builtin "type.__call__" ⟨.ref C::us,kw⟩)).depth=A.depth+1:=by
 first|rfl|simp[Around.under,Code.weight,Code.isCreation,Code.isGuard,Code.isCaller,Code.frames,Code.isFrame,guardIds]
theorem qf5{A:Around}{C:Addr}{us:List Value}{kw:List (Str×Value)}:(A.under (.builtin "type.__call__" ⟨.ref C::us,kw⟩)).units=A.units+1:=by
 first|rfl|simp[Around.under,Code.cUnits,Code.frames,Code.isFrame]
theorem ye3{A:Around}{C:Addr}{us:List Value}{kw:List (Str×Value)}:(A.under (.builtin "type.__call__" ⟨.ref C::us,kw⟩)).guards=A.guards:=by
 first|rfl|(unfold Around.under Code.guards;cases A.guards<;>simp[pushGuards,Code.isGuard,guardIds])
theorem Room.make{k:Nat}{A:Around}(r:Room (k+1) A)(C:Addr)(us:List Value)(kw:List (Str×Value)):Room k (A.under (.builtin "type.__call__" ⟨.ref C::us,kw⟩)):=
 ⟨r.hd,by have:=r.dp;rw[yf5];omega,by have:=r.un;rw[qf5];omega,by rw[ye3];exact r.gd⟩
theorem Room.depth{k:Nat}{A:Around}(r:Room k A):A.depth<recursionLimit:=by have:=r.dp;omega
theorem Room.units{k:Nat}{A:Around}(r:Room k A):A.units+64<cLine:=by have:=r.un;omega
noncomputable def tNil:TA:=λ_ H Q=>Q [] H
noncomputable def qch(ta:TE)(tr:TA):TA:=λσ H Q=>ta σ H λx H1=>tr σ H1 λxs H2=>Q (x::xs) H2
section
variable {X:Cx}{e:Expr}{es:List Expr}{te:TE}{t:TA}{pos:Pos}
theorem qag:PA X [] tNil:=λ_ _ _ _ H Q I h=>Calls.spliced_nil ⟨[],H,I,.nil,h⟩
theorem yab(ha:PE X e te)(hr:PA X es t)(hs:starEach (e::es) X.env=(false,eval e X.env)::starEach es X.env:=by rfl):PA X (e::es) (qch te t):=by
 intro pos pins s σ H Q I h
 rw[hs]
 show wpAny _ _ (spliced ((false,eval e X.env)::backTo pos (starEach es X.env))) _ _ s
 refine Calls.spliced_cons (thn (ha pins s σ H _ I h) λu s1 ⟨x,H1,I1,r1,q1⟩=>?_)
 exact thn (hr pos pins s1 σ H1 _ I1 q1) λus s2 ⟨xs,H2,I2,r2,q2⟩=>⟨x::xs,H2,I2,.cons r1 r2,q2⟩
noncomputable def tTup(t:TA):TE:=λσ H Q=>t σ H λxs H1=>xs.length<=sizeLine/\∀p,H1 p=none->Q (.ref p) (upd H1 p (.tup xs))
noncomputable def tLst(t:TA):TE:=λσ H Q=>t σ H λxs H1=>xs.length<=sizeLine/\∀p,H1 p=none->Q (.ref p) (upd H1 p (.lst xs))
theorem qct{x1}(h:PA X es t):PE X (.Tuple es x1 pos) (tTup t):=by
 intro pins s σ H Q I hq
 refine wpAny_Tuple_spliced (thn (h pos pins s σ H _ I hq) λus s1 ⟨xs,H1,I1,r,z,q⟩=>⟨by rw[<-r.length];exact z,?_⟩)
 have hf:H1 s1.heap.objs.size=none:=I1.hok.fresh (le_refl _)
 refine ⟨.ref s1.heap.objs.size,upd H1 s1.heap.objs.size (.tup xs),I1.laid (t':=s1.toks) (λb u e=>get?_push_of_some _ e) (le_refl _) ?_,rfl,q _ hf⟩
 exact ⟨z,us,r,⟨_,get?_push_size _ rfl,rfl,_,rfl⟩⟩
theorem qdb(h:PA X es t):PE X (.List es pos) (tLst t):=by
 intro pins s σ H Q I hq
 refine wpAny_List_spliced (thn (h pos pins s σ H _ I hq) λus s1 ⟨xs,H1,I1,r,z,q⟩=>⟨by rw[<-r.length];exact z,?_⟩)
 have hf:H1 s1.heap.objs.size=none:=I1.hok.fresh (le_refl _)
 refine ⟨.ref s1.heap.objs.size,upd H1 s1.heap.objs.size (.lst xs),I1.laid (t':=s1.toks) (λb u e=>get?_push_of_some _ e) (le_refl _) ?_,rfl,q _ hf⟩
 exact ⟨z,us,0,r,get?_push_size _ rfl⟩
end
noncomputable abbrev Sp:=List V->Hp->VK->XK->Prop
noncomputable abbrev CXT:=List Env->Hp->Shared->XK->Value->Shared->Prop
structure Env0(P:Program)(w:World)(K:W.Frag)(mg:Str->Option Value)(base:Heap)(A:Around)(outer:List Env)(s:Shared)(H:Hp):Prop where
 frames:A.frames=some outer
 mod:Mod K mg base
 bs:∀b o,base.get? b=some o->s.heap.get? b=some o/\H b=none
 bsz:base.objs.size<=s.heap.objs.size
 funs:s.heap.FunFrames base outer
 frf:∀b∈frs outer,H b=none
 hok:HOk P w H s.heap
 bare:AllBare s.gens
noncomputable def CE(outer:List Env)(P:Program)(w:World)(H:Hp)(s:Shared)(Q:VK)(u:Value)(s':Shared):Prop:=
 ∃v H',s'.os=s.os/\AllBare s'.gens/\Un (frs outer) [] H H' s.heap s'.heap/\HOk P w H' s'.heap/\RelV v u/\Q v H'
noncomputable def CR(CX:CXT)(outer:List Env)(P:Program)(w:World)(H:Hp)(s:Shared)(Q:VK)(E:XK)(r:Result)(s':Shared):Prop:=
 match r with
 |.ok (.ret u)=>CE outer P w H s Q u s'
 |.ok _=>False
 |.error e=>CX outer H s E e s'
structure FnOk(P:Program)(w:World)(K:W.Frag)(mg:Str->Option Value)(base:Heap)(CX:CXT)(k:Nat)(f:Addr)(fd:FuncData)(ps:List Str)(sp:Sp):Prop where
 len:∀vs H Q E,sp vs H Q E->vs.length=ps.length
 run:∀(A:Around) (outer:List Env) (s:Shared) (H:Hp) (args:Args) (us:List Value) (vs:List V) (Q:VK) (E:XK),Room k A->Env0 P w K mg base A outer s H->BindsTo s fd args (ps.zip us)->Vals vs us->sp vs H Q E->
  codeAny (model P w) A (.call (.ref f) args) (CR CX outer P w H s Q E) s
theorem Env0.make{P:Program}{w:World}{K:W.Frag}{mg:Str->Option Value}{base:Heap}{A:Around}{outer:List Env}{s:Shared}{H:Hp}(e:Env0 P w K mg base A outer s H)(C:Addr)(us:List Value)(kw:List (Str×Value)) :
  Env0 P w K mg base (A.under (.builtin "type.__call__" ⟨.ref C::us,kw⟩)) outer s H:=⟨by first|exact e.frames|(simpa [Around.under,Code.envs,Code.isFrame,pushEnvs] using e.frames),e.mod,e.bs,e.bsz,e.funs,e.frf,e.hok,e.bare⟩
section
variable {X:Cx}{pins:List (Addr×Obj)}{σ:St}{H:Hp}{s s':Shared}
theorem Inv.env0(I:Inv X pins σ H s):Env0 X.prog X.w X.K X.mg X.base X.A X.stack s H:=
 ⟨I.ok.frames,I.ok.mod,I.bs,le_trans I.ok.bsz I.sz,I.stack,I.stkFree,I.hok,I.bare⟩
theorem Inv.after{Q:VK}{u:Value}(I:Inv X pins σ H s)(h:CE X.stack X.prog X.w H s Q u s'):EP X pins σ Q u s':=by
 obtain ⟨v,H',os,bare,un,hok,r,q⟩:=h
 obtain ⟨hh,g,d,t,os'⟩:=s'
 obtain rfl:os'=s.os:=os
 exact ⟨v,H',I.call (h':=hh) (g':=g) (d':=d) (t':=t) (ch:=[]) un hok bare (λb z=>absurd z (by simp)),r,q⟩
end
noncomputable def qg9(sp:Sp)(dvs:List V)(E:XK)(t:TA):TE:=λσ H Q=>t σ H λvs H1=>sp (vs++dvs) H1 Q E
noncomputable def tMeth(C:Addr)(m:Str)(sp:Sp)(dvs:List V)(E:XK)(ta:TE)(t:TA):TE:=λσ H Q=>ta σ H λx H1=>∃a dx fs,x=.ref a/\H1 a=some (.ins C dx fs)/\fs.lookup m=none/\
 t σ H1 λvs H2=>sp (x::(vs++dvs)) H2 Q E
noncomputable def tMake(C:Addr)(sp:Sp)(dvs:List V)(E:XK)(t:TA):TE:=λσ H Q=>t σ H λvs H1=>∀x dx,H1 x=none->H1 dx=none->dx≠x->
 sp (.ref x::(vs++dvs)) (upd (upd H1 dx (.own x)) x (.ins C dx [])) (λv H2=>v=.non/\Q (.ref x) H2) E
noncomputable def qbm(K:W.Frag)(fd:FuncData)(ps:List Str)(ds:List Value):Prop:=
 ∀(s:Shared) (us:List Value),K.In s.heap->(us++ds).length=ps.length->BindsTo s fd ⟨us,[]⟩ (ps.zip (us++ds))
theorem qbm.all{K:W.Frag}{fd:FuncData}{ps:List Str}(h:∀us:List Value,us.length=ps.length->bindArgs fd ⟨us,[]⟩=pure (ps.zip us)):qbm K fd ps []:=λs us _ hl=>by
 rw[append_nil]at hl ⊢
 exact .of_eq (h us hl)
noncomputable def yb0(CX:CXT)(X:Cx)(E:XK):Prop:=∀(pins:List (Addr×Obj)) (σ:St) (H:Hp) (s:Shared) (e:Value) (s':Shared),Inv X pins σ H s->CX X.stack H s E e s'->X.xe e s'
section
variable {X:Cx}{CX:CXT}{k:Nat}{f C:Addr}{fd:FuncData}{ps:List Str}{sp:Sp}{dvs:List V}{ds:List Value}{E:XK}{x m:Str}{p pos apos:Pos}{e o:Expr}{es:List Expr}{ta:TE}{t:TA}
theorem run_fn{pins:List (Addr×Obj)}{σ:St}{H:Hp}{s:Shared}{Q:VK}{us:List Value}{vs:List V}(F:FnOk X.prog X.w X.K X.mg X.base CX k f fd ps sp)(hr:Room k X.A)(hb:qbm X.K fd ps ds)(hd:Vals dvs ds)(hx:yb0 CX X E)
  (I:Inv X pins σ H s) (r:Vals vs us) (h:sp (vs++dvs) H Q E):wpAny (model X.prog X.w) X.A (call (.ref f) us) (EP X pins σ Q) X.xe s:=by
 have r2:Vals (vs++dvs) (us++ds):=r.append hd
 have hl:(us++ds).length=ps.length:=by rw[<-r2.length];exact F.len _ _ _ _ h
 refine wpAny_call (codeAny_mono (F.run X.A X.stack s H ⟨us,[]⟩ (us++ds) (vs++dvs) Q E hr I.env0 (hb s us I.kIn hl) r2 h) λr s' hq=>?_)
 cases r with
 |error e=>exact hx pins σ H s e s' I hq
 |ok fl=>
  cases fl with
  |ret u=>exact I.after hq
  |next=>exact False.elim hq
  |brk=>exact False.elim hq
  |cont=>exact False.elim hq
theorem ygs(F:FnOk X.prog X.w X.K X.mg X.base CX k f fd ps sp)(hr:Room k X.A)(hg:Gl X x)(hm:X.mg x=some (.ref f))(hk:W.keepIn X.K (.ref f)=true)(hb:qbm X.K fd ps ds)(hd:Vals dvs ds)(hx:yb0 CX X E)
  (ha:PA X (e::es) t) (hdb:(x == ("__debug__" : Str))=false:=by decide) (he:starEach (e::es) X.env=(false,eval e X.env)::starEach es X.env:=by rfl) (hpl:(backTo pos (starEach es X.env)).any (·.1)=false:=by rfl) :
  PE X (.Call (.Name x p) (e::es) [] pos) (qg9 sp dvs E t):=by
 intro pins s σ H Q I h
 refine wpAny_Call_Name_kw (qcq I hg hm ?_ hdb)
 refine W.callWith_K (h₀:=X.base) I.ok.mod.kin hk (thn (ha pos pins s σ H _ I h) λus s1 ⟨vs,H1,I1,r,q⟩=>⟨I1.kIn,?_⟩) he hpl
 exact run_fn F hr hb hd hx I1 r q
theorem pe_meth{pl:Sem Bool}(he:PE X o ta)(c:Cls X.K C)(hm:Meth X.K C m f)(F:FnOk X.prog X.w X.K X.mg X.base CX k f fd ps sp)(hr:Room k X.A)(hb:qbm X.K fd ps ds)(hd:Vals dvs ds)(hx:yb0 CX X E)(ha:PA X (e::es) t)
  (hst:starEach (e::es) X.env=(false,eval e X.env)::starEach es X.env:=by rfl) (hpl:(backTo pos (starEach es X.env)).any (·.1)=false:=by rfl)
  (ht:eval (.Call (.Attribute o m apos) (e::es) [] pos) X.env=(do
   let ov <-eval o X.env
   standAt apos.atName
   let (f,first) <-holding [ov] (getMethod ov m pl)
   callWith pos f first (backTo pos (starEach (e::es) X.env)) (backToKw pos (keywordEach [] X.env))):=by rfl) :
  PE X (.Call (.Attribute o m apos) (e::es) [] pos) (tMeth C m sp dvs E ta t):=by
 intro pins s σ H Q I h
 refine W.methodCall_KW (pl:=pl) (thn (he pins s σ H _ I h) λu s1 ⟨x,H1,I1,rx,a,dx,fs,ex,ea,l,q⟩=>?_) ht
 subst ex
 obtain rfl:u=Value.ref a:=rx
 refine ydv I1 ea c hm l ?_
 refine W.callWith_K (first:=[.ref a]) (h₀:=X.base) I.ok.mod.kin hm.kp (thn (ha pos pins s1 σ H1 _ I1 q) λus s2 ⟨vs,H2,I2,r,q2⟩=>⟨I2.kIn,?_⟩) hst hpl
 exact run_fn (us:=.ref a::us) (vs:=.ref a::vs) F hr hb hd hx I2 (.cons rfl r) q2
structure Mk(K:W.Frag)(C f:Addr):Prop where
 makes:W.makesIn K C=true
 init:W.findIn K (.ref C) "__init__"=some (some (.ref f))
 fn:W.isFn K (.ref f)=true
 kp:W.keepIn K (.ref C)=true
theorem run_make{pins:List (Addr×Obj)}{σ:St}{H:Hp}{s:Shared}{Q:VK}{us:List Value}{vs:List V}(M:Mk X.K C f)(F:FnOk X.prog X.w X.K X.mg X.base CX k f fd ps sp)(hr:Room (k+1) X.A)(hb:qbm X.K fd ps ds)(hd:Vals dvs ds)
  (hx:yb0 CX X E) (I:Inv X pins σ H s) (r:Vals vs us)
  (h:∀x dx,H x=none->H dx=none->dx≠x->sp (.ref x::(vs++dvs)) (upd (upd H dx (.own x)) x (.ins C dx [])) (λv H2=>v=.non/\Q (.ref x) H2) E) :
  wpAny (model X.prog X.w) X.A (call (.ref C) us) (EP X pins σ Q) X.xe s:=by
 have hq:=h (s.heap.objs.size+1) s.heap.objs.size (I.hok.fresh (Nat.le_succ _)) (I.hok.fresh (le_refl _)) (ne_of_lt (Nat.lt_succ_self _))
 have I2:=Inv.made (C:=C) I
 have r2:Vals (V.ref (s.heap.objs.size+1)::(vs++dvs)) (Value.ref (s.heap.objs.size+1)::(us++ds)):=.cons rfl (r.append hd)
 have hl:(Value.ref (s.heap.objs.size+1)::us++ds).length=ps.length:=by
  have e:=r2.length
  rw[F.len _ _ _ _ hq]at e
  exact e.symm
 refine wpAny_call (make_map (f:=f) I.kIn M.makes M.init (beq_iff_eq.mp M.fn) (codeAny_mono (F.run _ X.stack _ _ ⟨Value.ref (s.heap.objs.size+1)::us,[]⟩ (Value.ref (s.heap.objs.size+1)::(us++ds)) _ _ E (hr.make C us [])
  (I2.env0.make C us []) (hb _ (Value.ref (s.heap.objs.size+1)::us) I2.kIn hl) r2 hq) λr s' hq'=>?_))
 cases r with
 |error e=>exact hx pins σ _ _ e s' I2 hq'
 |ok fl=>
  cases fl with
  |ret u=>
   obtain ⟨v,H',I3,rv,ev,q3⟩:=I2.after hq'
   subst ev
   exact ⟨rv,⟨V.ref (s.heap.objs.size+1),H',I3,rfl,q3⟩⟩
  |next=>exact False.elim hq'
  |brk=>exact False.elim hq'
  |cont=>exact False.elim hq'
theorem pe_make0(M:Mk X.K C f)(F:FnOk X.prog X.w X.K X.mg X.base CX k f fd ps sp)(hr:Room (k+1) X.A)(hg:Gl X x)(hm:X.mg x=some (.ref C))(hb:qbm X.K fd ps ds)(hd:Vals dvs ds)(hx:yb0 CX X E)
  (hdb:(x == ("__debug__" : Str))=false:=by decide):PE X (.Call (.Name x p) [] [] pos) (tMake C sp dvs E tNil):=by
 intro pins s σ H Q I h
 refine wpAny_Call_Name_kw (qcq I hg hm ?_ hdb)
 exact W.callWith_K0 I.kIn M.kp (run_make (us:=[]) M F hr hb hd hx I .nil h)
end
structure FnScope(N P:List Str)(sc:Scope):Prop where
 kind:sc.kind=.function
 co:sc.isCoroutine=false
 gen:sc.isGenerator=false
 nd:N.Nodup
 pre:N.take P.length=P
 par:∀x∈P,sc.names.lookup x=some .local\/sc.names.lookup x=some .cell
 nofree:∀y∈sc.names,y.2≠.free
theorem fsc{N P:List Str}{sc:Scope}(a:sc.kind=.function:=by rfl)(b:sc.isCoroutine=false:=by rfl)(c:sc.isGenerator=false:=by rfl)(d:N.Nodup:=by decide +kernel)(e:N.take P.length=P:=by rfl)(f:∀x∈P,sc.names.lookup x=some .local\/sc.names.lookup x=some .cell:=by decide +kernel)(g:∀y∈sc.names,y.2≠.free:=by decide +kernel):FnScope N P sc:=⟨a,b,c,d,e,f,g⟩
theorem yeu{kindOf:Str->Option NameKind}{x:Str}:∀{binds:List (Str×Value)}{m:Str->Option Value},(∀v,(x,v)∉binds)->bindL kindOf binds m x=m x
 |[],_,_=>rfl
 | (n,v)::r,m,h=>by
  unfold bindL
  rw[yeu λw hw=>h w (mem_cons_of_mem _ hw)]
  split
  ·have:x≠n:=by rintro rfl;exact h v mem_cons_self
   simp[this]
  ·rfl
theorem yed{kindOf:Str->Option NameKind}{x:Str}:∀{binds:List (Str×Value)}{m:Str->Option Value},(∀v,(x,v)∉binds)->bindC kindOf binds m x=m x
 |[],_,_=>rfl
 | (n,v)::r,m,h=>by
  unfold bindC
  rw[yed λw hw=>h w (mem_cons_of_mem _ hw)]
  split
  ·rfl
  ·have:x≠n:=by rintro rfl;exact h v mem_cons_self
   simp[this]
theorem yek{kindOf:Str->Option NameKind}{x:Str}{v:Value}:∀{P:List Str}{vs:List Value}{i:Nat}{m:Str->Option Value},P.Nodup->P[i]?=some x->vs[i]?=some v->kindOf x=some .local->
  bindL kindOf (P.zip vs) m x=some v
 |[],_,_,_,_,h,_,_=>by simp at h
 |_::_,[],_,_,_,_,h,_=>by simp at h
 |p::P,w::vs,0,m,nd,h1,h2,hk=>by
  simp at h1 h2;subst h1;subst h2
  show bindL kindOf ((p,w)::P.zip vs) m p=_
  unfold bindL
  rw[yeu λv hv=>(nodup_cons.mp nd).1 (List.of_mem_zip hv).1,if_pos hk]
  simp
 |p::P,w::vs,i+1,m,nd,h1,h2,hk=>by
  show bindL kindOf ((p,w)::P.zip vs) m x=_
  unfold bindL
  exact yek (i:=i) (nodup_cons.mp nd).2 (by simpa using h1) (by simpa using h2) hk
theorem qef{kindOf:Str->Option NameKind}{x:Str}{v:Value}:∀{P:List Str}{vs:List Value}{i:Nat}{m:Str->Option Value},P.Nodup->P[i]?=some x->vs[i]?=some v->kindOf x≠some .local->
  bindC kindOf (P.zip vs) m x=some v
 |[],_,_,_,_,h,_,_=>by simp at h
 |_::_,[],_,_,_,_,h,_=>by simp at h
 |p::P,w::vs,0,m,nd,h1,h2,hk=>by
  simp at h1 h2;subst h1;subst h2
  show bindC kindOf ((p,w)::P.zip vs) m p=_
  unfold bindC
  rw[yed λv hv=>(nodup_cons.mp nd).1 (List.of_mem_zip hv).1,if_neg hk]
  simp
 |p::P,w::vs,i+1,m,nd,h1,h2,hk=>by
  show bindC kindOf ((p,w)::P.zip vs) m x=_
  unfold bindC
  exact qef (i:=i) (nodup_cons.mp nd).2 (by simpa using h1) (by simpa using h2) hk
noncomputable def yb6(N:List Str)(vs:List V):St:=vs.map some++List.replicate (N.length-vs.length) none
noncomputable def cxOf(CX:CXT)(P:Program)(w:World)(K:W.Frag)(mg:Str->Option Value)(base:Heap)(N:List Str)(qual:Str)(scope:Scope)(f:Addr)(cd:Value)(A:Around)(outer:List Env)(s:Shared)(H:Hp)(E:XK):Cx where
 prog:=P
 w:=w
 K:=K
 mg:=mg
 base:=base
 A:=A.deeper (envOfC qual scope s.heap.objs.size f cd)
 N:=N
 s₀:=s
 H₀:=H
 env:=envOfC qual scope s.heap.objs.size f cd
 outer:=outer
 stack:=envOfC qual scope s.heap.objs.size f cd::outer
 ex:=[]
 calm:=true
 fn:=λ_=>true
 pn:=[]
 xe:=λe s'=>wpAny (model P w) (A.deeper (envOfC qual scope s.heap.objs.size f cd)) (leaving (envOfC qual scope s.heap.objs.size f cd) e) (λ_ s''=>CX outer H s E e s'') (λe' s''=>CX outer H s E e' s'') s'
theorem qfn{sc:Scope}{n:Nat}{x:Str}(h:sc.names.lookup x=some .cell):∃c,(cellsFrom n sc.names []).lookup x=some c:=by
 have q:=W.cellsFrom_some sc.names n [] (.inl h)
 exact Option.isSome_iff_exists.mp q
theorem qgy{CX:CXT}{P:Program}{w:World}{K:W.Frag}{mg:Str->Option Value}{base:Heap}{N ps:List Str}{qual:Str}{scope:Scope}{f:Addr}{cd:Value}{A:Around}{outer:List Env}{s s1:Shared}{H:Hp}{E:XK}{us:List Value}{vs:List V}
  (S:FnScope N ps scope) (hd:A.handled=none) (e0:Env0 P w K mg base A outer s H) (hl:vs.length=ps.length) (r:Vals vs us)
  (x:InCallC s s.heap.objs.size (bindL (envOfC qual scope s.heap.objs.size f cd).kindOf (ps.zip us) λ_=>none) (cellsFrom (s.heap.objs.size+1) scope.names []) (bindC (envOfC qual scope s.heap.objs.size f cd).kindOf (ps.zip us) λ_=>none) s1) :
  Inv (cxOf CX P w K mg base N qual scope f cd A outer s H E) [] (yb6 N vs) H s1:=by
 have hpl:ps.length<=N.length:=by have:=congrArg List.length S.pre;rw[length_take]at this;omega
 obtain ⟨h1,tk,rfl,hk⟩:=x.done
 have noA:∀b:Addr,b∉(cxOf CX P w K mg base N qual scope f cd A outer s H E).ex:=λb z=>absurd (show b∈([]:List Addr) from z) (by simp)
 refine ⟨⟨e0.mod,S.kind,rfl,rfl,le_refl _,λy z c h1 h2=>?_,λy hy=>?_,λy c _ h=>?_,λ_=>hd,Around.frames_deeper e0.frames,.inr ⟨rfl,rfl⟩,λb z=>absurd z (noA b),e0.bs,e0.bsz,λb _ _=>noA b,λb z=>absurd z (noA b),e0.funs,e0.frf⟩,
  rfl,e0.bare,Un.kept hk,⟨_,x.toInCall.ns,λi y v h1 h2 h3=>?_⟩,λy c h=>⟨_,x.cell y c h⟩,e0.hok.fresh (le_refl _),λy c h=>?_,λp hp=>absurd (show p∈([]:List (Addr×Obj)) from hp) (by simp),e0.hok.kept hk,?_⟩
 ·exact name_of_addr x.apart (PySem.mem_of_lookup h1) (PySem.mem_of_lookup h2)
 ·have hy:scope.names.lookup y=some .cell\/scope.names.lookup y=some .free:=hy
  rcases hy with hy|hy
  ·exact qfn hy
  ·exact absurd rfl (S.nofree _ (PySem.mem_of_lookup hy))
 ·exact le_of_lt (x.above y c (PySem.mem_of_lookup h))
 ·have hi:i<vs.length:=by
   unfold yb6 at h2
   by_cases hi:i<vs.length
   ·exact hi
   ·rw[List.getElem?_append_right (by simpa using hi)]at h2
    rw[List.getElem?_replicate]at h2
    split at h2<;>cases h2
  have ha:vs[i]?=some v:=by
   unfold yb6 at h2
   rw[List.getElem?_append_left (by simpa using hi),getElem?_map]at h2
   cases e:vs[i]? with
   |none=>rw[e]at h2;cases h2
   |some a=>rw[e]at h2;cases h2;rfl
  obtain ⟨u,hu,rv⟩:=r.get ha
  have hp:ps[i]?=some y:=by
   rw[<-S.pre,List.getElem?_take_of_lt (by omega)];exact h1
  have ndP:ps.Nodup:=by rw[<-S.pre];exact S.nd.sublist (List.take_sublist _ _)
  refine ⟨u,rv,?_⟩
  rcases S.par y (mem_of_getElem? hp) with k|k
  ·exact .inl ⟨k,yek ndP hp hu k⟩
  ·obtain ⟨c,e⟩:=qfn (n:=s.heap.objs.size+1) k
   refine .inr ⟨.inl k,c,e,?_⟩
   have q:=x.cell y c e
   rw[qef ndP hp hu (by show scope.names.lookup y≠_;rw[k];decide)]at q
   exact q
 ·exact e0.hok.fresh (le_of_lt (x.above y c (PySem.mem_of_lookup h)))
 ·unfold yb6
  show _=N.length
  rw[length_append,length_map,List.length_replicate]
  omega
theorem fn_of{CX:CXT}{P:Program}{w:World}{K:W.Frag}{mg:Str->Option Value}{base:Heap}{k:Nat}{f:Addr}{name qual:Str}{params:Arguments}{body:List Stmt}{scope:Scope}{dV kV doc pm cdv ct oc:Value}{an od:Option Addr}
  {osl:Array (Option Value)}{N ps:List Str}{sp:Sp} (lk:K.lookup f=some ⟨oc,od,.func (W.fnOf name qual params body scope dV kV doc pm an cdv ct),osl⟩) (hcd:W.codeIn K cdv qual=true) (S:FnScope N ps scope)
  (len:∀vs H Q E,sp vs H Q E->vs.length=ps.length)
  (hbody:∀(A:Around) (outer:List Env) (s:Shared) (H:Hp) (vs:List V) (Q:VK) (E:XK),Room k (A.deeper (envOfC qual scope s.heap.objs.size f cdv))->sp vs H Q E->
   ∃t,PSs (cxOf CX P w K mg base N qual scope f cdv A outer s H E) body t/\t { nx:=λ_ H'=>Q .non H',rt:=Q } (yb6 N vs) H) :
  FnOk P w K mg base CX (k+1) f (W.fnOf name qual params body scope dV kV doc pm an cdv ct) ps sp:=by
 refine ⟨len,λA outer s H args us vs Q E hr e0 hb r hsp=>?_⟩
 have hl:=len _ _ _ _ hsp
 have KX:K.In s.heap:=e0.mod.kin.keeps λb o e=>(e0.bs b o e).1
 have lim:s.heap.NoLimit:=e0.mod.nolimit.keeps λb o e=>(e0.bs b o e).1
 have hkind:∀y∈ps.zip us,scope.names.lookup y.1=some .local\/(scope.names.lookup y.1=some .cell/\((cellsFrom (s.heap.objs.size+1) scope.names []).lookup y.1).isSome=true):=λ⟨n,v⟩ hy=>by
  rcases S.par n (List.of_mem_zip hy).1 with q|q
  ·exact .inl q
  ·exact .inr ⟨q,W.cellsFrom_some _ _ _ (.inl q)⟩
 refine codeAny_call_function hr.depth (KX _ _ lk) rfl S.co S.gen rfl (W.codeRec_of KX hcd) (hb _ _ _ _ ?_)
 refine wpAny_newFunctionEnv_cells S.kind hkind λenv he s1 x=>?_
 subst he
 refine ⟨lim.keeps x.toInCall.keep,codeAny_func ?_⟩
 obtain ⟨t,ht,hq⟩:=hbody A outer s H vs Q E (hr.deeper _) hsp
 have I:Inv (cxOf CX P w K mg base N qual scope f cdv A outer s H E) [] (yb6 N vs) H s1:=qgy S hr.hd e0 hl r x
 refine wpAny_mono (ht [] s1 (yb6 N vs) H _ I hq) (λfl s' hs=>?_) λe s' hs=>hs
 have fin:∀{σ':St}{H':Hp}{v:V}{u:Value},Inv (cxOf CX P w K mg base N qual scope f cdv A outer s H E) [] σ' H' s'->RelV v u->Q v H'->CE outer P w H s Q u s':=
  λ{σ' H' v u} J rv q=>⟨v,H',J.os,J.bare,J.base,J.hok,rv,q⟩
 cases fl with
 |ret u=>
  obtain ⟨v,σ',H',J,rv,q⟩:=hs
  exact fin J rv q
 |next=>
  obtain ⟨σ',H',J,q⟩:=hs
  exact fin (v:=V.non) (u:=Value.none) J rfl q
 |brk=>
  obtain ⟨_,_,_,q⟩:=hs
  exact False.elim q
 |cont=>
  obtain ⟨_,_,_,q⟩:=hs
  exact False.elim q
section
variable {X:Cx}{x:Str}{p pos:Pos}{e:Expr}{es:List Expr}{t:TA}{id T:String}{r:List V->Hp->VK->Prop}
noncomputable def tCB(r:List V->Hp->VK->Prop)(t:TA):TE:=λσ H Q=>t σ H λvs H1=>r vs H1 Q
theorem qas(hc:qca X (.builtin id) r)(hg:Gl X x)(hm:X.mg x=none)(hv:bootBuiltins x=some (.builtin id))(ha:PA X (e::es) t)(hn:x≠"__name__":=by decide)(hdb:(x == ("__debug__" : Str))=false:=by decide)
  (he:starEach (e::es) X.env=(false,eval e X.env)::starEach es X.env:=by rfl) (hpl:(backTo pos (starEach es X.env)).any (·.1)=false:=by rfl):PE X (.Call (.Name x p) (e::es) [] pos) (tCB r t):=by
 intro pins s σ H Q I h
 refine wpAny_Call_Name_kw (qeq I hg hm hv ?_ hn hdb)
 exact PyProof.Rows.callWith_builtin1 (thn (ha pos pins s σ H _ I h) λus s1 ⟨vs,H1,I1,r1,q1⟩=>hc pins s1 σ H1 vs us Q I1 r1 q1) he hpl
theorem yda(hc:qca X (.type T) r)(hg:Gl X x)(hm:X.mg x=none)(hv:bootBuiltins x=some (.type T))(ha:PA X (e::es) t)(hn:x≠"__name__":=by decide)(hdb:(x == ("__debug__" : Str))=false:=by decide)
  (he:starEach (e::es) X.env=(false,eval e X.env)::starEach es X.env:=by rfl) (hpl:(backTo pos (starEach es X.env)).any (·.1)=false:=by rfl):PE X (.Call (.Name x p) (e::es) [] pos) (tCB r t):=by
 intro pins s σ H Q I h
 refine wpAny_Call_Name_kw (qeq I hg hm hv ?_ hn hdb)
 exact PyProof.Rows.callWith_type1 (thn (ha pos pins s σ H _ I h) λus s1 ⟨vs,H1,I1,r1,q1⟩=>hc pins s1 σ H1 vs us Q I1 r1 q1) he hpl
end
end L2
namespace HT
open PySem PyProof.Rows
section
variable {prog:Program}{w:World}{A:Around}{E:Value->Shared->Prop}{s:Shared}
noncomputable def sIx(n d:Nat):Option Int->Nat
 |none=>d
 |some v=>if v<0 then (v+(n:Int)).toNat else min v.toNat n
theorem sIx_none(n d:Nat):sIx n d none=d:=rfl
theorem sIx_nat(n d k:Nat):sIx n d (some (k:Int))=min k n:=by
 show (if (k:Int)<0 then ((k:Int)+(n:Int)).toNat else min (k:Int).toNat n)=min k n
 rw[if_neg (by omega),Int.toNat_natCast]
end
end HT
namespace L2
open PySem PySem.Spec PyProof.Rows
noncomputable abbrev TO:=St->Hp->(Option Int->Hp->Prop)->Prop
noncomputable def PO(X:Cx)(e:Option Expr)(t:TO):Prop:=
 ∀(pins:List (Addr×Obj)) (s:Shared) (σ:St) (H:Hp) (Q:Option Int->Hp->Prop),Inv X pins σ H s->t σ H Q->
  wpAny (model X.prog X.w) X.A (evalPart e X.env) (λu s'=>∃o H',Inv X pins σ H' s'/\IsPart u o/\Q o H') X.xe s
noncomputable def tNoPart:TO:=λ_ H Q=>Q none H
noncomputable def tPart(t:TE):TO:=λσ H Q=>t σ H λx H1=>∃i,x=.int i/\Q (some i) H1
section
variable {X:Cx}{e:Expr}{te:TE}{lo hi:Option Expr}{tl th:TO}{pos p2:Pos}
theorem yco:PO X none tNoPart:=by
 intro pins s σ H Q I h
 rw[evalPart_none]
 exact wpAny_pure ⟨none,H,I,.none,h⟩
theorem qbc(h:PE X e te):PO X (some e) (tPart te):=by
 intro pins s σ H Q I hw
 rw[evalPart_some]
 refine thn (h pins s σ H _ I hw) λu s1 ⟨x,H1,I1,r1,q1⟩=>?_
 obtain ⟨i,rfl,q⟩:=q1
 obtain ⟨t,rfl⟩:=r1
 exact ⟨some i,H1,I1,.int i t,q⟩
noncomputable def SlR(X:Cx)(r:V->Option Int->Option Int->Hp->VK->Prop):Prop:=
 ∀(pins:List (Addr×Obj)) (s:Shared) (σ:St) (H:Hp) (x:V) (v vl vu:Value) (lo hi:Option Int) (sl:Addr) (Q:VK),Inv X pins σ H s->RelV x v->s.heap.IsSliceOf sl vl vu .none->IsPart vl lo->IsPart vu hi->r x lo hi H Q->
  ∃T id,typeLookup (.type T) "__getitem__"=pure (some (.builtin id))/\s.TypeIs v T/\wpAny (model X.prog X.w) X.A (getItem v (.ref sl)) (EP X pins σ Q) X.xe s
noncomputable def tSl(r:V->Option Int->Option Int->Hp->VK->Prop)(te:TE)(tl th:TO):TE:=λσ H Q=>te σ H λx H1=>tl σ H1 λl H2=>th σ H2 λu H3=>r x l u H3 Q
theorem ybi{r:V->Option Int->Option Int->Hp->VK->Prop}(hr:SlR X r)(he:PE X e te)(hl:PO X lo tl)(hu:PO X hi th):PE X (.Subscript e (.Slice lo hi none p2) pos) (tSl r te tl th):=by
 intro pins s σ H Q I h
 refine Subscript_ (thn (he pins s σ H _ I h) λv s1 ⟨x,H1,I1,r1,q1⟩=>?_)
 refine wpAny_Slice (thn (hl pins s1 σ H1 _ I1 q1) λvl s2 ⟨l,H2,I2,pl,q2⟩=>thn (hu pins s2 σ H2 _ I2 q2) λvu s3 ⟨u,H3,I3,pu,q3⟩=>?_)
 rw[evalPart_none]
 refine wpAny_pure ?_
 have I4:Inv X pins σ H3 { s3 with heap:=s3.heap.push { cls:=.type "slice",data:=.fields #[vl,vu,.none] } }:=I3.kept (t':=s3.toks) λb ob q=>get?_push_of_some _ q
 obtain ⟨T,id,hT,ht,hg⟩:=hr pins { s3 with heap:=s3.heap.push { cls:=.type "slice",data:=.fields #[vl,vu,.none] } } σ H3 x v vl vu l u s3.heap.objs.size Q I4 r1 (Heap.IsSliceOf.new ..) pl pu q3
 show wpAny (model X.prog X.w) X.A (subscriptTail e (.Slice lo hi none p2) v (.ref s3.heap.objs.size)) (EP X pins σ Q) X.xe { s3 with heap:=s3.heap.push { cls:=.type "slice",data:=.fields #[vl,vu,.none] } }
 exact tail_any (ops:=[.ref s3.heap.objs.size,v]) ht hT hg (by with_unfolding_all rfl)
noncomputable def cutV(xs:List V)(lo hi:Option Int):List V:=(xs.drop (HT.sIx xs.length 0 lo)).take (HT.sIx xs.length xs.length hi-HT.sIx xs.length 0 lo)
theorem qe9(xs:List V)(lo hi:Option Int):(cutV xs lo hi).length<=xs.length:=by
 unfold cutV
 rw[length_take,length_drop]
 omega
end
noncomputable def ixN(n:Nat)(i:Int):Option Nat:=if 0<=i then (if i<n then some i.toNat else none) else if -(n:Int)<=i then some (i+n).toNat else none
noncomputable def atI{α:Type}(xs:List α)(i:Int):Option α:=(ixN xs.length i).bind λj=>xs[j]?
theorem ixN_seq{n:Nat}{i:Int}{j:Nat}(h:ixN n i=some j):seqIndex? i n=some j/\j<n/\-(n:Int)<=i/\i<n:=by
 unfold ixN at h
 by_cases h0:0<=i
 ·rw[if_pos h0]at h
  by_cases h1:i<n
  ·rw[if_pos h1]at h
   have e:i.toNat=j:=Option.some.inj h
   exact ⟨by rw[seqIndex_of h0 h1,e],by omega,by omega,h1⟩
  ·rw[if_neg h1]at h;cases h
 ·rw[if_neg h0]at h
  by_cases h1:-(n:Int)<=i
  ·rw[if_pos h1]at h
   have e:(i+n).toNat=j:=Option.some.inj h
   exact ⟨by rw[seqIndex_neg (by omega) h1,e],by omega,h1,by omega⟩
  ·rw[if_neg h1]at h;cases h
theorem yfb{α:Type}{xs:List α}{i:Int}{v:α}(h:atI xs i=some v):∃j,seqIndex? i xs.length=some j/\xs[j]?=some v/\j<xs.length/\-(xs.length:Int)<=i/\i<xs.length:=by
 unfold atI at h
 cases e:ixN xs.length i with
 |none=>rw[e]at h;cases h
 |some j=>
  rw[e]at h
  obtain ⟨h1,h2,h3,h4⟩:=ixN_seq e
  exact ⟨j,h1,h,h2,h3,h4⟩
theorem qe2{α:Type}{xs:List α}{j:Nat}{v:α}(h:xs[j]?=some v):atI xs (j:Int)=some v:=by
 have hj:j<xs.length:=(List.getElem?_eq_some_iff.mp h).1
 have e:ixN xs.length (j:Int)=some j:=by
  unfold ixN
  rw[if_pos (by omega),if_pos (by omega)];simp
 unfold atI;rw[e];exact h
noncomputable def qgk(b:Expr):Prop:=∀o i,subscripted b false o i=operate [o,i] (getItem o i)
noncomputable def IxR(X:Cx)(r:R2):Prop:=
 ∀(value slice:Expr) (pins:List (Addr×Obj)) (s:Shared) (σ:St) (H:Hp) (x y:V) (v u:Value) (Q:VK),Inv X pins σ H s->RelV x v->RelV y u->r x y H Q->
  subscripted slice false v u=operate [v,u] (getItem v u)->wpAny (model X.prog X.w) X.A (subscriptTail value slice v u) (EP X pins σ Q) X.xe s
noncomputable def MtR(X:Cx)(id:String)(r:V->List V->Hp->VK->Prop):Prop:=
 ∀(pins:List (Addr×Obj)) (s:Shared) (σ:St) (H:Hp) (x:V) (xs:List V) (v:Value) (us:List Value) (Q:VK),Inv X pins σ H s->RelV x v->Vals xs us->r x xs H Q->
  wpAny (model X.prog X.w) X.A (call (.builtin id) (v::us)) (EP X pins σ Q) X.xe s
section
variable {X:Cx}{a b:Expr}{ta tb:TE}{pos:Pos}
theorem ycd{r:R2}(hr:IxR X r)(ha:PE X a ta)(hb:PE X b tb)(hs:qgk b:=by intro _ _;rfl):PE X (.Subscript a b pos) (tOp r ta tb):=by
 intro pins s σ H Q I h
 exact Subscript_ (binT ha hb I h λv u s2 x y H2 I2 rx ry q=>hr a b pins s2 σ H2 x y v u Q I2 rx ry q (hs _ _))
noncomputable def rIxL(K:W.Frag):R2:=λx y H Q=>∃p xs i v,x=.ref p/\y=.int i/\SqL K H p xs/\atI xs i=some v/\Q v H
noncomputable def rIxT(K:W.Frag):R2:=λx y H Q=>∃p xs i v,x=.ref p/\y=.int i/\SqT K H p xs/\atI xs i=some v/\Q v H
noncomputable def rIxS:R2:=λx y H Q=>∃z i c,x=.str z/\y=.int i/\z.length<=sizeLine/\atI z.cps.toList i=some c/\Q (.str ⟨#[c]⟩) H
theorem qaj:IxR X (rIxL X.K):=by
 intro value slice pins s σ H x y v u Q I rx ry h hs
 obtain ⟨p,xs,i,z,rfl,rfl,hq,he,q⟩:=h
 cases rx
 obtain ⟨t,rfl⟩:=ry
 obtain ⟨its,r,pl,hz⟩:=I.list hq
 obtain ⟨j,h1,h2,h3,h4,h5⟩:=yfb he
 obtain ⟨w,ew,rw'⟩:=r.get h2
 have hl:=r.length
 have hn:=ydu
 have fin:EP X pins σ Q w s:=⟨z,H,I,rw',q⟩
 by_cases h0:0<=i
 ·have hj:i.toNat=j:=by
   rw[seqIndex_of h0 h5]at h1
   exact Option.some.inj h1
  exact item_listR pl.isList h0 (by omega) (by rw[hj];simpa using ew) fin hs
 ·have hj:(i+(its.toArray.size:Int)).toNat=j:=by
   rw[seqIndex_neg (by omega) h4]at h1
   rw[size_toArray,<-hl]
   exact Option.some.inj h1
  exact subscriptTail_builtinR (x:=w) pl.isList.typeIs slot_list_getitem.lookup
   (wpAny_getItem_list_neg (Q:=λr s'=>r=w/\EP X pins σ Q r s') pl.isList (by omega) (by rw[size_toArray]<;>omega) (by omega) (by rw[hj];simpa using ew) ⟨rfl,fin⟩) hs
theorem ycl:IxR X (rIxT X.K):=by
 intro value slice pins s σ H x y v u Q I rx ry h hs
 obtain ⟨p,xs,i,z,rfl,rfl,hq,he,q⟩:=h
 cases rx
 obtain ⟨t,rfl⟩:=ry
 obtain ⟨its,r,pl,hz⟩:=I.tuple hq
 obtain ⟨j,h1,h2,h3,h4,h5⟩:=yfb he
 obtain ⟨w,ew,rw'⟩:=r.get h2
 have hl:=r.length
 have hn:=ydu
 have fin:EP X pins σ Q w s:=⟨z,H,I,rw',q⟩
 exact subscriptTail_builtinR (x:=w) pl.typeIs slot_tuple_getitem.lookup
  (getItem_tuple (j:=j) (Q:=λr s'=>r=w/\EP X pins σ Q r s') pl (by omega) (by omega) (by rw[size_toArray,<-hl];exact h1) (by simpa using ew) ⟨rfl,fin⟩) hs
theorem ix_str:IxR X rIxS:=by
 intro value slice pins s σ H x y v u Q I rx ry h hs
 obtain ⟨z,i,c,rfl,rfl,hz,he,q⟩:=h
 obtain ⟨t,rfl⟩:=rx
 obtain ⟨t',rfl⟩:=ry
 obtain ⟨j,h1,h2,h3,h4,h5⟩:=yfb he
 have hl:z.cps.toList.length=z.length:=by simp[Str.length]
 rw[hl]at h1 h4 h5
 have hn:=ydu
 exact tail_any (typeIs_str s z t) slot_str_getitem.lookup (getItem_str (c:=c) (by
  have e1:decide (i < -(2 ^ 63:Int))=false:=decide_eq_false (by omega)
  have e2:decide (i≥2 ^ 63)=false:=decide_eq_false (by omega)
  rw[e1,e2,Bool.or_false]) (by rw[h1];simpa using h2) ⟨.str ⟨#[c]⟩,H,I.tok _,⟨_,rfl⟩,q⟩) hs
theorem qei(lo hi:Option Int)(n:Nat):(sliceBounds lo hi none n).1=((HT.sIx n 0 lo:Nat):Int)/\(sliceBounds lo hi none n).2.1=((HT.sIx n n hi:Nat):Int)/\(sliceBounds lo hi none n).2.2=1:=by
 refine ⟨?_,?_,rfl⟩
 ·cases lo with
  |none=>simp[sliceBounds,HT.sIx]
  |some i=>
   simp only[sliceBounds,HT.sIx,Option.getD_none,show (1:Int)>0 by decide,if_true]
   by_cases h:i<0
   ·simp only[h,if_true]<;>omega
   ·simp only[h,if_false]<;>omega
 ·cases hi with
  |none=>simp[sliceBounds,HT.sIx]
  |some i=>
   simp only[sliceBounds,HT.sIx,Option.getD_none,show (1:Int)>0 by decide,if_true]
   by_cases h:i<0
   ·simp only[h,if_true]<;>omega
   ·simp only[h,if_false]<;>omega
theorem qd7(its:List Value)(lo hi:Option Int):slicePick its.toArray lo hi none=((its.drop (HT.sIx its.length 0 lo)).take (HT.sIx its.length its.length hi-HT.sIx its.length 0 lo)).toArray:=by
 obtain ⟨h1,h2,h3⟩:=qei lo hi its.toArray.size
 unfold slicePick
 rw[h1,h2,h3]
 simp only[sliceRange_one,pick_run,size_toArray]<;>rfl
noncomputable def rSlL(K:W.Frag):V->Option Int->Option Int->Hp->VK->Prop:=λx lo hi H Q=>∃a xs,x=.ref a/\SqL K H a xs/\∀p,H p=none->Q (.ref p) (upd H p (.lst (cutV xs lo hi)))
theorem ybm:SlR X (rSlL X.K):=by
 intro pins s σ H x v vl vu lo hi sl Q I rx hs pl pu h
 obtain ⟨a,xs,rfl,hx,q⟩:=h
 cases rx
 obtain ⟨its,r,ht,hz⟩:=I.list hx
 have hlen:=r.length
 refine ⟨"list",_,slot_list_getitem.lookup,ht.isList.typeIs,?_⟩
 refine wpAny_getItem_list_slice ht.isList hs pl pu .none (by simp) ?_ (by rw[size_toArray]<;>omega)
 rw[qd7,<-hlen]
 refine ⟨.ref s.heap.objs.size,_,I.laid (t':=s.toks) (o:=.lst (cutV xs lo hi)) (λb ob q=>get?_push_of_some _ q) (le_refl _) ?_,rfl,q _ (I.hok.fresh (le_refl _))⟩
 exact ⟨le_trans (qe9 xs lo hi) hz,_,0,(r.drop (HT.sIx xs.length 0 lo)).take (HT.sIx xs.length xs.length hi-HT.sIx xs.length 0 lo),get?_push_size _ rfl⟩
noncomputable def qd4:V->Bool
 |.non=>true
 |.bl _=>true
 |.int _=>true
 |.str _=>true
 |_=>false
noncomputable def eqV:V->V->Bool
 |.non,.non=>true
 |.bl a,.bl b=>a == b
 |.bl a,.int b=>(if a then 1 else 0) == b
 |.int a,.bl b=>a == (if b then 1 else 0)
 |.int a,.int b=>a == b
 |.str a,.str b=>a == b
 |_,_=>false
theorem eqAt_V{A:Around}{s:Shared}{y x:V}{u v:Value}(ry:RelV y u)(rx:RelV x v)(fy:qd4 y=true)(fx:qd4 x=true):SeqAt.EqAt A s u v (eqV y x):=by
 cases y with
 |non=>
  cases ry
  cases x with
  |non=>cases rx;exact SeqAt.EqAt.same _
  |bl b=>cases rx;exact SeqAt.EqAt.none_bool b
  |int b=>obtain ⟨t,rfl⟩:=rx;exact SeqAt.EqAt.none_int b t
  |str b=>obtain ⟨t,rfl⟩:=rx;exact SeqAt.EqAt.none_str b t
  |_=>exact absurd (show false=true from fx) Bool.false_ne_true
 |bl a=>
  cases ry
  cases x with
  |non=>cases rx;exact SeqAt.EqAt.bool_none a
  |bl b=>cases rx;exact SeqAt.EqAt.bool_bool a b
  |int b=>obtain ⟨t,rfl⟩:=rx;exact SeqAt.EqAt.bool_int a b t
  |str b=>obtain ⟨t,rfl⟩:=rx;exact SeqAt.EqAt.bool_str a b t
  |_=>exact absurd (show false=true from fx) Bool.false_ne_true
 |int a=>
  obtain ⟨t',rfl⟩:=ry
  cases x with
  |non=>cases rx;exact SeqAt.EqAt.int_none a t'
  |bl b=>cases rx;exact SeqAt.EqAt.int_bool a t' b
  |int b=>obtain ⟨t,rfl⟩:=rx;exact SeqAt.EqAt.int_int a t' b t
  |str b=>obtain ⟨t,rfl⟩:=rx;exact SeqAt.EqAt.int_str a t' b t
  |_=>exact absurd (show false=true from fx) Bool.false_ne_true
 |str a=>
  obtain ⟨t',rfl⟩:=ry
  cases x with
  |non=>cases rx;exact SeqAt.EqAt.str_none a t'
  |bl b=>cases rx;exact SeqAt.EqAt.str_bool a t' b
  |int b=>obtain ⟨t,rfl⟩:=rx;exact SeqAt.EqAt.str_int a t' b t
  |str b=>obtain ⟨t,rfl⟩:=rx;exact SeqAt.EqAt.str_str a t' b t
  |_=>exact absurd (show false=true from fx) Bool.false_ne_true
 |_=>exact absurd (show false=true from fy) Bool.false_ne_true
noncomputable def eqU(x:V)(u:Value):Bool:=match u with
 |.none=>eqV .non x
 |.bool b=>eqV (.bl b) x
 |.int i _=>eqV (.int i) x
 |.str z _=>eqV (.str z) x
 |_=>false
theorem eqU_of{x y:V}{u:Value}(r:RelV y u)(f:qd4 y=true):eqU x u=eqV y x:=by
 cases y with
 |non=>cases r;rfl
 |bl b=>cases r;rfl
 |int i=>obtain ⟨t,rfl⟩:=r;rfl
 |str z=>obtain ⟨t,rfl⟩:=r;rfl
 |_=>exact absurd (show false=true from f) Bool.false_ne_true
theorem yfg{x:V}:∀{xs:List V}{us:List Value},Vals xs us->xs.all qd4=true->us.any (eqU x)=xs.any λy=>eqV y x
 |_,_,.nil,_=>rfl
 |y::xs,u::us,.cons r t,f=>by
  rw[List.all_cons,Bool.and_eq_true]at f
  rw[any_cons,any_cons,eqU_of r f.1,yfg t f.2]
theorem qd1{A:Around}{s:Shared}{x:V}{v:Value}(rx:RelV x v)(fx:qd4 x=true):∀{xs:List V}{us:List Value},Vals xs us->xs.all qd4=true->∀u∈us,SeqAt.EqAt A s u v (eqU x u)
 |_,_,.nil,_=>λu hu=>by cases hu
 |y::xs,u::us,.cons r t,f=>λu' hu=>by
  rw[List.all_cons,Bool.and_eq_true]at f
  rcases mem_cons.mp hu with rfl|hu
  ·rw[eqU_of r f.1];exact eqAt_V r rx f.1 fx
  ·exact qd1 rx fx t f.2 u' hu
noncomputable def inV(x:V)(xs:List V):Bool:=xs.any λy=>eqV y x
noncomputable def rIn(K:W.Frag)(neg:Bool):R2:=λx y H Q=>∃p xs,y=.ref p/\(SqL K H p xs\/SqT K H p xs)/\qd4 x=true/\xs.all qd4=true/\Q (.bl (if neg then !inV x xs else inV x xs)) H
theorem yck:OpR X (compareOp .In) (rIn X.K false):=by
 intro pins s σ H x y v u Q I rx ry h
 obtain ⟨p,xs,rfl,hq,fx,fs,q⟩:=h
 cases ry
 rcases hq with hq|hq
 ·obtain ⟨its,r,pl,hz⟩:=I.list hq
  refine SeqAt.in_listAt (eqU x) pl.isList (λw hw=>qd1 rx fx r fs w (by simpa using hw)) ⟨.bl _,H,I,rfl,?_⟩
  rw[show its.toArray.any (eqU x)=its.any (eqU x) by simp,yfg r fs]
  exact q
 ·obtain ⟨its,r,pl,hz⟩:=I.tuple hq
  refine SeqAt.in_tupleAt (eqU x) pl (λw hw=>qd1 rx fx r fs w (by simpa using hw)) ⟨.bl _,H,I,rfl,?_⟩
  rw[show its.toArray.any (eqU x)=its.any (eqU x) by simp,yfg r fs]
  exact q
theorem qav:qca X (.builtin "len") (λxs H Q=>∃p ys,xs=[.ref p]/\(SqL X.K H p ys\/SqT X.K H p ys)/\Q (.int ys.length) H):=by
 intro pins s σ H xs us Q I r h
 obtain ⟨p,ys,rfl,hq,q⟩:=h
 obtain ⟨u,rfl,rx⟩:=yfj r
 cases rx
 have hn:=ydu
 rcases hq with hq|hq
 ·obtain ⟨its,r',pl,hz⟩:=I.list hq
  have hlen:=r'.length
  exact Calls.call_len_list pl.isList (by simp only[size_toArray]<;>omega) ⟨.int ys.length,H,I.tok _,⟨s.toks+1,by rw[size_toArray,hlen]⟩,q⟩
 ·obtain ⟨its,r',pl,hz⟩:=I.tuple hq
  have hlen:=r'.length
  exact len_tuple pl (by simp only[size_toArray]<;>omega) ⟨.int ys.length,H,I.tok _,⟨s.toks+1,by rw[size_toArray,hlen]⟩,q⟩
theorem qcu:qca X (.builtin "len") (λxs H Q=>∃z,xs=[.str z]/\z.length<=sizeLine/\Q (.int z.length) H):=by
 intro pins s σ H xs us Q I r h
 obtain ⟨z,rfl,hz,q⟩:=h
 obtain ⟨u,rfl,t,rfl⟩:=yfj r
 have hn:=ydu
 exact len_str (by omega) ⟨.int z.length,H,I.tok _,⟨_,rfl⟩,q⟩
noncomputable def tyV(K:W.Frag)(T:String)(x:V)(H:Hp):Prop:=match x with
 |.str _=>T="str"
 |.int _=>T="int"
 |.ref p=>(T="list"/\∃xs,SqL K H p xs)\/(T="tuple"/\∃o,K.lookup p=some o/\o.cls=.type "tuple"/\o.dict=none)\/
   (T="dict"/\((∃kvs,H p=some (.dK kvs))\/∃kvs,H p=some (.dT kvs)))\/(T="set"/\∃S n,H p=some (.set S n))
 |_=>False
theorem tyV_is{pins:List (Addr×Obj)}{σ:St}{H:Hp}{s:Shared}{T:String}{x:V}{v:Value}(I:Inv X pins σ H s)(r:RelV x v)(ty:tyV X.K T x H) :
  s.TypeIs v T/\∀a,v=.ref a->∃ob,s.heap.get? a=some ob/\ob.dict=none:=by
 cases x with
 |str z=>
  obtain ⟨t,rfl⟩:=r
  cases (show T="str" from ty)
  exact ⟨typeIs_str s z t,λ_ e=>nomatch e⟩
 |int i=>
  obtain ⟨t,rfl⟩:=r
  cases (show T="int" from ty)
  exact ⟨typeIs_int s i t,λ_ e=>nomatch e⟩
 |ref p=>
  cases r
  rcases ty with ⟨rfl,xs,hq⟩|⟨rfl,o,hk,hc,hd⟩|⟨rfl,hk⟩|⟨rfl,S,n,hk⟩
  ·obtain ⟨its,_,pl,_⟩:=I.list hq
   refine ⟨pl.isList.typeIs,λa e=>?_⟩
   cases e
   obtain ⟨o,n,e,c,hd,_⟩:=pl
   exact ⟨o,e,hd⟩
  ·refine ⟨⟨o,I.kIn p o hk,hc⟩,λa e=>?_⟩
   cases e
   exact ⟨o,I.kIn _ o hk,hd⟩
  ·have z:∃o,s.heap.get? p=some o/\o.ExactDict:=by
    rcases hk with ⟨kvs,hk⟩|⟨kvs,hk⟩
    ·obtain ⟨_,_,_,_,o,_,_,e,ex,_⟩:=I.hok p _ hk
     exact ⟨o,e,ex⟩
    ·obtain ⟨_,_,_,_,o,_,_,e,ex,_⟩:=I.hok p _ hk
     exact ⟨o,e,ex⟩
   obtain ⟨o,e,ex⟩:=z
   refine ⟨⟨o,e,ex.1⟩,λa e2=>?_⟩
   cases e2
   exact ⟨o,e,ex.2.1⟩
  ·obtain ⟨o,_,_,_,e,ex,_⟩:=I.hok p _ hk
   refine ⟨⟨o,e,ex.1⟩,λa e2=>?_⟩
   cases e2
   exact ⟨o,e,ex.2.1⟩
 |_=>exact False.elim ty
noncomputable def tBM(K:W.Frag)(T:String)(r:V->List V->Hp->VK->Prop)(to:TE)(t:TA):TE:=λσ H Q=>to σ H λx H1=>tyV K T x H1/\t σ H1 λxs H2=>r x xs H2 Q
variable {o e:Expr}{es:List Expr}{to:TE}{t:TA}{name:Str}{apos cpos:Pos}{T id:String}{r:V->List V->Hp->VK->Prop}
theorem ybj(pa:PlainAttrs T)(slot:Slot T name id)(hty:typeOf (.builtin id)=pure (.type "method_descriptor"))(hm:MtR X id r)(ho:PE X o to)(ha:PA X (e::es) t)
  (hbase:attributeBase o name X.env (eval o X.env)=eval o X.env:=by rfl)
  (hfew:((backTo cpos (starEach (e::es) X.env)).all (λx=>!x.1)&&(backToKw cpos (keywordEach [] X.env)).all (λx=>x.1.isSome)
   && decide ((e::es).length+([]:List Keyword).length+(if ([]:List Keyword).isEmpty then 0 else 1)<30))=true:=by rfl)
  (hline:(apos.endLine == cpos.line)=true:=by rfl) (hs:starEach (e::es) X.env=(false,eval e X.env)::starEach es X.env:=by rfl) (hplain:(backTo cpos (starEach es X.env)).any (·.1)=false:=by rfl) :
  PE X (.Call (.Attribute o name apos) (e::es) [] cpos) (tBM X.K T r to t):=by
 intro pins s σ H Q I h
 refine wpAny_Call_method_late hbase hfew hline rfl (thn (ho pins s σ H _ I h) λv s1 ⟨x,H1,I1,r1,ty,q1⟩=>?_)
 obtain ⟨h1,h2⟩:=tyV_is I1 r1 ty
 refine ⟨T,id,pa,slot,hty,h1,h2,?_⟩
 have hA:=ha cpos pins s1 σ H1 _ I1 q1
 rw[hs]at hA ⊢
 refine Calls.callWith_builtin (by show (false||(backTo cpos (starEach es X.env)).any (·.1))=false;rw[hplain]<;>rfl) (Calls.evalArgs_plain ?_)
 exact thn hA λus s2 ⟨vs,H2,I2,r2,q2⟩=>hm pins s2 σ H2 x vs v us Q I2 r1 r2 q2
end
noncomputable def MtM(X:Cx)(id:String)(r:V->List V->Hp->VK->Prop):Prop:=
 ∀(pins:List (Addr×Obj)) (s:Shared) (σ:St) (H:Hp) (x:V) (xs:List V) (v:Value) (us:List Value) (Q:VK),Inv X pins σ H s->RelV x v->Vals xs us->r x xs H Q->
  wpAny (model X.prog X.w) X.A (call (.builtin id) (v::us)) (EP X pins σ Q) X.xe s
theorem Vals.one:∀{x:V}{us:List Value},Vals [x] us->∃u,us=[u]/\RelV x u
 |_,_,.cons r .nil=>⟨_,rfl,r⟩
theorem Vals.rep{xs:List V}{us:List Value}(h:Vals xs us):∀k:Nat,Vals (List.replicate k xs).flatten (List.replicate k us).flatten
 |0=>.nil
 |k+1=>by
  rw[replicate_succ,replicate_succ,List.flatten_cons,List.flatten_cons]
  exact Vals.append h (Vals.rep h k)
theorem yeo(its:List Value):∀(k:Nat) (acc:List Value),
  List.foldl (λx1 x2=>x1++x2) acc.toArray (List.replicate k its.toArray)=(acc++(List.replicate k its).flatten).toArray
 |0,acc=>by simp
 |k+1,acc=>by
  have e:acc.toArray++its.toArray=(acc++its).toArray:=by simp
  have e2:(acc++its)++(List.replicate k its).flatten=acc++(List.replicate (k+1) its).flatten:=by
   rw[replicate_succ,List.flatten_cons,List.append_assoc]
  rw[<-e2,<-yeo its k (acc++its),<-e,replicate_succ,List.foldl_cons]
section
variable {X:Cx}{pins:List (Addr×Obj)}{σ:St}{H:Hp}{s:Shared}{l b:Addr}{xs ys zs:List V}
theorem Inv.lset{its its':List Value}{n:Nat}{f:Array Value->Array Value}{t':Nat}(I:Inv X pins σ H s)(hH:H l=some (.lst xs))
  (e:s.heap.get? l=some { cls:=.type "list",data:=.seq its.toArray n }) (hf:f its.toArray=its'.toArray) (hv:Vals ys its') (hz:ys.length<=sizeLine) :
  Inv X pins σ (upd H l (.lst ys)) { s with heap:=s.heap.update l (Obj.mapSeq f),toks:=t' }:=by
 have q:=PySem.IsL.update e f
 rw[hf]at q
 refine I.write (x:=l) (e:=l) (by rw[hH];exact trivial) (.inl rfl) (λb' u hb hu=>(get?_update_other s.heap (Obj.mapSeq f) (Ne.symm hb)).trans hu) ⟨_,q⟩ ?_
 exact ⟨hz,its',_,hv,q⟩
theorem Inv.lnew{its:List Value}{t':Nat}(I:Inv X pins σ H s)(hv:Vals ys its)(hz:ys.length<=sizeLine) :
  Inv X pins σ (upd H s.heap.objs.size (.lst ys)) { s with heap:=s.heap.push { cls:=.type "list",data:=.seq its.toArray },toks:=t' }:=
 I.laid (λ_ _ q=>get?_push_of_some _ q) (le_refl _) ⟨hz,its,0,hv,get?_push_size _ rfl⟩
theorem Inv.fresh(I:Inv X pins σ H s):H s.heap.objs.size=none:=I.hok.fresh (le_refl _)
theorem Inv.lstM(I:Inv X pins σ H s)(hH:H l=some (.lst xs)):xs.length<=sizeLine/\∃(its:List Value) (n:Nat),Vals xs its/\xs.length=its.length/\s.heap.get? l=some { cls:=.type "list",data:=.seq its.toArray n }:=by
 obtain ⟨z,its,n,r,e⟩:=I.hok l _ hH
 exact ⟨z,its,n,r,r.length,e⟩
theorem notLongL{n:Nat}(h:n<=sizeLine):Builtin.List.listTooLong n=false:=by
 unfold Builtin.List.listTooLong
 exact decide_eq_false (by omega)
end
section
variable {X:Cx}
noncomputable def rAppend:V->List V->Hp->VK->Prop:=λx vs H Q=>∃l xs y,x=.ref l/\vs=[y]/\H l=some (.lst xs)/\xs.length<sizeLine/\Q .non (upd H l (.lst (xs++[y])))
theorem qa1:MtM X "list.append" rAppend:=by
 intro pins s σ H x vs v us Q I rx rv h
 obtain ⟨l,xs,y,rfl,rfl,hH,hz,q⟩:=h
 cases rx
 obtain ⟨u,rfl,ru⟩:=rv.one
 obtain ⟨z,its,n,r,hl,e⟩:=I.lstM hH
 refine call_meets F.slot_list_append ⟨_,e,rfl⟩ F.entry_list_append (F.args_list_append_2 _ _) (PySem.list_append l its.toArray n u (by rw[size_toArray];omega)) ⟨e,?_⟩
 refine ⟨.non,_,I.lset (its':=its++[u]) hH e (by simp) (r.append (.cons ru .nil)) ?_,rfl,q⟩
 rw[length_append,List.length_singleton]
 omega
noncomputable def rCat:R2:=λx y H Q=>∃l b xs zs,x=.ref l/\y=.ref b/\H l=some (.lst xs)/\H b=some (.lst zs)/\xs.length+zs.length<=sizeLine/\∀p,H p=none->Q (.ref p) (upd H p (.lst (xs++zs)))
theorem ycx:OpR X (binaryOp .Add) rCat:=by
 intro pins s σ H x y v u Q I rx ry h
 obtain ⟨l,b,xs,zs,rfl,rfl,hH,hB,hz,q⟩:=h
 cases rx
 cases ry
 obtain ⟨z,its,n,r,hl,e⟩:=I.lstM hH
 obtain ⟨z2,its2,n2,r2,hl2,e2⟩:=I.lstM hB
 refine PySem.P.add_list e e2 ?_ (by rw[size_toArray,size_toArray];omega)
 have ea:its.toArray++its2.toArray=(its++its2).toArray:=by simp
 rw[ea]
 exact ⟨.ref _,_,I.lnew (t':=s.toks) (r.append r2) (by rw[length_append];omega),rfl,q _ I.fresh⟩
noncomputable def rRep:R2:=λx y H Q=>∃l k xs,x=.ref l/\y=.int k/\H l=some (.lst xs)/\-(2 ^ 63)<=k/\k<2 ^ 63/\xs.length*k.toNat<=sizeLine/\
 ∀p,H p=none->Q (.ref p) (upd H p (.lst (List.replicate k.toNat xs).flatten))
theorem len_rep{α:Type}(xs:List α)(k:Nat):(List.replicate k xs).flatten.length=k*xs.length:=by
 induction k with
 |zero=>simp
 |succ k ih=>rw[replicate_succ,List.flatten_cons,length_append,ih,Nat.succ_mul,Nat.add_comm]
theorem yfw:OpR X (binaryOp .Mult) rRep:=by
 intro pins s σ H x y v u Q I rx ry h
 obtain ⟨l,k,xs,rfl,rfl,hH,h1,h2,hz,q⟩:=h
 cases rx
 obtain ⟨t,rfl⟩:=ry
 obtain ⟨z,its,n,r,hl,e⟩:=I.lstM hH
 have hlen:its.toArray.size*k.toNat<=sizeLine:=by rw[size_toArray,<-hl];exact hz
 have hcap:¬ its.toArray.size*k.toNat>(2 ^ 63-1) / 8:=by
  have:(sizeLine:Nat)<=(2 ^ 63-1) / 8:=by decide
  omega
 have hfit:¬ (!Builtin.List.listFitsIndex k)=true:=by
  rw[fitsIndex_both h1 h2]
  exact Bool.false_ne_true
 have hlong:¬ Builtin.List.listTooLong (its.toArray.size*k.toNat)=true:=by
  rw[notLongL hlen]
  exact Bool.false_ne_true
 have hnew:List.foldl (λx1 x2=>x1++x2) #[] (List.replicate (if its.toArray.isEmpty=true then 0 else k.toNat) its.toArray)=(List.replicate k.toNat its).flatten.toArray:=by
  have f0:∀m:Nat,List.foldl (λx1 x2=>x1++x2) #[] (List.replicate m its.toArray)=(List.replicate m its).flatten.toArray:=λm=>by
   have:=yeo its m []
   rw[List.nil_append]at this
   exact this
  rw[f0]
  cases its with
  |nil=>simp
  |cons a r'=>rw[if_neg (by simp)]
 refine wpAny_binaryOp_repeat_ref (T:="list") (U:="int") (by decide) ⟨_,e,rfl⟩ (λs'=>typeIs_int s' k t) noFill_list_mul F.fills_int_mul F.slot_int_rmul repeat_list F.slot_int_index.lookup
  (call_meets F.slot_int_rmul (typeIs_int s k t) F.entry_int_rmul (F.args_int_rmul_2 _ _) (int___rmul___int_list k t l its.toArray n)
   ⟨e,rfl,⟨_,e,rfl⟩,call_meets F.slot_list_mul ⟨_,e,rfl⟩ F.entry_list_mul (F.args_list_mul_2 _ _) (AutoListH.list___mul___list_int_3 l its.toArray n k t hfit hcap hlong) ⟨e,?_⟩⟩)
 rw[hnew]
 exact ⟨.ref _,_,I.lnew (t':=s.toks) (r.rep k.toNat) (by rw[len_rep,Nat.mul_comm];exact hz),rfl,q _ I.fresh⟩
end
end L2
namespace Att
open PySem PySem.W PySem.Calls PyProof.Rows
theorem qdg{P:Params}{h:Heap}:∀(ns:List Int) (vs:List Value),WellAll P h vs (ns.map WData.int)->IntsAre vs ns:=by
 intro ns
 induction ns with
 |nil=>
  intro vs w
  rw[List.map_nil]at w
  cases w
  exact .nil
 |cons n ns ih=>
  intro vs w
  rw[map_cons]at w
  cases w with
  |cons a b=>
   cases a
   exact .cons _ _ (ih _ b)
theorem qga{l:OpenLaw}{n:Nat}(hn:l.most=some n){P:Params}{h:Heap}{args:List WData}{vals:List Value}
  (hpre:l.row.toRowW.claim.pre args=true) (hwl:WellAll P h vals args) :
  ∃a vs ns,vals=[Value.ref a]/\args=[WData.list (ns.map WData.int)]/\h.get? a=some { cls:=.type "list",data:=.seq vs.toArray }/\IntsAre vs ns/\ns.length<=n:=by
 have hsh:WShape.hasAll [] args [.list .int]=true:=(pre_splitW hpre).1
 have hc:l.pre.holds [] { args:=args }=true:=(pre_splitW hpre).2
 obtain ⟨d,r,rfl,h1,h2⟩:=hasAllW_cons hsh
 obtain rfl:=hasAllW_nil h2
 obtain ⟨xs,rfl,h3⟩:=hasW_list h1
 obtain ⟨ns,rfl⟩:=items_int h3
 have hlen:ns.length<=n:=by
  unfold OpenLaw.pre at hc
  have h4:(WTm.not (.lt (.lit (.int (n:Int))) (.len (.arg 0)))).holds [] { args:=[.list (ns.map .int)] }=true:=by
   have h4:=(holds_andW hc).1
   rw[hn]at h4
   exact h4
  have h5:=condW_of h4 (w_not (w_lt w_lit (w_len_list (w_arg rfl))))
  rw[length_map]at h5
  refine Nat.le_of_not_lt λq=>?_
  have q':(n:Int)<((ns.length:Nat):Int):=by omega
  first
   | (rw[decide_eq_true q']at h5;exact absurd h5 (by decide))
   | (simp at h5;omega)
 cases hwl with
 |cons w1 w2=>
  cases w2
  cases w1 with
  |list ho hall=>exact ⟨_,_,ns,rfl,rfl,ho,qdg ns _ hall,hlen⟩
theorem ygp(l:OpenLaw)(args:List WData):l.row.toRowW.claim.post args (.bool true) args=true:=
 postW_of (r:=l.row.toRowW) (X:=(true == true))
  (show WShape.has [] (.bool true) .bool=true by first|rfl|decide|simp[WShape.has,WShape.arms,WShape.armsAll])
  (show (WTm.eq .res (.lit (.bool true))).value [] { args:=args,res:=some (.bool true),after:=args }=some (.bool (true == true)) from w_eq_bool (w_res rfl) w_lit) rfl
theorem attach_call{l:OpenLaw}{n:Nat}{q:Program}{loose:List Str}{XP:(Str->Option Value)->Heap->Prop}{YP:World->Heap->Prop}{d:DefRec}
  (hn:l.most=some n) (hdf:d.params.defaults=[])
  (call:∀(w:World) (s₀ s₁:Shared) (mg mb:Str->Option Value) (fa:Addr) (o:Obj) (pm cd doc:Value) (a:Addr) (vs:List Value) (ns:List Int),
   Ground q loose [] XP w s₀ mg mb s₁.heap->YP w s₁.heap->
   s₁.heap.get? fa=some o->o.data=.func (docDef d.name d.params d.body d.scope pm cd doc)->s₁.heap.CodeRec cd d.name->mg d.name=some (.ref fa)->
   s₁.heap.get? a=some { cls:=.type "list",data:=.seq vs.toArray }->IntsAre vs ns->ns.length<=n->s₁.gens=#[]->
   codeAny (model l.prog w) callerA (.call (.ref fa) ⟨[.ref a],[]⟩) (λr s'=>r=.ok (.ret (.bool true))/\OldK s₁.heap s'.heap/\s'.os=s₁.os/\AllBare s'.gens) s₁) :
  WalkO q loose XP YP l.row.toRowW d [] (λf vs=>PySem.call f vs):=by
 intro w s₀ s₁ mg mb G Y fa o pm cd doc dV kV ho hd hcd hD hmg hg args vals as hpre hlay hrd hwl hlo
 obtain rfl:dV=.none:=Dflts.none hD hdf
 obtain rfl:kV=.none:=Dflts.noKw hD
 obtain ⟨a,vs,ns,rfl,rfl,hobj,hints,hlen⟩:=qga hn hpre hwl
 refine enter_call (codeAny_mono (call w s₀ s₁ mg mb fa o pm cd doc a vs ns G Y ho (fd_plain hd) hcd hmg hobj hints hlen hg) λr s' hq=>?_)
 obtain ⟨rfl,h2,h3,h4⟩:=hq
 exact ⟨.inl ⟨.bool true,.bool true,[],rfl,λ_=>rfl,.bool true,ygp l _,λ_=>⟨List.Pairwise.nil,λ_ hm=>(nomatch hm)⟩⟩,h2,h3,h4⟩
end Att
namespace L2
open PySem PySem.Spec PyProof.Rows
theorem yee:∀{vs:List Value}{ns:List Int},IntsAre vs ns->Vals (ns.map V.int) vs
 |_,_,.nil=>.nil
 |_,_,.cons n t h=>.cons ⟨t,rfl⟩ (yee h)
noncomputable def Only(H:Hp):Prop:=∀b,H b=none\/∃o xs,H b=some (.frz o (.lst xs))
theorem law_call{P:Program}{w:World}{K:W.Frag}{mg mb:Str->Option Value}{CX:CXT}{k:Nat}{fa a:Addr}{fd:FuncData}{x:Str}{sp:Sp}{s₁:Shared}{vs:List Value}{ns:List Int}
  (KX:K.In s₁.heap) (hns:s₁.heap.Ns mainGlobals mg) (hb:s₁.heap.Ns builtinsNs mb) (hbb:∀x:Str,x≠"__name__"->mb x=bootBuiltins x) (hlim:s₁.heap.NoLimit) (hg:s₁.gens=#[])
  (ha:s₁.heap.get? a=some { cls:=.type "list",data:=.seq vs.toArray }) (hi:IntsAre vs ns) (hl:ns.length<=sizeLine) (hr:Room k callerA)
  (F:∀base:Heap,K.In base->base.Ns mainGlobals mg->FnOk P w K mg base CX k fa fd [x] sp) (hbind:∀(s:Shared) (u:Value),BindsTo s fd ⟨[u],[]⟩ [(x,u)])
  (hsp:∀H:Hp,Only H->SqL K H a (ns.map V.int)->sp [.ref a] H (λv _=>v=.bl true) λ_ _ _=>False)
  (hCX:∀H e s',CX [] H s₁ (λ_ _ _=>False) e s'->False) :
  codeAny (model P w) callerA (.call (.ref fa) ⟨[.ref a],[]⟩) (λr s'=>r=.ok (.ret (.bool true))/\OldK s₁.heap s'.heap/\s'.os=s₁.os/\AllBare s'.gens) s₁:=by
 have rv:=yee hi
 have lenV:=hi.length
 -- from an abstract heap in which nothing but the script may be tracked
 have core:∀H:Hp,Only H->SqL K H a (ns.map V.int)->HOk P w H s₁.heap->(∀b,H b≠none->b=a)->(H a≠none->K.lookup a=none)->
   codeAny (model P w) callerA (.call (.ref fa) ⟨[.ref a],[]⟩) (λr s'=>r=.ok (.ret (.bool true))/\OldK s₁.heap s'.heap/\s'.os=s₁.os/\AllBare s'.gens) s₁:=by
  intro H hO hS hok hA hK
  have base_of:∀{b:Addr}{o:Obj},s₁.heap.get? b=some o->H b=none->(hidT s₁.heap H).get? b=some o:=λe n=>hidT_get e n
  have noA:∀{b:Addr}{o:Obj}{es:Array DictEntry}{ep:Nat},s₁.heap.get? b=some o->o.data=.dict es ep->H b=none:=λ{b o es ep} e d=>by
   cases q:H b with
   |none=>rfl
   |some u=>
    have e':b=a:=hA b (by rw[q];simp)
    subst e'
    rw[ha]at e;cases e
    have d':Data.seq vs.toArray _=Data.dict es ep:=d
    cases d'
  have nsK:∀{b:Addr}{m:Str->Option Value},s₁.heap.Ns b m->(hidT s₁.heap H).Ns b m:=λ{b m} ⟨o,es,ep,e,d,r⟩=>⟨o,es,ep,base_of e (noA e d),d,r⟩
  have hKb:K.In (hidT s₁.heap H):=λb o e=>base_of (KX b o e) (by
   cases q:H b with
   |none=>rfl
   |some u=>
    have e':b=a:=hA b (by rw[q];simp)
    subst e'
    rw[hK (by rw[q];simp)]at e;cases e)
  have hM:Mod K mg (hidT s₁.heap H):=⟨hKb,nsK hns,⟨mb,nsK hb,hbb⟩,let ⟨mc,h1,h2⟩:=hlim;⟨mc,nsK h1,h2⟩⟩
  have e0:Env0 P w K mg (hidT s₁.heap H) callerA [] s₁ H:=⟨rfl,hM,λb o e=>of_hidT e,Nat.le_of_eq (qgw _ _),trivial,λb hb=>absurd (show b∈([]:List Addr) from hb) (by simp),hok,.of_eq hg⟩
  refine codeAny_mono ((F _ hKb (nsK hns)).run callerA [] s₁ H ⟨[.ref a],[]⟩ [.ref a] [.ref a] _ _ hr e0 (hbind s₁ (.ref a)) (.cons rfl .nil) (hsp H hO hS)) λr s' h=>?_
  cases r with
  |error e=>exact (hCX H e s' h).elim
  |ok fl=>
   cases fl with
   |next=>exact False.elim h
   |brk=>exact False.elim h
   |cont=>exact False.elim h
   |ret u=>
    obtain ⟨v,H',os,bare,un,hok',r',q⟩:=h
    have q':v=.bl true:=q
    subst q'
    obtain rfl:u=Value.bool true:=r'
    refine ⟨rfl,OldK.of_keep λb o e=>?_,os,bare⟩
    cases q:H b with
    |none=>exact un.keep b o e q (by intro z;exact absurd (show b∈([]:List Addr) from z) (by simp)) (by simp)
    |some u=>
     rcases hO b with z|⟨ob,xs,z⟩
     ·rw[q]at z;cases z
     ·have z2:=un.frzs b ob _ z
      obtain ⟨e1,_⟩:=hok b _ z
      obtain ⟨e2,_⟩:=hok' b _ z2
      rw[e]at e1;cases e1
      exact e2
 cases hk:K.lookup a with
 |some o=>
  -- the script is one of the module's own objects
  have e:=KX a o hk
  rw[ha]at e
  cases e
  refine core (λ_=>none) (λ_=>.inl rfl) (.inr ⟨_,vs.toArray,_,hk,rfl,rfl,rfl,by rw[size_toArray,lenV];exact hl,by simpa using rv⟩) (λb u z=>by have z':(none:Option HO)=some u:=z;cases z') (λb z=>absurd rfl z) λz=>absurd rfl z
 |none=>
  refine core (λb=>if b=a then some (.frz { cls:=.type "list",data:=.seq vs.toArray } (.lst (ns.map V.int))) else none) (λb=>?_) (.inl (.inr ⟨{ cls:=.type "list",data:=.seq vs.toArray },if_pos rfl⟩)) (λb u z=>?_) (λb z=>?_) λ_=>hk
  ·by_cases hb:b=a
   ·exact .inr ⟨_,_,if_pos hb⟩
   ·exact .inl (if_neg hb)
  ·by_cases hb:b=a
   ·have z':=(if_pos hb).symm.trans z
    cases z'
    subst hb
    exact ⟨ha,by rw[length_map];exact hl,vs,_,rv,ha⟩
   ·have z':=(if_neg hb).symm.trans z
    cases z'
  ·by_cases hb:b=a
   ·exact hb
   ·exact absurd (if_neg hb) z
theorem walk_of{l:W.OpenLaw}{n k:Nat}{q:Program}{loose:List Str}{XP:(Str->Option Value)->Heap->Prop}{YP:World->Heap->Prop}{d:DefRec}{K:Params->W.Frag}{CX:World->CXT}{sp:World->Sp}{x:Str}
  (hn:l.most=some n) (hn2:n<=sizeLine) (hdf:d.params.defaults=[]) (hr:Room k callerA)
  (hY:∀(w:World) (h:Heap),YP w h->(K w.params).In h)
  (F:∀(w:World) (mg:Str->Option Value) (fa:Addr) (h:Heap),(K w.params).In h->h.Ns mainGlobals mg->mg d.name=some (.ref fa)->
   ∃fd:FuncData,(∀(s:Shared) (u:Value),BindsTo s fd ⟨[u],[]⟩ [(x,u)])/\
    ∀base:Heap,(K w.params).In base->base.Ns mainGlobals mg->FnOk l.prog w (K w.params) mg base (CX w) k fa fd [x] (sp w))
  (hsp:∀(w:World) (H:Hp) (a:Addr) (ns:List Int),ns.length<=n->Only H->SqL (K w.params) H a (ns.map V.int)->sp w [.ref a] H (λv _=>v=.bl true) λ_ _ _=>False)
  (hCX:∀(w:World) (H:Hp) (s:Shared) (e:Value) (s':Shared),CX w [] H s (λ_ _ _=>False) e s'->False) :
  W.WalkO q loose XP YP l.row.toRowW d [] (λf vs=>PySem.call f vs):=by
 refine Att.attach_call hn hdf λw s₀ s₁ mg mb fa o pm cd doc a vs ns G Y ho hd hcd hmg hobj hints hlen hg=>?_
 have KX:=hY w _ Y
 obtain ⟨fd,hb,hF⟩:=F w mg fa _ KX G.T.g hmg
 exact law_call KX G.T.g G.T.b G.T.builtins G.T.nolimit hg hobj hints (le_trans hlen hn2) hr hF hb (λH hO hS=>hsp w H a ns hlen hO hS) λH e s'=>hCX w H s₁ e s'
noncomputable def qdf(s:Stmt)(j:Nat):Stmt:=match s with
 |.ClassDef _ _ _ body _ _ _ _ _ _ _=>body.getD j (.Pass ⟨0,0,0,0⟩)
 |_=>.Pass ⟨0,0,0,0⟩
noncomputable def yat(s:Stmt):Arguments:=match s with
 |.FunctionDef _ a _ _ _ _ _ _ _ _=>a
 |_=>{ posonlyargs:=[],args:=[],vararg:=none,kwonlyargs:=[],kw_defaults:=[],kwarg:=none,defaults:=[] }
noncomputable def yak(s:Stmt):List Stmt:=match s with
 |.FunctionDef _ _ b _ _ _ _ _ _ _=>b
 |_=>[]
noncomputable def yac(s:Stmt):Scope:=match s with
 |.FunctionDef _ _ _ _ _ _ sc _ _ _=>sc
 |_=>{ kind:=.function,names:=[],isGenerator:=false,isCoroutine:=false }
noncomputable abbrev CX0:CXT:=λ_ _ _ _ _ _=>False
noncomputable abbrev E0:XK:=λ_ _ _=>False
theorem pass0{X:Cx}:yb0 CX0 X E0:=λ_ _ _ _ _ _ _ h=>h.elim
structure Fun(K:W.Frag)(x qual:Str)(st:Stmt)(f:Addr)(fd:FuncData):Prop where
 ex:∃(oc:Value) (od:Option Addr) (kV doc pm:Value) (an:Option Addr) (cdv ct:Value) (osl:Array (Option Value)),
  fd=W.fnOf x qual (yat st) (yak st) (yac st) .none kV doc pm an cdv ct/\K.lookup f=some ⟨oc,od,.func fd,osl⟩/\W.codeIn K cdv qual=true
 kp:W.keepIn K (.ref f)=true
section
variable {P:Program}{w:World}{K:W.Frag}{mg:Str->Option Value}{base:Heap}
theorem Fun.ok{x qual:Str}{st:Stmt}{f:Addr}{fd:FuncData}{N ps:List Str}{k:Nat}{sp:Sp}(F:Fun K x qual st f fd)(S:FnScope N ps (yac st))(len:∀vs H Q E,sp vs H Q E->vs.length=ps.length)
  (hbody:∀(cdv:Value) (A:Around) (outer:List Env) (s:Shared) (H:Hp) (vs:List V) (Q:VK) (E:XK),Room k (A.deeper (envOfC qual (yac st) s.heap.objs.size f cdv))->sp vs H Q E->
   ∃t,PSs (cxOf CX0 P w K mg base N qual (yac st) f cdv A outer s H E).nox (yak st) t/\t { nx:=λ_ H'=>Q .non H',rt:=Q } (yb6 N vs) H):FnOk P w K mg base CX0 (k+1) f fd ps sp:=by
 obtain ⟨oc,od,kV,doc,pm,an,cdv,ct,osl,rfl,lk,hcd⟩:=F.ex
 refine fn_of lk hcd S len λA outer s H vs Q E hr hsp=>?_
 obtain ⟨t,h,q⟩:=hbody cdv A outer s H vs Q E hr hsp
 exact ⟨t,h.nox,q⟩
theorem Fun.binds{x qual:Str}{st:Stmt}{f:Addr}{fd:FuncData}{ps:List Str}(F:Fun K x qual st f fd)
  (h:∀(kV doc pm:Value) (an:Option Addr) (cdv ct:Value) (us:List Value),us.length=ps.length->bindArgs (W.fnOf x qual (yat st) (yak st) (yac st) .none kV doc pm an cdv ct) ⟨us,[]⟩=pure (ps.zip us)):qbm K fd ps []:=by
 obtain ⟨oc,od,kV,doc,pm,an,cdv,ct,osl,rfl,lk,hcd⟩:=F.ex
 exact .all (h kV doc pm an cdv ct)
theorem qbq{x qual:Str}{st:Stmt}{f:Addr}{oc:Value}{od an:Option Addr}{osl:Array (Option Value)}{kV doc pm cdv ct:Value}(l:K.lookup f=some ⟨oc,od,.func (W.fnOf x qual (yat st) (yak st) (yac st) .none kV doc pm an cdv ct),osl⟩)
  (c:W.codeIn K cdv qual=true) (k:W.keepIn K (.ref f)=true):Fun K x qual st f (W.fnOf x qual (yat st) (yak st) (yac st) .none kV doc pm an cdv ct):=⟨⟨oc,od,kV,doc,pm,an,cdv,ct,osl,rfl,l,c⟩,k⟩
end
theorem yd0{A:Around}{k:Nat}(hr:Room k A):A.units+1<cLine:=Nat.lt_of_le_of_lt (Nat.add_le_add_left (by decide:1<=64) _) hr.units
section
variable {X:Cx}
theorem pv(i:Nat){x:Str}{pos:Pos}(hN:X.N[i]?=some x:=by rfl)(hv:Vis X.env.scope x:=by first|exact Or.inl rfl|exact Or.inr (Or.inl rfl)|exact Or.inr (Or.inr rfl))(hd:(x == ("__debug__" : Str))=false:=by decide)
  (hcd:(x == ("__classdict__" : Str))=false:=by decide):PE X (.Name x pos) (tVar i):=pe_var hN hv hd hcd
end
theorem iteF{A B:Prop}(h:B):if false=true then A else B:=by
 rw[if_neg Bool.false_ne_true]
 exact h
theorem iteT{A B:Prop}(h:A):if true=true then A else B:=by
 rw[if_pos rfl]
 exact h
noncomputable def Same(H H':Hp):Prop:=∀b o,H b=some o->H' b=some o
theorem smR(H:Hp):Same H H:=λ_ _ h=>h
theorem Same.trans{H H1 H2:Hp}(a:Same H H1)(b:Same H1 H2):Same H H2:=λc o h=>b c o (a c o h)
theorem Same.free{H H':Hp}(e:Same H H'){l:Addr}(h:H' l=Option.none):H l=Option.none:=by
 cases q:H l with
 |none=>rfl
 |some o=>
  rw[e l o q]at h
  cases h
mutual
inductive At(H:Hp):V->PyData->Prop
 |non:At H .non .none
 |bl (b:Bool):At H (.bl b) (.bool b)
 |int (i:Int):At H (.int i) (.int i)
 |str (x:Str):At H (.str x) (.str x)
 |lst {a:Addr}{vs:List V}{ds:List PyData}:H a=some (.lst vs)->AtAll H vs ds->At H (.ref a) (.list ds)
 |tup {a:Addr}{vs:List V}{ds:List PyData}:H a=some (.tup vs)->AtAll H vs ds->At H (.ref a) (.tuple ds)
inductive AtAll(H:Hp):List V->List PyData->Prop
 |nil:AtAll H [] []
 |cons {v:V}{d:PyData}{vs:List V}{ds:List PyData}:At H v d->AtAll H vs ds->AtAll H (v::vs) (d::ds)
end
mutual
theorem At.same{H H':Hp}(s:Same H H'):∀{v:V}{d:PyData},At H v d->At H' v d
 |_,_,.non=>.non
 |_,_,.bl b=>.bl b
 |_,_,.int i=>.int i
 |_,_,.str x=>.str x
 |_,_,.lst e t=>.lst (s _ _ e) (AtAll.same s t)
 |_,_,.tup e t=>.tup (s _ _ e) (AtAll.same s t)
theorem AtAll.same{H H':Hp}(s:Same H H'):∀{vs:List V}{ds:List PyData},AtAll H vs ds->AtAll H' vs ds
 |_,_,.nil=>.nil
 |_,_,.cons a b=>.cons (At.same s a) (AtAll.same s b)
end
theorem AtAll.length{H:Hp}:∀{vs:List V}{ds:List PyData},AtAll H vs ds->vs.length=ds.length
 |_,_,.nil=>rfl
 |_,_,.cons _ b=>congrArg (· + 1) b.length
theorem AtAll.append{H:Hp}:∀{vs ws:List V}{ds es:List PyData},AtAll H vs ds->AtAll H ws es->AtAll H (vs++ws) (ds++es)
 |_,_,_,_,.nil,h=>h
 |_,_,_,_,.cons a b,h=>.cons a (b.append h)
theorem AtAll.snoc{H:Hp}{vs:List V}{ds:List PyData}{v:V}{d:PyData}(h:AtAll H vs ds)(a:At H v d):AtAll H (vs++[v]) (ds++[d]):=h.append (.cons a .nil)
mutual
theorem At.reads{P:Program}{w:World}{H:Hp}{h:Heap}(ok:HOk P w H h):∀{v:V}{d:PyData}{u:Value},At H v d->RelV v u->∃as,Reads h u d as
 |_,_,_,.non,r=>by cases r;exact ⟨_,.none⟩
 |_,_,_,.bl b,r=>by cases r;exact ⟨_,.bool b⟩
 |_,_,_,.int i,r=>by obtain ⟨t,rfl⟩:=r;exact ⟨_,.int i t⟩
 |_,_,_,.str x,r=>by obtain ⟨t,rfl⟩:=r;exact ⟨_,.str x t⟩
 |_,_,_,.lst e t,r=>by
  cases r
  obtain ⟨z,its,n,rv,ho⟩:=ok _ _ e
  obtain ⟨as,q⟩:=AtAll.reads ok t rv
  exact ⟨_,.list ho rfl rfl (by simpa using q)⟩
 |_,_,_,.tup e t,r=>by
  cases r
  obtain ⟨z,its,rv,o,ho,hc,n,hd⟩:=ok _ _ e
  obtain ⟨as,q⟩:=AtAll.reads ok t rv
  exact ⟨_,.tuple ho hc hd (by simpa using q)⟩
theorem AtAll.reads{P:Program}{w:World}{H:Hp}{h:Heap}(ok:HOk P w H h):∀{vs:List V}{ds:List PyData}{us:List Value},AtAll H vs ds->Vals vs us->∃as,ReadsAll h us ds as
 |_,_,_,.nil,.nil=>⟨_,.nil⟩
 |_,_,_,.cons a b,.cons r s=>by
  obtain ⟨as,q⟩:=At.reads ok a r
  obtain ⟨bs,q2⟩:=AtAll.reads ok b s
  exact ⟨_,.cons q q2⟩
end
section
variable {X:Cx}{pins:List (Addr×Obj)}{σ:St}{H:Hp}{s:Shared}{h':Heap}
theorem Inv.turnedL{ch:List Addr}{a:Addr}{o:HO}{t':Nat}(I:Inv X pins σ H s)(k:∀b u,b∉ch->s.heap.get? b=some u->h'.get? b=some u)(hf:∀b∈ch,FpOk X pins H b)
  (hp:s.heap.objs.size<=a) (new:qat X.prog X.w (upd H a o) h' a o):Inv X pins σ (upd H a o) { s with heap:=h',toks:=t' }:=by
 have hn:H a=none:=I.hok.fresh hp
 have nit:∀b u,H b=some u->b∉ch:=λb u e z=>by rw[(hf b z).1]at e;cases e
 refine I.step (g':=s.gens) (d':=s.drawn) (ch:=ch) (λb hb=>?_) (λb u _ _ hc e _=>k b u hc e) (λb u _ _ hc e _=>⟨u.slots,k b u hc e⟩) (λb u _ e n=>?_)
  (λb u hc e=>⟨u,k b u hc e⟩) (λb xs e=>?_) (λb u xs e=>?_) (λb ps e=>⟨#[],?_⟩) (λm hm=>?_) (λb u e=>?_) I.bare
 ·obtain ⟨_,f1,_,f3,f4,f5⟩:=hf b hb
  exact ⟨f3,f1,f4,f5⟩
 ·rw[qaf (ne_of_lt (lt_of_lt_of_le (lt_size e) hp))];exact n
 ·rw[qaf (qae e hn)];exact e
 ·rw[qaf (qae e hn)];exact e
 ·rw[qaf (qae e hn),e];simp
 ·obtain ⟨ob,es,ep,ho,r⟩:=hm
  exact ⟨ob,es,ep,k _ ob (λz=>(hf _ z).2.1 rfl) ho,r⟩
 ·by_cases hb:b=a
  ·subst hb;rw[yaa]at e;cases e;exact new
  ·rw[qaf hb]at e
   refine (I.hok b u e).stay (λc v hc q=>k c v ?_ q) (λc q=>by rw[qaf (qae q hn)];exact q) λc xs q=>by rw[qaf (qae q hn)];exact q
   rcases hc with rfl|hc
   ·exact nit _ u e
   ·exact nit c _ hc
end
noncomputable def Ite(K:W.Frag)(a:Addr):It:=
 ⟨λi H=>∃xs x,SqL K H a xs/\xs[i]?=some x,λi H x H'=>∃p y,H p=none/\x=.ref p/\H'=upd H p (.tup [.int i,y])/\∀xs,SqL K H a xs->xs[i]?=some y,λi H=>∃xs,SqL K H a xs/\xs.length<=i⟩
theorem ygh{P:Program}{w:World}{K:W.Frag}{es:List Expr}{k:Nat}{tp:Pos}(a e it:Addr)(hne:e≠it) :
  Turn P w K (.Tuple es k tp) (Ite K a) [e,it] e (λi h=>(∃old,IsEnum h e it i old)/\h.IsListIter it a i) where
 mem:=by simp
 obj:=λi h st b hb=>by
  obtain ⟨⟨old,he⟩,o,ho,hc,hd⟩:=st
  have hb':b=e\/b=it:=by simpa using hb
  rcases hb' with rfl|rfl
  ·exact ⟨_,he,λv z=>by
    have z':Data.fields _=Data.cell v:=z
    cases z'⟩
  ·exact ⟨o,ho,λv z=>by rw[hd]at z;cases z⟩
 keep:=λi h h' st kk=>⟨st.1.imp λ_ z=>kk e (by simp) _ z,st.2.at λo z=>kk it (by simp) o z⟩
 item:=by
  intro X hP hw hK hc i pins s σ H E I hf st hg
  subst hP hw hK
  obtain ⟨xs,x,hq,hx⟩:=hg
  obtain ⟨its,rv,p,hz⟩:=I.list hq
  obtain ⟨u,hu,ru⟩:=rv.get hx
  obtain ⟨⟨old,he⟩,hit⟩:=st
  refine wpAny_pyNext_enum_item he hit p.isList (x:=u) (by simpa using hu) hne λh' ho hit' hT hsz hk=>?_
  have hel:e<s.heap.objs.size:=lt_size he
  have hil:it<s.heap.objs.size:=by obtain ⟨_,z,_⟩:=hit;exact lt_size z
  refine ⟨_,rfl,wpAny_letOwnedTupleGo_enum ho λh2 he2 hs2=>?_⟩
  have keep2:∀b ob,b∉[e,it]->s.heap.get? b=some ob->h2.get? b=some ob:=λb ob hb z=>by
   have h1:b≠e:=λq=>hb (by simp[q])
   have h3:b≠it:=λq=>hb (by simp[q])
   exact (hs2.2 b h1).trans (hk b ob h1 h3 z)
  have hT2:h2.get? s.heap.objs.size=some { cls:=.type "tuple",data:=.seq #[.int i s.toks,u] }:=(hs2.2 _ (ne_of_gt hel)).trans hT
  have fresh:H s.heap.objs.size=none:=I.hok.fresh (le_refl _)
  have new:qat X.prog X.w (upd H s.heap.objs.size (.tup [.int i,x])) h2 s.heap.objs.size (.tup [.int i,x]):=
   ⟨by show 2<=sizeLine;decide,[.int i s.toks,u],.cons ⟨_,rfl⟩ (.cons ru .nil),⟨_,hT2,rfl,_,rfl⟩⟩
  refine ⟨.ref s.heap.objs.size,upd H s.heap.objs.size (.tup [.int i,x]),I.turnedL keep2 hf (le_refl _) new,rfl,⟨_,x,fresh,rfl,rfl,λys hy=>by rw[I.list_inj hy hq];exact hx⟩,⟨⟨_,by simpa using he2⟩,hit'.at λo z=>(hs2.2 it hne.symm).trans z⟩,λb hb=>?_⟩
  rw[qaf]
  ·exact (hf b hb).1
  ·have hb':b=e\/b=it:=by simpa using hb
   rcases hb' with rfl|rfl
   ·exact ne_of_lt hel
   ·exact ne_of_lt hil
 done:=by
  intro X hP hw hK hc i pins s σ H E I hf st hg
  subst hP hw hK
  obtain ⟨xs,hq,hx⟩:=hg
  obtain ⟨its,rv,p,hz⟩:=I.list hq
  obtain ⟨⟨old,he⟩,hit⟩:=st
  have hl:=rv.length
  obtain ⟨f0,f1,f2,f3,f4,f5⟩:=hf it (by simp)
  exact wpAny_pyNext_enum_end (I.ok.hd hc) he hit p.isList (by simp;omega) λh' eb=>⟨rfl,I.turned (t':=s.toks) (λb o hb z=>eb b o hb z) f0 f1 f3 f4 f5⟩
 self:=λ_ _ _ _ _ st h=>wpAny_pyIter_enum st.1.choose_spec h
noncomputable def iEnum(K:W.Frag)(ta:TA):TI:=λσ H R=>ta σ H λvs H1=>∃a xs,vs=[.ref a]/\SqL K H1 a xs/\R (Ite K a) H1
section
variable {X:Cx}
theorem qda{a:Expr}{ta:TA}{p pos tp:Pos}{es:List Expr}{k:Nat}(hg:Gl X "enumerate")(hm:X.mg "enumerate"=none)(ha:PA X [a] ta)(hs:starEach [a] X.env=[(false,eval a X.env)]:=by rfl) :
  PI X (.Tuple es k tp) (.Call (.Name "enumerate" p) [a] [] pos) (iEnum X.K ta):=by
 intro pins s σ H R I h
 refine Call_ (qeq I hg hm boot_enumerate (PyProof.Rows.callWith_type1 (thn (ha pos pins s σ H _ I h) λus s1 ⟨vs,H1,I1,r1,q1⟩=>?_) hs rfl))
 obtain ⟨l,xs,e,hq,q⟩:=q1
 subst e
 cases r1 with
 |cons r rr=>
  cases rr
  cases r
  obtain ⟨its,rv,pl,hz⟩:=I1.list hq
  refine call_enumerate_list pl.isList λh' he hit hsz hk=>?_
  refine wpAny_pyIter_enum he ⟨_,[s1.heap.objs.size+1,s1.heap.objs.size],_,Ite X.K l,H1,rfl,I1.kept (t':=s1.toks) hk,ygh l (s1.heap.objs.size+1) s1.heap.objs.size (Nat.succ_ne_self _),⟨⟨_,he⟩,hit⟩,λb hb=>?_,q⟩
  have hb':b=s1.heap.objs.size+1\/b=s1.heap.objs.size:=by simpa using hb
  rcases hb' with rfl|rfl
  ·exact I1.fpOk (Nat.le_succ _) (I1.hok.fresh (Nat.le_succ _))
  ·exact I1.fpOk (le_refl _) (I1.hok.fresh (le_refl _))
theorem qcg{K:W.Frag}{a:Addr}{xs:List V}{g:TG}{tb:TS}{D:Ends}{σ:St}{H:Hp}(Pv:Nat->St->Hp->Prop)(h0:Pv 0 σ H)(hl:∀i σ H,i<=xs.length->Pv i σ H->SqL K H a xs)
  (hs:∀i x p σ H,xs[i]?=some x->Pv i σ H->H p=none->g (.ref p) σ (upd H p (.tup [.int i,x])) λσ2 H2=>tb { D with nx:=Pv (i+1),ct:=Pv (i+1),bk:=D.nx } σ2 H2) (hd:∀σ H,Pv xs.length σ H->D.nx σ H) :
  ∃W:Nat->Nat->St->Hp->Prop,(∃m,W 0 m σ H)/\∀i m σ H,W i m σ H->
   ((Ite K a).stop i H/\D.nx σ H)\/((Ite K a).go i H/\∃N:St->Hp->Prop,(∀σ' H',N σ' H'->∃m',m' < m/\W (i+1) m' σ' H')/\∀x H',(Ite K a).yld i H x H'->g x σ H' λσ2 H2=>tb { D with nx:=N,ct:=N,bk:=D.nx } σ2 H2):=by
 refine ⟨λi m σ H=>m=xs.length-i/\i<=xs.length/\Pv i σ H,⟨xs.length,by simp,zero_le _,h0⟩,?_⟩
 rintro i m σ H ⟨rfl,hi,p⟩
 have q:=hl i σ H hi p
 by_cases hlt:i<xs.length
 ·refine .inr ⟨⟨xs,xs[i],q,by simp[hlt]⟩,Pv (i+1),λσ' H' p'=>⟨xs.length-(i+1),by omega,rfl,hlt,p'⟩,λx H' y=>?_⟩
  obtain ⟨pp,z,hn,e1,e2,y⟩:=y
  subst e1 e2
  exact hs i z pp σ _ (y xs q) p hn
 ·have e:i=xs.length:=by omega
  subst e
  exact .inl ⟨⟨xs,q,le_refl _⟩,hd σ H p⟩
noncomputable def clOf(cells:List (Str×Addr)):List (Str×NameKind)->List (Str×Addr)->List (Str×Addr)
 |[],cs=>cs
 | (n,k)::r,cs=>if k=.free then clOf cells r ((n,(cells.lookup n).getD 0)::cs) else clOf cells r cs
theorem qbo{scope:Scope}{env:Env}(h:∀x∈scope.names,x.2=.free->∃c,env.cells.lookup x.1=some c):closureFor scope env=pure (clOf env.cells scope.names []):=by
 unfold closureFor
 generalize hn:scope.names=names at h
 suffices hh:∀(l:List (Str×NameKind)) (cs:List (Str×Addr)),(∀x∈l,x.2=.free->∃c,env.cells.lookup x.1=some c)->
   (forIn l cs (λ(x:Str×NameKind) r=>if (x.2 == NameKind.free)=true then (do let a <-cellOf env x.1;pure (ForInStep.yield ((x.1,a)::r))) else pure (ForInStep.yield r)):Sem (List (Str×Addr)))=pure (clOf env.cells l cs) by
  have:=hh names [] h
  simp only[bind_pure]
  exact this
 intro l
 induction l with
 |nil=>intro cs _;rfl
 |cons x l ih=>
  intro cs hl
  obtain ⟨n,k⟩:=x
  rw[List.forIn_cons]
  by_cases hk:k=.free
  ·subst hk
   obtain ⟨c,hc⟩:=hl (n,.free) mem_cons_self rfl
   have e1:cellOf env n=pure c:=by unfold cellOf;rw[hc]
   have ec:clOf env.cells ((n,NameKind.free)::l) cs=clOf env.cells l ((n,c)::cs):=by
    show (if NameKind.free=NameKind.free then _ else _)=_
    rw[if_pos rfl,hc];rfl
   rw[ec]
   simp only[e1,pure_bind,beq_self_eq_true,if_true]
   exact ih _ λy hy=>hl y (mem_cons_of_mem _ hy)
  ·have hb:(k == NameKind.free)=false:=by cases k<;>first|rfl|exact absurd rfl hk
   have ec:clOf env.cells ((n,k)::l) cs=clOf env.cells l cs:=by
    show (if k=NameKind.free then _ else _)=_
    rw[if_neg hk]
   rw[ec]
   simp only[hb,pure_bind,Bool.false_eq_true,if_false]
   exact ih _ λy hy=>hl y (mem_cons_of_mem _ hy)
theorem ybu{cells:List (Str×Addr)}:∀{l:List (Str×NameKind)}{cs:List (Str×Addr)},(∀x∈l,x.2=.free->∃c,cells.lookup x.1=some c)->(∀p∈cs,cells.lookup p.1=some p.2)->∀p∈clOf cells l cs,cells.lookup p.1=some p.2
 |[],_,_,h=>h
 | (n,k)::r,cs,hl,h=>by
  unfold clOf
  split
  ·rename_i hk
   refine ybu (λx hx=>hl x (mem_cons_of_mem _ hx)) λp hp=>?_
   rcases mem_cons.mp hp with rfl|hp
   ·obtain ⟨c,hc⟩:=hl (n,k) mem_cons_self hk
    show cells.lookup n=some ((cells.lookup n).getD 0)
    have hc':cells.lookup n=some c:=hc
    rw[hc'];rfl
   ·exact h p hp
  ·exact ybu (λx hx=>hl x (mem_cons_of_mem _ hx)) h
theorem qck{l:List (Str×Addr)}{x:Str}(h:∃c,(x,c)∈l):∃c,l.lookup x=some c:=by
 obtain ⟨c,h⟩:=h
 induction l with
 |nil=>cases h
 |cons p r ih=>
  obtain ⟨y,d⟩:=p
  by_cases e:(x == y)=true
  ·exact ⟨d,by rw[lookup_cons,e]⟩
  ·have e':(x == y)=false:=by simpa using e
   rcases mem_cons.mp h with q|q
   ·cases q;exact absurd (beq_self_eq_true _) e
   ·obtain ⟨c',z⟩:=ih q
    exact ⟨c',by rw[lookup_cons,e'];exact z⟩
theorem yc2{cells:List (Str×Addr)}{x:Str}:∀{l:List (Str×NameKind)}{cs:List (Str×Addr)},((x,NameKind.free)∈l\/∃c,(x,c)∈cs)->∃c,(x,c)∈clOf cells l cs
 |[],_,h=>by
  rcases h with h|h
  ·cases h
  ·exact h
 | (n,k)::r,cs,h=>by
  unfold clOf
  split
  ·rename_i hk
   refine yc2 ?_
   rcases h with h|⟨c,h⟩
   ·rcases mem_cons.mp h with q|q
    ·cases q;exact .inr ⟨_,mem_cons_self⟩
    ·exact .inl q
   ·exact .inr ⟨c,mem_cons_of_mem _ h⟩
  ·rename_i hk
   refine yc2 ?_
   rcases h with h|h
   ·rcases mem_cons.mp h with q|q
    ·cases q;exact absurd rfl hk
    ·exact .inl q
   ·exact .inr h
theorem ycz{env:Env}{x:Str}:∀{l:List (Str×NameKind)},l.lookup x=some .free->
  (l.map λ(n,k)=>if (k == NameKind.free&&env.scope.kind == .function&&env.kindOf n == some .cell) then (n,NameKind.cell) else (n,k)).lookup x=some .cell\/
  (l.map λ(n,k)=>if (k == NameKind.free&&env.scope.kind == .function&&env.kindOf n == some .cell) then (n,NameKind.cell) else (n,k)).lookup x=some .free
 |[],h=>by simp at h
 | (n,k)::r,h=>by
  rw[map_cons]
  cases hx:x == n with
  |true=>
   rw[lookup_cons,hx]at h
   cases h
   by_cases hc:(NameKind.free == NameKind.free&&env.scope.kind == .function&&env.kindOf n == some .cell)=true
   ·left;simp only[hc,if_true,lookup_cons,hx]
   ·right;simp only[hc,Bool.false_eq_true,if_false,lookup_cons,hx]
  |false=>
   rw[lookup_cons,hx]at h
   have ih:=ycz (env:=env) (l:=r) h
   by_cases hc:(k == NameKind.free&&env.scope.kind == .function&&env.kindOf n == some .cell)=true
   ·simp only[hc,if_true,lookup_cons,hx];exact ih
   ·simp only[hc,Bool.false_eq_true,if_false,lookup_cons,hx];exact ih
theorem ydh{env:Env}{x:Str}:∀{l:List (Str×NameKind)},(∀y∈l,y.2≠.cell)->
  ((l.map λ(n,k)=>if (k == NameKind.free&&env.scope.kind == .function&&env.kindOf n == some .cell) then (n,NameKind.cell) else (n,k)).lookup x=some .cell\/
  (l.map λ(n,k)=>if (k == NameKind.free&&env.scope.kind == .function&&env.kindOf n == some .cell) then (n,NameKind.cell) else (n,k)).lookup x=some .free)->(x,NameKind.free)∈l
 |[],_,h=>by simp at h
 | (n,k)::r,hn,h=>by
  rw[map_cons]at h
  cases hx:x == n with
  |true=>
   have e:x=n:=by simpa using hx
   subst e
   by_cases hc:(k == NameKind.free&&env.scope.kind == .function&&env.kindOf x == some .cell)=true
   ·have:k=.free:=by
     simp only[Bool.and_eq_true,beq_iff_eq]at hc
     exact hc.1.1
    subst this
    exact mem_cons_self
   ·simp only[hc,Bool.false_eq_true,if_false,lookup_cons,hx,Option.some.injEq]at h
    rcases h with h|h
    ·exact absurd h (hn (x,k) mem_cons_self)
    ·subst h;exact mem_cons_self
  |false=>
   have h':(r.map λ(n,k)=>if (k == NameKind.free&&env.scope.kind == .function&&env.kindOf n == some .cell) then (n,NameKind.cell) else (n,k)).lookup x=some .cell\/
     (r.map λ(n,k)=>if (k == NameKind.free&&env.scope.kind == .function&&env.kindOf n == some .cell) then (n,NameKind.cell) else (n,k)).lookup x=some .free:=by
    by_cases hc:(k == NameKind.free&&env.scope.kind == .function&&env.kindOf n == some .cell)=true
    ·simp only[hc,if_true,lookup_cons,hx]at h;exact h
    ·simp only[hc,Bool.false_eq_true,if_false,lookup_cons,hx]at h;exact h
   exact mem_cons_of_mem _ (ydh (λy hy=>hn y (mem_cons_of_mem _ hy)) h')
noncomputable def yau(X:Cx)(M:List Str)(scope:Scope)(C:Addr)(fp:List Addr)(s2:Shared)(H2:Hp):Cx:=
 {prog:=X.prog,w:=X.w,K:=X.K,mg:=X.mg,base:=X.base,A:=X.A,N:=M,s₀:=s2,H₀:=H2,env:=compEnvC scope (clOf X.env.cells scope.names []) C X.env,
  outer:=X.stack,stack:=X.stack,ex:=fp,fn:=λ_=>false,calm:=X.calm,pn:=[],xe:=λ_ _=>False }
noncomputable def capS(ix:List (Option Nat))(σ:St):St:=ix.map λo=>match o with
 |none=>none
 |some j=>(σ[j]?).getD none
structure CompOk(N M:List Str)(ix:List (Option Nat))(sc xs:Scope):Prop where
 kind:sc.kind=.function
 len:M.length=ix.length
 nocell:∀y∈sc.names,y.2≠.cell
 loc:∀y∈sc.names,y.2=.local->sc.names.lookup y.1=some .local
 fr:∀y∈sc.names,y.2=.free->xs.names.lookup y.1=some .cell\/xs.names.lookup y.1=some .free
 cap:∀(i:Nat) (j:Nat),ix[i]?=some (some j)->∃x,M[i]?=some x/\N[j]?=some x/\sc.names.lookup x=some .free
noncomputable def ygz(N M:List Str)(ix:List (Option Nat))(sc xs:Scope):Bool:=
 decide (sc.kind=.function)&&decide (M.length=ix.length)&&sc.names.all (λy=>decide (y.2≠.cell))&&sc.names.all (λy=>decide (y.2≠.local)||decide (sc.names.lookup y.1=some .local)) &&
 sc.names.all (λy=>decide (y.2≠.free)||decide (xs.names.lookup y.1=some .cell)||decide (xs.names.lookup y.1=some .free)) &&
 (List.range ix.length).all (λi=>match ix[i]? with
  |some (some j)=>match M[i]? with
   |some x=>decide (N[j]?=some x)&&decide (sc.names.lookup x=some .free)
   |none=>false
  |_=>true)
theorem ya4{N M:List Str}{ix:List (Option Nat)}{sc xs:Scope}(h:ygz N M ix sc xs=true):CompOk N M ix sc xs:=by
 unfold ygz at h
 simp only[Bool.and_eq_true,all_eq_true,decide_eq_true_eq,Bool.or_eq_true]at h
 obtain ⟨⟨⟨⟨⟨h1,h2⟩,h3⟩,h4⟩,h5⟩,h6⟩:=h
 refine ⟨h1,h2,h3,λy hy e=>?_,λy hy e=>?_,λi j e=>?_⟩
 ·rcases h4 y hy with q|q
  ·exact absurd e q
  ·exact q
 ·rcases h5 y hy with (q|q)|q
  ·exact absurd e q
  ·exact .inl q
  ·exact .inr q
 ·have hi:i<ix.length:=(List.getElem?_eq_some_iff.mp e).1
  have q:=h6 i (mem_range.mpr hi)
  rw[e]at q
  cases hm:M[i]? with
  |none=>rw[hm]at q;cases q
  |some x=>
   rw[hm]at q
   simp only[Bool.and_eq_true,decide_eq_true_eq]at q
   exact ⟨x,rfl,q.1,q.2⟩
noncomputable def PTs(X:Cx)(ifs:List Expr)(t:TT):Prop:=
 ∀(pins:List (Addr×Obj)) (s:Shared) (σ:St) (H:Hp) (Q:Bool->Hp->Prop),Inv X pins σ H s->t σ H Q->
  wpAny (model X.prog X.w) X.A (forIn ifs true λc r=>if r=true then do let ok <-isTrue c X.env (eval c X.env);pure (ForInStep.yield ok) else pure (ForInStep.yield r)) (TP X pins σ Q) X.xe s
noncomputable def tYes:TT:=λ_ H Q=>Q true H
theorem qb5:PTs X [] tYes:=λ_ _ _ H _ I h=>wpAny_tests_nil ⟨H,I,h⟩
end
theorem Un.butNew{fs ex:List Addr}{H H':Hp}{h h1 h2:Heap}{C:Addr}(u:Un fs ex H H' h h1)(hC:h.objs.size<=C)(sb:Heap.SameBut C h1 h2):Un fs ex H H' h h2:=by
 have ne:∀b o,h.get? b=some o->b≠C:=λb o e=>ne_of_lt (lt_of_lt_of_le (lt_size e) hC)
 refine ⟨λb o e n h3 h4=>(sb.2 b (ne b o e)).trans (u.keep b o e n h3 h4),λb o e n h3 h4=>?_,u.free,λb o e h4=>?_,u.tups,u.frzs,u.tbls⟩
 ·obtain ⟨sl,q⟩:=u.slot b o e n h3 h4
  exact ⟨sl,(sb.2 b (ne b o e)).trans q⟩
 ·obtain ⟨o',q⟩:=u.there b o e h4
  exact ⟨o',(sb.2 b (ne b o e)).trans q⟩
section
variable {X:Cx}{pins:List (Addr×Obj)}{σ:St}{H2:Hp}{s2:Shared}{M:List Str}{ix:List (Option Nat)}{scope:Scope}{fp:List Addr}
theorem comp_ok{C:Addr}(I:Inv X pins σ H2 s2)(ck:CompOk X.N M ix scope X.env.scope)(hC:s2.heap.objs.size<=C)(f2:∀b∈fp,FpOk X pins H2 b)(hfp:∀b∈fp,b<s2.heap.objs.size):(yau X M scope C fp s2 H2).Ok:=by
 have hfree:∀x∈scope.names,x.2=.free->∃c,X.env.cells.lookup x.1=some c:=λx hx e=>I.ok.has x.1 (ck.fr x hx e)
 have snd:∀x c,(clOf X.env.cells scope.names []).lookup x=some c->X.env.cells.lookup x=some c:=λx c e=>ybu (cs:=[]) hfree (by intro p hp;cases hp) (x,c) (PySem.mem_of_lookup e)
 refine ⟨I.ok.mod,ck.kind,I.ok.glob,I.ok.blt,hC,λx y c h1 h2=>I.ok.inj x y c (snd x c h1) (snd y c h2),λx hx=>?_,(by intro x c h;cases h),I.ok.hd,I.ok.frames,.inl rfl,λb hb=>⟨?_,λx c e=>?_⟩,λb o e=>I.bs b o e,
  le_trans I.ok.bsz I.sz,λb o e hb=>?_,λb hb hb2=>?_,I.stack,I.stkFree⟩
 ·exact qck (yc2 (.inl (ydh ck.nocell hx)))
 ·exact ne_of_lt (lt_of_lt_of_le (hfp b hb) hC)
 ·exact (f2 b hb).2.2.2.2.1 x c (snd x c e)
 ·rcases (f2 b hb).2.2.2.1 with z|z
  ·exact I.ok.noex b o e z
  ·exact absurd (lt_of_lt_of_le (lt_size e) (le_trans I.ok.bsz z)) (lt_irrefl _)
 ·obtain ⟨_,n1,n2,_⟩:=f2 b hb
  rcases mem_cons.mp (I.stkSub b hb2) with z|z
  ·exact n1 z
  ·exact n2 z
theorem comp_inv{C D:Addr}{h1:Heap}{tk:Nat}(I:Inv X pins σ H2 s2)(ck:CompOk X.N M ix scope X.env.scope)(hC:s2.heap.objs.size<=C)(hD:s2.heap.objs.size<=D)(hDC:C≠D)(f2:∀b∈fp,FpOk X pins H2 b)(hfp:∀b∈fp,b<s2.heap.objs.size)
  (old:∀b o,s2.heap.get? b=some o->h1.get? b=some o) (hn:h1.Ns C λ_=>none) (hnew:h1.get? D=some { cls:=.type "list",data:=.seq #[] }) :
  Inv (yau X M scope C fp s2 H2) [] (capS ix σ) (upd H2 D (.lst [])) { s2 with heap:=h1,toks:=tk }:=by
 have hfree:∀x∈scope.names,x.2=.free->∃c,X.env.cells.lookup x.1=some c:=λx hx e=>I.ok.has x.1 (ck.fr x hx e)
 have snd:∀x c,(clOf X.env.cells scope.names []).lookup x=some c->X.env.cells.lookup x=some c:=λx c e=>ybu (cs:=[]) hfree (by intro p hp;cases hp) (x,c) (PySem.mem_of_lookup e)
 have fD:H2 D=none:=I.hok.fresh hD
 refine ⟨comp_ok I ck hC f2 hfp,rfl,I.bare,Un.laid old hD fD,⟨_,hn,λi x v e1 e2 e3=>?_⟩,λx c e=>?_,?_,λx c e=>?_,(by intro p hp;cases hp),I.hok.laid (o:=.lst []) old hD ⟨zero_le _,[],0,.nil,hnew⟩,?_⟩
 ·obtain ⟨j,hj,hv⟩:∃j,ix[i]?=some (some j)/\σ[j]?=some (some v):=by
   unfold capS at e2
   rw[getElem?_map]at e2
   cases q:ix[i]? with
   |none=>rw[q]at e2;cases e2
   |some o=>
    rw[q]at e2
    cases o with
    |none=>cases e2
    |some j=>
     refine ⟨j,rfl,?_⟩
     have e2':(σ[j]?).getD none=some v:=Option.some.inj e2
     cases z:σ[j]? with
     |none=>rw[z]at e2';cases e2'
     |some y=>rw[z]at e2';rw[show y=some v from e2']
  obtain ⟨y,hm,hN,hf⟩:=ck.cap i j hj
  have e1':M[i]?=some x:=e1
  rw[hm]at e1';cases e1'
  obtain ⟨m,hnl,hl⟩:=I.loc
  have hmem:(x,NameKind.free)∈scope.names:=PySem.mem_of_lookup hf
  have hk:=ck.fr _ hmem rfl
  obtain ⟨u,ru,lk⟩:=hl j x v hN hv (hk.elim (λz=>.inr (.inl z)) λz=>.inr (.inr z))
  refine ⟨u,ru,.inr ⟨ycz hf,?_⟩⟩
  rcases lk with ⟨kl,_⟩|⟨_,c,hc,hcell⟩
  ·have kl':X.env.scope.names.lookup x=some .local:=kl
   rcases hk with z|z
   ·rw[z]at kl';cases kl'
   ·rw[z]at kl';cases kl'
  ·obtain ⟨c2,h2⟩:=qck (yc2 (cells:=X.env.cells) (cs:=[]) (.inl hmem))
   have h3:=snd x c2 h2
   rw[hc]at h3;cases h3
   obtain ⟨o,ho,hd⟩:=hcell
   exact ⟨c,h2,o,old c o ho,hd⟩
 ·obtain ⟨v,o,ho,hd⟩:=I.cell x c (snd x c e)
  exact ⟨v,o,old c o ho,hd⟩
 ·show upd H2 D (.lst []) C=none
  rw[qaf hDC]
  exact I.hok.fresh hC
 ·show upd H2 D (.lst []) c=none
  obtain ⟨v,z⟩:=I.cell x c (snd x c e)
  rw[qaf (ne_of_lt (lt_of_lt_of_le z.lt hD))]
  exact I.freeC x c (snd x c e)
 ·show (capS ix σ).length=M.length
  unfold capS
  rw[length_map,ck.len]
theorem qgz{C:Addr}{σ':St}{H':Hp}{s':Shared}{h2:Heap}{pl:List (Addr×Obj)}(I:Inv X pins σ H2 s2)(J:Inv (yau X M scope C fp s2 H2) pl σ' H' s')(f2:∀b∈fp,FpOk X pins H2 b)(sb:Heap.SameBut C s'.heap h2):Inv X pins σ H' { s' with heap:=h2 }:=by
 have hC:s2.heap.objs.size<=C:=J.ok.above
 refine I.call' (s':={ s' with heap:=h2 }) (ch:=fp) J.os (Un.butNew J.base hC sb) (λa o e=>?_) J.bare λb hb=>?_
 ·have fr:H' C=none:=J.free
  refine (J.hok a o e).stay (λc v hc q=>(sb.2 c ?_).trans q) (λ_ q=>q) λ_ _ q=>q
  rintro rfl
  rcases hc with z|z
  ·rw[<-z,fr]at e;cases e
  ·rw[fr]at z;cases z
 ·obtain ⟨_,n1,_,n3,n4,n5⟩:=f2 b hb
  exact ⟨n3,n1,n4,n5⟩
end
noncomputable def ya5(l l':St):Prop:=l'.length=l.length/\∀(i:Nat) (v:V),l[i]?=some (some v)->l'[i]?=some (some v)
theorem ya5.refl(l:St):ya5 l l:=⟨rfl,λ_ _ h=>h⟩
theorem ya5.set{l l':St}{i:Nat}{x:Option V}(h:ya5 l l')(hi:l[i]?=some none):ya5 l (l'.set i x):=by
 refine ⟨by rw[List.length_set];exact h.1,λj v e=>?_⟩
 by_cases hj:j=i
 ·subst hj;rw[hi]at e;cases e
 ·rw[List.getElem?_set_ne (Ne.symm hj)];exact h.2 j v e
noncomputable def tComp(wi:TI)(ix:List (Option Nat))(g:TG)(tt:TT)(te:TE):TE:=λσ H Q=>wi σ H λJ H1=>∀D,H1 D=none->∃W:Nat->Nat->Hp->Prop,(∃m,W 0 m (upd H1 D (.lst [])))/\∀i m H,W i m H->
 (J.stop i H/\Q (.ref D) H)\/(J.go i H/\∃N:Hp->Prop,(∀H',N H'->∃m',m' < m/\W (i+1) m' H')/\∀x H',J.yld i H x H'->g x (capS ix σ) H' λσ2 H2=>ya5 (capS ix σ) σ2/\tt σ2 H2 λb H3=>
  if b=true then te σ2 H3 λv H4=>∃ys,H4 D=some (.lst ys)/\ys.length<sizeLine/\N (upd H4 D (.lst (ys++[v]))) else N H3)
section
variable {X:Cx}{elt tg iter:Expr}{ifs:List Expr}{scope:Scope}{pos:Pos}{wi:TI}{g:TG}{tt:TT}{te:TE}{M:List Str}{ix:List (Option Nat)}
theorem ygo{pins:List (Addr×Obj)}{σ:St}{H2 H4:Hp}{s2 s4:Shared}{fp:List Addr}{it C D:Addr}{tn:Nat->Heap->Prop}{J:It}{R:Result->Shared->Prop}{QD:Hp->Prop}(I2:Inv X pins σ H2 s2)(hc:X.calm=true)
  (f2:∀b∈fp,FpOk X pins H2 b) (T:Turn X.prog X.w X.K tg J fp it tn)
  (hg:PG (yau X M scope C fp s2 H2) tg g) (ht:PTs (yau X M scope C fp s2 H2) ifs tt) (he:PE (yau X M scope C fp s2 H2) elt te)
  (I4:Inv (yau X M scope C fp s2 H2) [] (capS ix σ) H4 s4) (st4:tn 0 s4.heap) (fr4:∀b∈fp,H4 b=none) (W:Nat->Nat->Hp->Prop) (m0:Nat) (w0:W 0 m0 H4)
  (turn:∀i m H,W i m H->(J.stop i H/\QD H)\/(J.go i H/\∃N:Hp->Prop,(∀H',N H'->∃m',m' < m/\W (i+1) m' H')/\∀x H',J.yld i H x H'->g x (capS ix σ) H' λσ2 H2=>ya5 (capS ix σ) σ2/\tt σ2 H2 λb H3=>
   if b=true then te σ2 H3 λv H4=>∃ys,H4 D=some (.lst ys)/\ys.length<sizeLine/\N (upd H4 D (.lst (ys++[v]))) else N H3))
  (fin:∀H' s',Inv (yau X M scope C fp s2 H2) [] (capS ix σ) H' s'->QD H'->R (.ok .next) s') :
  codeAny (model X.prog X.w) X.A (.compLoop (.ListComp elt [⟨tg,iter,ifs,0⟩] scope pos) 0 (.ref it) (.ref D) (compEnvC scope (clOf X.env.cells scope.names []) C X.env)) R s4:=by
 have stat:∀{H':Hp},(∀b∈fp,H' b=none)->∀b∈fp,FpOk (yau X M scope C fp s2 H2) [] H' b:=λ{H'} hn b hb=>
  ⟨hn b hb,(I4.ok.exf b hb).1,I4.ok.exfs b hb,.inl hb,(I4.ok.exf b hb).2,by intro p hp;cases hp⟩
 refine codeAny_loop rfl (λn s'=>∃i H',Inv (yau X M scope C fp s2 H2) [] (capS ix σ) H' s'/\tn i s'.heap/\(∀b∈fp,H' b=none)/\W i n H') ?_ m0 ⟨0,H4,I4,st4,fr4,w0⟩
 rintro n s5 ⟨i,H5,I5,st5,fr5,w5⟩
 show wpAny (model X.prog X.w) X.A ((compTurn (.ListComp elt [⟨tg,iter,ifs,0⟩] scope pos) 0 (.ref it) (.ref D) (compEnvC scope (clOf X.env.cells scope.names []) C X.env)).onRaise (λx=>do noteFrame x (compEnvC scope (clOf X.env.cells scope.names []) C X.env);theTreesLotGoes x)) _ _ s5
 refine wpAny_noted ?_
 rw[compTurn_list]
 refine wpAny_bind (wpAny_standAt (wpAny_bind ?_))
 rcases turn i n H5 w5 with ⟨stop,qn⟩|⟨go,N,hN,step⟩
 ·refine thn (T.done (yau X M scope C fp s2 H2) rfl rfl rfl hc i [] s5 (capS ix σ) H5 _ I5 (stat fr5) st5 stop) λr s6 ⟨hr,I6⟩=>?_
  subst hr
  exact wpAny_pure (fin H5 s6 I6 qn)
 ·refine thn (T.item (yau X M scope C fp s2 H2) rfl rfl rfl hc i [] s5 (capS ix σ) H5 _ I5 (stat fr5) st5 go) λr s6 ⟨u,hr,h6⟩=>?_
  subst hr
  refine wpAny_bind (thn h6 λ_ s7 ⟨x,H7,I7,r7,y7,st7,fr7⟩=>?_)
  have I7':=I7.pinned (stat fr7) (T.obj _ _ st7)
  refine wpAny_bind (wpAny_mono (hg _ s7 (capS ix σ) H7 x u _ I7' r7 (step x H7 y7)) (λ_ s8 ⟨σ8,H8,I8,k8,q8⟩=>?_) λ_ _ z=>False.elim z)
  refine wpAny_bind (wpAny_mono (ht _ s8 σ8 H8 _ I8 q8) (λok s9 ⟨H9,I9,q9⟩=>?_) λ_ _ z=>False.elim z)
  have again:∀{Ha:Hp}{sa:Shared},Inv (yau X M scope C fp s2 H2) ([]++qeu fp s7.heap) σ8 Ha sa->N Ha->∃m,m<n/\∃i H',Inv (yau X M scope C fp s2 H2) [] (capS ix σ) H' sa/\tn i sa.heap/\(∀b∈fp,H' b=none)/\W i m H':=λ{Ha sa} Ia na=>by
   obtain ⟨m',hm,wa⟩:=hN Ha na
   refine ⟨m',hm,i+1,Ha,Ia.unpinned.weak k8.1.symm k8.2,T.keep _ _ _ st7 λb hb o e=>(Ia.pin (b,o) (mem_append_right _ (mem_append_right _ (ybx hb e)))).1,λb hb=>?_,wa⟩
   obtain ⟨o,e,d⟩:=T.obj _ _ st7 b hb
   exact (Ia.pin (b,o) (mem_append_right _ (mem_append_right _ (ybx hb e)))).2.1
  cases ok with
  |false=>exact wpAny_pure ⟨rfl,again I9 q9⟩
  |true=>
   refine wpAny_bind (wpAny_bind (wpAny_mono (he _ s9 σ8 H9 _ I9 q9) (λxv s10 ⟨v,H10,I10,r10,ys,hD,hl,q10⟩=>?_) λ_ _ z=>False.elim z))
   refine wpAny_bind (wpAny_mono (qa1 (X:=yau X M scope C fp s2 H2) _ s10 σ8 H10 (.ref D) [v] (.ref D) [xv] (λ_ H'=>N H') I10 rfl (.cons r10 .nil) ⟨D,ys,v,rfl,rfl,hD,hl,q10⟩) (λ_ s11 ⟨_,H11,I11,_,q11⟩=>?_) λ_ _ z=>False.elim z)
   exact wpAny_pure (wpAny_pure ⟨rfl,again I11 q11⟩)
theorem ydx{pins:List (Addr×Obj)}{σ:St}{H2:Hp}{s2:Shared}{fp:List Addr}{it:Addr}{tn:Nat->Heap->Prop}{J:It}{E:Value->Shared->Prop}{QD:Addr->Hp->Prop}{RR:Value->Addr->Result->Shared->Prop}(I2:Inv X pins σ H2 s2)(hc:X.calm=true)
  (ck:CompOk X.N M ix scope X.env.scope) (f2:∀b∈fp,FpOk X pins H2 b) (T:Turn X.prog X.w X.K tg J fp it tn) (st2:tn 0 s2.heap)
  (hg:∀C fp s2 H2,PG (yau X M scope C fp s2 H2) tg g) (ht:∀C fp s2 H2,PTs (yau X M scope C fp s2 H2) ifs tt) (he:∀C fp s2 H2,PE (yau X M scope C fp s2 H2) elt te)
  (rd:∀D,H2 D=none->∃W:Nat->Nat->Hp->Prop,(∃m,W 0 m (upd H2 D (.lst [])))/\∀i m H,W i m H->
   (J.stop i H/\QD D H)\/(J.go i H/\∃N:Hp->Prop,(∀H',N H'->∃m',m' < m/\W (i+1) m' H')/\∀x H',J.yld i H x H'->g x (capS ix σ) H' λσ2 H2=>ya5 (capS ix σ) σ2/\tt σ2 H2 λb H3=>
    if b=true then te σ2 H3 λv H4=>∃ys,H4 D=some (.lst ys)/\ys.length<sizeLine/\N (upd H4 D (.lst (ys++[v]))) else N H3))
  (fin:∀D C H' s',QD D H'->(∃m,s'.heap.Ns C m)->(∀h2,Heap.SameBut C s'.heap h2->Inv X pins σ H' { s' with heap:=h2 })->FpOk X pins H' C->RR (.ref D) C (.ok .next) s') :
  wpAny (model X.prog X.w) X.A (newList []) (λacc s3=>wpAny (model X.prog X.w) X.A (newFunctionEnv scope X.env.globals (clOf X.env.cells scope.names []) [] X.env.qual none .none (some X.env)) (λcenv s4=>
   codeAny (model X.prog X.w) X.A (.compStart (.ListComp elt [⟨tg,iter,ifs,0⟩] scope pos) 0 (.ref it) acc { cenv with scope:=relabel scope X.env }) (RR acc cenv.locals) s4) E s3) E s2:=by
 have hfp:∀b∈fp,b<s2.heap.objs.size:=λb hb=>by obtain ⟨o,e,_⟩:=T.obj 0 _ st2 b hb;exact lt_size e
 refine wpAny_newObj_type (wpAny_newFunctionEnv ck.nocell (by intro y hy;simp at hy) (λh1 hn1 hsb1=>?_) ck.kind)
 dsimp only at hn1 hsb1 ⊢
 generalize hP:s2.heap.push { cls:=.type "list",dict:=none,data:=.seq ([]:List Value).toArray }=hh at hn1 hsb1 ⊢
 have hCz:hh.objs.size=s2.heap.objs.size+1:=by rw[<-hP,size_push]
 have hCD:hh.objs.size≠s2.heap.objs.size:=by omega
 have old:∀b o,s2.heap.get? b=some o->h1.get? b=some o:=λb o e=>by
  have hb:b<s2.heap.objs.size:=lt_size e
  exact hsb1.extBut b o (ne_of_lt (by rw[hCz];exact Nat.lt_succ_of_lt hb)) (get?_push_of_some _ (hP ▸ get?_push_of_some _ e))
 have hnew:h1.get? s2.heap.objs.size=some { cls:=.type "list",data:=.seq #[] }:=hsb1.extBut _ _ hCD.symm (get?_push_of_some _ (hP ▸ get?_push_size _ rfl))
 obtain ⟨W,⟨m0,w0⟩,turn⟩:=rd s2.heap.objs.size (I2.hok.fresh (le_refl _))
 have I4:=comp_inv (M:=M) (ix:=ix) (scope:=scope) (fp:=fp) (tk:=s2.toks+([]:List (Str×Value)).length) I2 ck (C:=hh.objs.size) (D:=s2.heap.objs.size) (by omega) (le_refl _) hCD f2 hfp old hn1 hnew
 have st4:tn 0 h1:=T.keep _ _ _ st2 λb _ o e=>old b o e
 have fr4:∀b∈fp,upd H2 s2.heap.objs.size (.lst []) b=none:=λb hb=>by rw[qaf (ne_of_lt (hfp b hb))];exact (f2 b hb).1
 have lp:codeAny (model X.prog X.w) X.A (.compLoop (.ListComp elt [⟨tg,iter,ifs,0⟩] scope pos) 0 (.ref it) (.ref s2.heap.objs.size) (compEnvC scope (clOf X.env.cells scope.names []) hh.objs.size X.env)) (RR (.ref s2.heap.objs.size) hh.objs.size) { s2 with heap:=h1,toks:=s2.toks+([]:List (Str×Value)).length }:=by
  refine ygo (QD:=QD s2.heap.objs.size) I2 hc f2 T (hg _ _ _ _) (ht _ _ _ _) (he _ _ _ _) I4 st4 fr4 W m0 w0 turn λH' s' J' q'=>?_
  obtain ⟨m,hm,_⟩:=J'.loc
  exact fin _ _ H' s' q' ⟨m,hm⟩ (λh2 sb=>qgz I2 J' f2 sb) (I2.fpOk (by omega) J'.free)
 exact codeAny_compStart_list lp (T.self _ 0 _ _ _ st4 lp)
theorem ydl(hc:X.calm=true)(ck:CompOk X.N M ix scope X.env.scope)(hi:PI X tg iter wi)(hg:∀C fp s2 H2,PG (yau X M scope C fp s2 H2) tg g)(ht:∀C fp s2 H2,PTs (yau X M scope C fp s2 H2) ifs tt)(he:∀C fp s2 H2,PE (yau X M scope C fp s2 H2) elt te)
  (hs:∀x,foldedSetIterable iter X.env x=pure x:=by intro _;rfl):PE X (.ListComp elt [⟨tg,iter,ifs,0⟩] scope pos) (tComp wi ix g tt te):=by
 intro pins s σ H Q I h
 have hfree:∀x∈scope.names,x.2=.free->∃c,X.env.cells.lookup x.1=some c:=λx hx e=>I.ok.has x.1 (ck.fr x hx e)
 rw[eval_ListComp]
 refine wpAny_comprehension_free (use:=none) (cl:=clOf X.env.cells scope.names []) rfl hs (qbo hfree) ck.kind ck.loc (thn (hi pins s σ H _ I h) λv s1 h1=>thn h1 λitv s2 h2=>?_)
 obtain ⟨it,fp,tn,J,H2,e,I2,T,st2,f2,rd⟩:=h2
 subst e
 refine ydx (QD:=λD H'=>Q (.ref D) H') I2 hc ck f2 T st2 hg ht he rd λD C H' s' q hm hb _=>?_
 obtain ⟨m,hm⟩:=hm
 exact ⟨m,hm,λh2 sb=>⟨.ref D,H',hb h2 sb,rfl,q⟩⟩
noncomputable def tCompSet(wi:TI)(ix:List (Option Nat))(g:TG)(tt:TT)(te:TE)(i:Nat):TS:=λD σ H=>tComp wi ix g tt te σ H λx H1=>D.nx (σ.set i (some x)) H1
theorem qgu{i:Nat}{x:Str}{pos' spos:Pos}(hsw:swapsWith (.ListComp elt [⟨tg,iter,ifs,0⟩] scope pos) (some (.Name x pos')) spos.line X.env=pure true)(hN:X.N.Nodup)(hix:X.N[i]?=some x)(hx:Loc X.env.scope x)
  (hc:X.calm=true) (ck:CompOk X.N M ix scope X.env.scope) (hi:PI X tg iter wi) (hg:∀C fp s2 H2,PG (yau X M scope C fp s2 H2) tg g) (ht:∀C fp s2 H2,PTs (yau X M scope C fp s2 H2) ifs tt) (he:∀C fp s2 H2,PE (yau X M scope C fp s2 H2) elt te)
  (hs:∀x,foldedSetIterable iter X.env x=pure x:=by intro _;rfl) (hf:X.fn x=true\/X.env.scope.names.lookup x=some .local:=by first|exact .inl rfl|exact .inr rfl|assumption) :
  PS X (.Assign [.Name x pos'] (.ListComp elt [⟨tg,iter,ifs,0⟩] scope pos) spos) (tCompSet wi ix g tt te i):=by
 intro pins s σ H D0 I h
 have hfree:∀x∈scope.names,x.2=.free->∃c,X.env.cells.lookup x.1=some c:=λx hx e=>I.ok.has x.1 (ck.fr x hx e)
 rw[exec_Assign_Name_used _ _ _ _ hsw]
 refine wpAny_bind (wpAny_standAt (wpAny_bind ?_))
 show wpAny _ X.A (do let _ <-comprehension (.ListComp elt [⟨tg,iter,ifs,0⟩] scope pos) scope X.env _ (newList []) false (eval iter X.env) (some (assign (.Name x pos') X.env))) _ _ s
 refine wpAny_bind (wpAny_mono (wpAny_comprehension_free (use:=some (assign (.Name x pos') X.env)) (Q:=λ_ s'=>SP X pins D0 .next s') (cl:=clOf X.env.cells scope.names []) rfl hs (qbo hfree) ck.kind ck.loc
  (thn (hi pins s σ H _ I h) λv s1 h1=>thn h1 λitv s2 h2=>?_)) (λ_ s' hq=>wpAny_pure (wpAny_pure hq)) λ_ _ e=>e)
 obtain ⟨it,fp,tn,J,H2,e,I2,T,st2,f2,rd⟩:=h2
 subst e
 refine ydx (QD:=λD H'=>D0.nx (σ.set i (some (.ref D))) H') I2 hc ck f2 T st2 hg ht he rd λD C H' s' q hm hb fpk=>?_
 obtain ⟨m,hm⟩:=hm
 obtain ⟨g0,g1,g2,g3,g4,g5⟩:=fpk
 have I5:Inv X pins σ H' s':=hb s'.heap ⟨rfl,λ_ _=>rfl⟩
 show wpAny (model X.prog X.w) X.A (assign (.Name x pos') X.env (.ref D)) _ _ s'
 refine wpAny_assign_Name (yej (v:=.ref D) I5 hN hix hx rfl (λs6 I6 ⟨a,sb,ha⟩=>?_) hf)
 have hCa:C≠a:=by
  rcases ha with ha|ha
  ·rw[ha];exact g1
  ·exact (g4 x a ha).symm
 refine ⟨m,hm.sameBut sb hCa,λh2 sb2=>⟨_,H',I6.turned (t':=s6.toks) (λb o hb e=>(sb2.2 b hb).trans e) g0 g1 g3 g4 g5,q⟩⟩
end
noncomputable def FnAt(K:W.Frag)(mg:Str->Option Value)(x:Str)(st:Stmt)(ps:List Str):Prop:=∃f fd,mg x=some (.ref f)/\Fun K x x st f fd/\qbm K fd ps []
noncomputable def Has(P:Program)(w:World)(K:W.Frag)(mg:Str->Option Value)(base:Heap)(k:Nat)(x:Str)(ps:List Str)(sp:Sp):Prop:=
 ∃f fd,mg x=some (.ref f)/\W.keepIn K (.ref f)=true/\qbm K fd ps []/\FnOk P w K mg base CX0 k f fd ps sp
section
variable {P:Program}{w:World}{K:W.Frag}{mg:Str->Option Value}{base:Heap}
theorem Has.of{x:Str}{st:Stmt}{ps N:List Str}{k:Nat}{sp:Sp}(F:FnAt K mg x st ps)(S:FnScope N ps (yac st))(len:∀vs H Q E,sp vs H Q E->vs.length=ps.length)
  (hbody:∀(f:Addr) (cdv:Value) (A:Around) (outer:List Env) (s:Shared) (H:Hp) (vs:List V) (Q:VK) (E:XK),Room k (A.deeper (envOfC x (yac st) s.heap.objs.size f cdv))->sp vs H Q E->
   ∃t,PSs (cxOf CX0 P w K mg base N x (yac st) f cdv A outer s H E).nox (yak st) t/\t { nx:=λ_ H'=>Q .non H',rt:=Q } (yb6 N vs) H):Has P w K mg base (k+1) x ps sp:=by
 obtain ⟨f,fd,h1,h2,h3⟩:=F
 exact ⟨f,fd,h1,h2.kp,h3,h2.ok S len λcdv A outer s H vs Q E hr h=>hbody f cdv A outer s H vs Q E hr h⟩
end
section
variable {X:Cx}
theorem qaw{k m:Nat}{x:Str}{ps:List Str}{sp:Sp}{e:Expr}{es:List Expr}{t:TA}{p pos:Pos}(h:Has X.prog X.w X.K X.mg X.base k x ps sp)(hr:Room m X.A)(ha:PA X (e::es) t)(hk:k<=m:=by decide)(hg:Gl X x:=by rfl)
  (hdb:(x == ("__debug__" : Str))=false:=by decide) (he:starEach (e::es) X.env=(false,eval e X.env)::starEach es X.env:=by rfl) (hpl:(backTo pos (starEach es X.env)).any (·.1)=false:=by rfl) :
  PE X (.Call (.Name x p) (e::es) [] pos) (qg9 sp [] E0 t):=by
 obtain ⟨f,fd,h1,h2,h3,h4⟩:=h
 exact ygs h4 (hr.mono hk) hg h1 h2 h3 .nil pass0 ha hdb he hpl
noncomputable def yd7:List Str:=["len","abs","max","min","repr","isinstance","int","bool","str","tuple","list","dict","range","enumerate","sorted","sum"]
structure Bl(mg:Str->Option Value):Prop where
 all:∀x∈yd7,mg x=none
theorem Bl.of{mg:Str->Option Value}(B:Bl mg){x:Str}(h:yd7.contains x=true):mg x=none:=B.all x (by simpa using h)
noncomputable def GTup(K:W.Frag)(mg:Str->Option Value)(x:Str)(xs:List V):Prop:=∃a,mg x=some (.ref a)/\∀H,SqT K H a xs
theorem ye9{K:W.Frag}{mg:Str->Option Value}{x:Str}{a:Addr}{xs:List V}{od:Option Addr}{its:Array Value}{n:Nat}{sl:Array (Option Value)}(h1:mg x=some (.ref a))(h2:K.lookup a=some ⟨.type "tuple",od,.seq its n,sl⟩)
  (h3:its.size<=sizeLine) (h4:Vals xs its.toList):GTup K mg x xs:=⟨a,h1,λH=>.inr ⟨_,its,n,h2,rfl,rfl,h3,h4⟩⟩
noncomputable def tGT(K:W.Frag)(xs:List V):TE:=λ_ H Q=>∀a,(∀H',SqT K H' a xs)->Q (.ref a) H
theorem qd6{x:Str}{xs:List V}{pos:Pos}(h:GTup X.K X.mg x xs)(hg:Gl X x:=by rfl)(hd:(x == ("__debug__" : Str))=false:=by decide):PE X (.Name x pos) (tGT X.K xs):=by
 obtain ⟨a,h1,h2⟩:=h
 exact λpins s σ H Q I q=>yaq (v:=.ref a) hg h1 rfl hd pins s σ H Q I (q a h2)
theorem qb4{x:Str}{i:Int}{pos:Pos}(h:∃t,X.mg x=some (.int i t))(hg:Gl X x:=by rfl)(hd:(x == ("__debug__" : Str))=false:=by decide):PE X (.Name x pos) (tC (.int i)):=by
 obtain ⟨t,h1⟩:=h
 exact yaq (v:=.int i) hg h1 ⟨t,rfl⟩ hd
noncomputable def rIsi(K:W.Frag):List V->Hp->VK->Prop:=λxs H Q=>∃x T t b,xs=[x,.ty T]/\TyOf K H x t/\W.kitOne K t (.type T)=some b/\Q (.bl b) H
theorem qbu:qca X (.builtin "isinstance") (rIsi X.K):=by
 intro pins s σ H xs us Q I r h
 obtain ⟨x,T,t,b,rfl,ht,hk,q⟩:=h
 cases r with
 |cons r rr=>
  cases rr with
  |cons r' rr=>
   cases rr
   cases r'
   exact yf8 I r ht hk λtk=>⟨.bl b,H,I.tok _,rfl,q⟩
end
theorem Same.upd{H H1:Hp}{p:Addr}{o:HO}(s:Same H H1)(h:H1 p=none):Same H (upd H1 p o):=λb u e=>by
 have e1:=s b u e
 rw[qaf (qae e1 h)];exact e1
theorem Same.at{H H1:Hp}{p:Addr}{o:HO}(s:Same H H1)(h:H p=none):Same H (L2.upd H1 p o):=λb u e=>by
 rw[qaf (qae e h)];exact s b u e
theorem At.lstEq{H:Hp}{v:V}{ds:List PyData}(h:At H v (.list ds)):∃a vs,v=.ref a/\H a=some (.lst vs)/\AtAll H vs ds:=by
 cases h with
 |lst e t=>exact ⟨_,_,rfl,e,t⟩
noncomputable def yby(H:Hp)(L:List Addr):Hp:=λb=>if b∈L then none else H b
theorem qfy(H:Hp)(L:List Addr):Same (yby H L) H:=λb o e=>by
 unfold yby at e
 split at e
 ·cases e
 ·exact e
theorem ydc{H:Hp}{L:List Addr}{b:Addr}(h:b∉L):yby H L b=H b:=by unfold yby;rw[if_neg h]
theorem qdx{H H':Hp}(s:Same H H')(L:List Addr):Same (yby H L) (yby H' L):=λb o e=>by
 unfold yby at e ⊢
 split at e
 ·cases e
 ·rename_i h;rw[if_neg h];exact s b o e
theorem qg2{H:Hp}{L L':List Addr}(h:∀b∈L,b∈L'):Same (yby H L') (yby H L):=λb o e=>by
 unfold yby at e ⊢
 split at e
 ·cases e
 ·rename_i hn;rw[if_neg λz=>hn (h b z)];exact e
theorem ygv{H:Hp}{L:List Addr}{p:Addr}{o:HO}(h:p∈L):yby (upd H p o) L=yby H L:=by
 funext b
 unfold yby
 by_cases hb:b∈L
 ·rw[if_pos hb,if_pos hb]
 ·rw[if_neg hb,if_neg hb,qaf]
  rintro rfl
  exact hb h
noncomputable def Bld(L:List Addr)(H:Hp)(l:Addr)(ds:List PyData):Prop:=∃us,H l=some (.lst us)/\AtAll (yby H (l::L)) us ds
theorem Bld.new{L:List Addr}{H:Hp}{l:Addr}:Bld L (upd H l (.lst [])) l []:=⟨[],yaa,.nil⟩
theorem Bld.grow{L:List Addr}{H H':Hp}{l:Addr}{ds:List PyData}(b:Bld L H l ds)(s:Same H H'):Bld L H' l ds:=by
 obtain ⟨us,h1,h2⟩:=b
 exact ⟨us,s _ _ h1,h2.same (qdx s _)⟩
theorem Bld.push{L:List Addr}{H:Hp}{l:Addr}{ds:List PyData}{us:List V}{v:V}{d:PyData}(b:Bld L H l ds)(hu:H l=some (.lst us))(h:At (yby H (l::L)) v d):Bld L (upd H l (.lst (us++[v]))) l (ds++[d]):=by
 obtain ⟨us',h1,h2⟩:=b
 rw[hu]at h1;cases h1
 refine ⟨_,yaa,?_⟩
 rw[ygv mem_cons_self]
 exact h2.snoc h
theorem Bld.len{L:List Addr}{H:Hp}{l:Addr}{ds:List PyData}{us:List V}(b:Bld L H l ds)(hu:H l=some (.lst us)):us.length=ds.length:=by
 obtain ⟨us',h1,h2⟩:=b
 rw[hu]at h1;cases h1
 exact h2.length
theorem Bld.at{L:List Addr}{H:Hp}{l:Addr}{ds:List PyData}(b:Bld L H l ds)(h:l∉L):At (yby H L) (.ref l) (.list ds):=by
 obtain ⟨us,h1,h2⟩:=b
 exact .lst (by rw[ydc h];exact h1) (h2.same (qg2 λb hb=>mem_cons_of_mem _ hb))
theorem Bld.out{H:Hp}{l:Addr}{ds:List PyData}(b:Bld [] H l ds):At H (.ref l) (.list ds):=(b.at (by simp)).same (qfy _ _)
theorem ybd{n:Nat}(h:n<=100000):n<=sizeLine:=le_trans h (by decide)
theorem qcm{n:Nat}(h:n<=100000):n<sizeLine:=Nat.lt_of_le_of_lt h (by decide)
theorem yai{α:Type}{xs:List α}{i:Int}{v:α}(j:Nat)(h:xs[j]?=some v)(e:i=(j:Int):=by rfl):atI xs i=some v:=by
 rw[e];exact qe2 h
theorem qcb{J:It}{n:Nat}{g:TG}{tt:TT}{te:TE}{ix:List (Option Nat)}{σ:St}{H:Hp}{QD:Hp->Prop}{D:Addr}(Pv:Nat->Hp->Prop)(h0:Pv 0 (upd H D (.lst [])))(stop:∀H',Pv n H'->J.stop n H'/\QD H')
  (step:∀i H',i<n->Pv i H'->J.go i H'/\∀x H2,J.yld i H' x H2->g x (capS ix σ) H2 λσ2 H3=>ya5 (capS ix σ) σ2/\tt σ2 H3 λb H4=>
   if b=true then te σ2 H4 λv H5=>∃ys,H5 D=some (.lst ys)/\ys.length<sizeLine/\Pv (i+1) (upd H5 D (.lst (ys++[v]))) else Pv (i+1) H4) :
  ∃W:Nat->Nat->Hp->Prop,(∃m,W 0 m (upd H D (.lst [])))/\∀i m H,W i m H->
   (J.stop i H/\QD H)\/(J.go i H/\∃N:Hp->Prop,(∀H',N H'->∃m',m' < m/\W (i+1) m' H')/\∀x H',J.yld i H x H'->g x (capS ix σ) H' λσ2 H2=>ya5 (capS ix σ) σ2/\tt σ2 H2 λb H3=>
    if b=true then te σ2 H3 λv H4=>∃ys,H4 D=some (.lst ys)/\ys.length<sizeLine/\N (upd H4 D (.lst (ys++[v]))) else N H3):=by
 refine ⟨λi m H=>m=n-i/\i<=n/\Pv i H,⟨n,by simp,zero_le _,h0⟩,?_⟩
 rintro i m H ⟨rfl,hi,p⟩
 by_cases hlt:i<n
 ·obtain ⟨g1,g2⟩:=step i H hlt p
  exact .inr ⟨g1,Pv (i+1),λH' p'=>⟨n-(i+1),by omega,rfl,hlt,p'⟩,g2⟩
 ·have e:i=n:=by omega
  subst e
  exact .inl (stop H p)
theorem cut_take{xs:List V}(k:Nat):cutV xs none (some (k:Int))=xs.take k:=by
 unfold cutV
 rw[HT.sIx_none,HT.sIx_nat,List.drop_zero,Nat.sub_zero]
 by_cases h:k<=xs.length
 ·rw[Nat.min_eq_left h]
 ·rw[Nat.min_eq_right (by omega),take_length,List.take_of_length_le (by omega)]
theorem cut_drop{xs:List V}(k:Nat):cutV xs (some (k:Int)) none=xs.drop k:=by
 unfold cutV
 rw[HT.sIx_none,HT.sIx_nat]
 by_cases h:k<=xs.length
 ·rw[Nat.min_eq_left h]
  exact List.take_of_length_le (by rw[length_drop];exact le_refl _)
 ·rw[Nat.min_eq_right (by omega),List.drop_eq_nil_of_le (show xs.length<=k by omega),List.drop_length];simp
theorem yes{σ:St}{H:Hp}{A B:Hp->Prop}(h:A H):tYes σ H λb H'=>if b=true then A H' else B H':=iteT (B:=B H) h
section
variable {X:Cx}{K:W.Frag}
theorem yhe{es:List Expr}{k:Nat}{t:TGs}{n:Nat}{pos:Pos}(h:X.K=K)(hc:X.calm=true)(hh:PGs X es t)
  (hn:(assignEach es X.env).length=n:=by rfl) (hst:(assignEach es X.env).findIdx? (·.1)=none:=by rfl):PG X (.Tuple es k pos) (gTup K n t):=by
 subst h;exact qds hc hh hn hst
end
noncomputable def rEqD:R2:=λx y H Q=>∃dx dy,At H x dx/\At H y dy/\dx.canLay0=true/\dy.canLay0=true/\dx.depth<=60/\Q (.bl (PyData.eqv dx dy)) H
noncomputable def rNeD:R2:=λx y H Q=>∃dx dy,At H x dx/\At H y dy/\dx.canLay0=true/\dy.canLay0=true/\dx.depth<=60/\Q (.bl (!PyData.eqv dx dy)) H
section
variable {X:Cx}
theorem op_eqD{k:Nat}(hr:Room k X.A):OpR X (compareOp .Eq) rEqD:=by
 intro pins s σ H x y v u Q I rx ry h
 obtain ⟨dx,dy,h1,h2,c1,c2,hd,q⟩:=h
 obtain ⟨as,r1⟩:=h1.reads I.hok rx
 obtain ⟨bs,r2⟩:=h2.reads I.hok ry
 have hu:=hr.units
 exact PySem.SeqAt.rcAt_reads r1 r2 c1 c2 (by have:=Nat.min_le_left dx.depth dy.depth;omega) _ _ _ _ ⟨.bl _,H,I,rfl,q⟩
theorem yc0{k:Nat}(hr:Room k X.A):OpR X (compareOp .NotEq) rNeD:=by
 intro pins s σ H x y v u Q I rx ry h
 obtain ⟨dx,dy,h1,h2,c1,c2,hd,q⟩:=h
 obtain ⟨as,r1⟩:=h1.reads I.hok rx
 obtain ⟨bs,r2⟩:=h2.reads I.hok ry
 have hu:=hr.units
 exact PySem.SeqAt.rcNeAt_reads r1 r2 c1 c2 (by have:=Nat.min_le_left dx.depth dy.depth;omega) _ _ _ _ ⟨.bl _,H,I,rfl,q⟩
end
end L2
namespace L2
open PySem PySem.Spec PyProof.Rows PySem.W
abbrev bmV:List Value:=[.type "ValueError",.type "Exception",.type "BaseException",.type "object"]
noncomputable def qci(K:W.Frag)(C:Addr):Bool:=match K.lookup C with
 |some ⟨.type "type",_,.cls cd,sl⟩=>(match cd.mro,sl.toList with
  |.ref D::bm,[_,_,_,_,some (.builtin n),_]=>D == C&&n == "ValueError.__new__" && !cd.hasDel&&cd.hasDict&&W.tailIn K bmV bm
  |_,_=>false)
 |_=>false
theorem qb8{K:W.Frag}{h:Heap}{C:Addr}(X:K.In h)(q:qci K C=true):∃nm qn N bs bm sn sub ab col dd k0 k1 k2 k3 k5,
  h.get? C=some (excClassObj nm qn C N bs bm true sn sub ab col dd k0 k1 k2 k3 k5 "ValueError.__new__")/\OwnTail h bmV bm:=by
 unfold qci at q
 split at q
 ·rename_i dd cd sl ho
  split at q
  ·rename_i D bm k0 k1 k2 k3 n k5 hm hs
   simp only[Bool.and_eq_true,beq_iff_eq,Bool.not_eq_true']at q
   obtain ⟨⟨⟨⟨rfl,rfl⟩,hdel⟩,hdi⟩,ht⟩:=q
   obtain ⟨nm,bs,mro,ns,qn,hd,sn,sub,ab,col,del⟩:=cd
   dsimp only at hm hdel hdi
   subst hm hdel hdi
   obtain ⟨l⟩:=sl
   simp only at hs
   subst hs
   exact ⟨nm,qn,ns,bs,bm,sn,sub,ab,col,dd,k0,k1,k2,k3,k5,X _ _ ho,tail_of_in X ht⟩
  ·cases q
 ·cases q
section
variable {prog:Program}{w:World}{A:Around}{E:Value->Shared->Prop}{h:Heap}{g:Array GenState}{d:Drawn}{t:Nat}{os:OsState}{K:W.Frag}{C fI:Addr}
theorem qer{rest:List Value}{Q:Fin->Shared->Prop}(X:K.In h)(cx:qci K C=true)(hi:W.findIn K (.ref C) "__init__"=some (some (.ref fI)))(hf:W.isFn K (.ref fI)=true)
  (hq:∀h' e,Heap.MadeExcOf h h' e (.ref C) rest->wpAny (model prog w) A (call (.ref fI) (.ref e::rest)) (λr s'=>r=.none/\Q (.done (.ret (.ref e))) s') E ⟨h',g,d,t,os⟩) (hrest:rest.length<=sizeLine) :
  wpAny (model prog w) A (Builtin.«type.__call__» ⟨.ref C::rest,[]⟩) Q E ⟨h,g,d,t,os⟩:=by
 obtain ⟨nm,qn,N,bs,bm,sn,sub,ab,col,dd,k0,k1,k2,k3,k5,cC,T⟩:=qb8 X cx
 repeat (first|with_reducible refine wpAny_loadPart_at cC ?_|with_reducible refine wpAny_madeBy_exc cC ?_|wp_step)
 refine codeAny_call_builtin_code (Code.quiet_builtin _ PySem.F.excBase_ValueError.quiet) (wpAny_check_new_subU PySem.F.excBase_ValueError PySem.F.excBase_ValueError.hasB T cC ?_)
 refine codeAny_exc_new_subU PySem.F.excBase_ValueError PySem.F.excBase_ValueError.hasB PySem.F.excBase_ValueError T cC ?_ hrest
 show wpAny _ _ _ _ _ _
 generalize hp1:h.push { cls:=.type "tuple",data:=.seq rest.toArray }=h1
 have kp1:∀b o,h.get? b=some o->h1.get? b=some o:=λb o e=>by rw[<-hp1];exact get?_push_of_some _ e
 have tp1:h1.get? h.objs.size=some { cls:=.type "tuple",data:=.seq rest.toArray }:=by rw[<-hp1];exact Heap.get?_push_at rfl rfl
 have sz1:h1.objs.size=h.objs.size+1:=by rw[<-hp1,size_push]
 generalize hp2:h1.push { cls:=.ref C,data:=.fields #[.ref h.objs.size,.none,.none,.none,.bool false,.none] }=h2
 have kp2:∀b o,h.get? b=some o->h2.get? b=some o:=λb o e=>by rw[<-hp2];exact get?_push_of_some _ (kp1 b o e)
 have tp2:h2.get? h.objs.size=some { cls:=.type "tuple",data:=.seq rest.toArray }:=by rw[<-hp2];exact get?_push_of_some _ tp1
 have ge2:h2.get? (h.objs.size+1)=some { cls:=.ref C,data:=.fields #[.ref h.objs.size,.none,.none,.none,.bool false,.none] }:=by rw[<-hp2,<-sz1];exact get?_push_size _ rfl
 have X2:K.In h2:=X.keeps kp2
 have cC2:=kp2 _ _ cC
 have hcC:(Value.ref C::bm).contains (.ref C)=true:=by simp
 unfold isInstance
 repeat (first|with_reducible refine wpAny_loadPart_at ge2 ?_|(with_reducible refine wpAny_isSubtype_exc cC2 ?_;rw[hcC])|wp_step)
 show wpAny _ _ (typeLookup (.ref C) _) _ _ _
 refine (looks_findIn X2 hi).here ?_
 refine wpAny_holding (wpAny_bind ((bind_fn X2 (.ref (h.objs.size+1)) (beq_iff_eq.mp hf)).here ?_))
 refine wpAny_bind (wpAny_mono (hq h2 (h.objs.size+1) ⟨kp2,Heap.get?_none_of_le (Nat.le_succ _),h.objs.size,ge2,Heap.get?_none_of_le (le_refl _),tp2⟩) (λr s' hr=>?_) λ_ _ z=>z)
 obtain ⟨rfl,hQ⟩:=hr
 wp_walk
 exact hQ
theorem xc_call{rest:List Value}{Q:Value->Shared->Prop}(X:K.In h)(cx:qci K C=true)(hi:W.findIn K (.ref C) "__init__"=some (some (.ref fI)))(hf:W.isFn K (.ref fI)=true)
  (hq:∀h' e,Heap.MadeExcOf h h' e (.ref C) rest->wpAny (model prog w) (A.under (.builtin "type.__call__" ⟨.ref C::rest,[]⟩)) (call (.ref fI) (.ref e::rest)) (λr s'=>r=.none/\Q (.ref e) s') E ⟨h',g,d,t,os⟩) (hrest:rest.length<=sizeLine) :
  wpAny (model prog w) A (call (.ref C) rest) Q E ⟨h,g,d,t,os⟩:=by
 obtain ⟨nm,qn,N,bs,bm,sn,sub,ab,col,dd,k0,k1,k2,k3,k5,cC,T⟩:=qb8 X cx
 have g1:=tc_lookup
 have g2:=tc_bind (.ref C)
 have gT:(⟨h,g,d,t,os⟩:Shared).TypeIs (.ref C) "type":=⟨_,cC,rfl⟩
 refine wpAny_call (codeAny_of_tree ?_)
 show wpAny _ _ (callAny (.ref C) _) _ _ _
 repeat (any_goals (first|assumption|with_reducible refine wpAny_loadPart_at cC ?_|wp_step))
 refine ⟨rfl,codeAny_call_builtin_at (Code.quiet_builtin _ (by decide +kernel)) entry_typeCall (wpAny_check_type_call_sub cC (qer X cx hi hf (λh' e hm=>hq h' e hm) hrest))⟩
theorem xc_call0{rest:List Value}{Q:Value->Shared->Prop}(X:K.In h)(q:W.excIn K C bmV "ValueError.__new__"=true)(hq:∀h' e,Heap.MadeExcOf h h' e (.ref C) rest->Q (.ref e) ⟨h',g,d,t,os⟩)(hrest:rest.length<=sizeLine) :
  wpAny (model prog w) A (call (.ref C) rest) Q E ⟨h,g,d,t,os⟩:=by
 unfold W.excIn at q
 split at q
 ·rename_i dd cd sl ho
  split at q
  ·rename_i C' bm k0 k1 k2 k3 n k5 hm hs
   simp only[Bool.and_eq_true,beq_iff_eq,Bool.not_eq_true']at q
   obtain ⟨⟨⟨⟨⟨rfl,rfl⟩,hdel⟩,ht⟩,hok⟩,hni⟩:=q
   obtain ⟨nm,bs,mro,ns,qn,hd,sn,sub,ab,col,del⟩:=cd
   dsimp only at hm hdel hok hni
   subst hm hdel
   obtain ⟨l⟩:=sl
   simp only at hs
   subst hs
   exact wpAny_call_exc_subU PySem.F.excBase_ValueError PySem.F.excBase_ValueError.hasB PySem.F.excBase_ValueError (tail_of_in X ht) (X _ _ ho) (.of_isNs (isNs_of_in X hok)) (nsMap_none_of_in X hok hni) hq hrest
  ·cases q
 ·cases q
end
theorem qe8{h:Heap}{bm:List Value}(T:OwnTail h bmV bm)(self:Value):refuseLoop self "__setattr__" bm=pure ():=by
 induction T with
 |base=>exact PySem.F.store_ValueError.passes self
 |own _ _ _ _ ih=>rw[refuseLoop_ref];exact ih
section
variable {prog:Program}{w:World}{A:Around}{E:Value->Shared->Prop}{h:Heap}{g:Array GenState}{d:Drawn}{t:Nat}{os:OsState}{K:W.Frag}{C x:Addr}{mA:Str->Option Value}{name:Str}{v:Value}
theorem qfh{M:Model}{o:Obj}{nameV:Value}{Q:Unit->Shared->Prop}(X:K.In h)(cx:qci K C=true)(hx:h.get? x=some o)(hc:o.cls=.ref C)(hq:Q () ⟨h,g,d,t,os⟩) :
  wpAny M A (checkBuiltinCall "object.__setattr__" ⟨[.ref x,nameV,v],[]⟩) Q E ⟨h,g,d,t,os⟩:=by
 obtain ⟨nm,qn,N,bs,bm,sn,sub,ab,col,dd,k0,k1,k2,k3,k5,cC,T⟩:=qb8 X cx
 have SF:=PySem.F.store_ValueError
 have hob:(Value.ref C::bm).contains (.type "object")=true:=by rw[List.contains_cons,T.hasType SF.hasOwner,Bool.or_true]
 have hargs:=SF.args (.ref x) nameV v
 simp only[checkBuiltinCall,SF.kind,SF.split]
 refine wpAny_bind ?_
 unfold isInstance
 repeat (first|(with_reducible refine wpAny_loadPart_at hx ?_;rw[hc])|(with_reducible refine wpAny_isSubtype_exc cC ?_;rw[hob])|wp_step)
 exact hq
theorem qdo{tk:Tok}{Q:Fin->Shared->Prop}{ns:List Str}(X:K.In h)(cx:qci K C=true)(hna:W.findIn K (.ref C) name=some none)(I:h.Inst x C mA)
  (hq:∀h' tk',h'.Inst x C (λy=>if y=name then some v else mA y)->
   (∀b o,b≠x->(∀o0 dx,h.get? x=some o0->o0.dict=some dx->b≠dx)->h.get? b=some o->h'.get? b=some o)->
   (∀o0,h.get? x=some o0->∃o1,h'.get? x=some o1/\o1.cls=o0.cls/\o1.data=o0.data/\(∀dx,o0.dict=some dx->o1.dict=some dx)/\(o0.dict=none->o1.dict=some h.objs.size))->Q (.done (.ret .none)) ⟨h',g,d,tk',os⟩)
  (hw:Within mA ns) (hsz:ns.length+1<=sizeLine) :
  wpAny (model prog w) A (Builtin.«object.__setattr__» ⟨[.ref x,.str name tk,v],[]⟩) Q E ⟨h,g,d,t,os⟩:=by
 obtain ⟨nm,qn,N,bs,bm,sn,sub,ab,col,dd,k0,k1,k2,k3,k5,cC,T⟩:=qb8 X cx
 obtain ⟨o,hx,hc,hnc,hd⟩:=I
 have hpass:=qe8 T (.ref x)
 unfold Builtin.«object.__setattr__»
 repeat (first|rw[refuse_eq]|(rw[refuseLoop_ref,hpass])|(with_reducible refine wpAny_loadPart_at hx ?_;rw[hc])|with_reducible refine wpAny_mroOf_exc cC ?_|with_reducible refine (looks_findIn X hna).here ?_|wp_step)
 have put:∀(dx:Addr) (h1:Heap) (mB:Str->Option Value) (ms:List Str),h1.Ns1 dx mB->Within mB ms->ms.length+1<=sizeLine->
   (∀h' tk',h'.Ns1 dx (λy=>if y=name then some v else mB y)->Heap.SameBut dx h1 h'->Q (.done (.ret .none)) ⟨h',g,d,tk',os⟩)->
   wpAny (model prog w) A (Builtin.ObjectAttr.storeInDict dx (.str name tk) name v) Q E ⟨h1,g,d,t,os⟩:=λdx h1 mB ms n1 wi le fin=>by
  unfold Builtin.ObjectAttr.storeInDict Builtin.ObjectAttr.newKeyGuard
  refine wpAny_bind (wpAny_pure (wpAny_bind (wpAny_nsSet1 n1 λh' n2 sb=>?_)))
  obtain ⟨oD,eD,pD,oE,dE,cE⟩:=n2.count (Within.cons name v wi)
  refine wpAny_bind (wpAny_lookBehind oE (by rw[dE];exact pastItsLine_dict (le_trans cE (by rw[length_cons];omega))) ?_)
  wp_walk
  exact fin h' _ n2 sb
 rcases hd with ⟨hdn,hmA⟩|⟨dx,hdx,hne,hns⟩
 ·rw[hdn]
  have hif:¬ ((!true || !typeHasDict (Value.ref C))=true):=by simp[typeHasDict]
  show wpAny _ _ (if (!true || !typeHasDict (Value.ref C))=true then _ else _) _ _ _
  rw[if_neg hif]
  have hxs:x≠h.objs.size:=ne_of_lt (lt_size hx)
  have px:(h.push { cls:=.type "dict",data:=.dict #[] }).get? x=some o:=get?_push_of_some _ hx
  split
  ·rename_i c hcd
   exact absurd hcd (hnc c)
  ·refine wpAny_bind (wpAny_alloc' (wpAny_bind (wpAny_update' px (wpAny_pure ?_))))
   have dg:((h.push { cls:=.type "dict",data:=.dict #[] }).update x λo=>{ cls:=o.cls,dict:=some h.objs.size,data:=o.data,slots:=o.slots }).get? h.objs.size=some { cls:=.type "dict",data:=.dict #[] }:=
    (Heap.get?_update_ne _ _ _ _ hxs.symm).trans (Heap.get?_push_at rfl rfl)
   have dn:((h.push { cls:=.type "dict",data:=.dict #[] }).update x λo=>{ cls:=o.cls,dict:=some h.objs.size,data:=o.data,slots:=o.slots }).Ns h.objs.size (λ_=>none):=
    ⟨_,#[],_,dg,rfl,(by intro e he;exact absurd he (by simp)),λ_=>rfl⟩
   refine put h.objs.size _ _ [] (Heap.Ns1.of_empty dn) Within.nil (by rw[sizeLine_eq];decide) λh' tk' n2 sb=>?_
   have gx:h'.get? x=some { cls:=o.cls,dict:=some h.objs.size,data:=o.data,slots:=o.slots }:=by
    refine (sb.2 x hxs).trans (Heap.get?_update_self _ px ?_)
    have fr:=(Heap.get?_some_iff.mp hx).2
    obtain ⟨oc,od,odt,osl⟩:=o
    cases odt<;>first|rfl|exact fr
   refine hq h' tk' ⟨_,gx,hc,hnc,.inr ⟨h.objs.size,rfl,hxs.symm,?_⟩⟩ (λb ob hbx _ hb=>?_) (λo0 e0=>?_)
   ·have em:(λy=>if y=name then some v else mA y)=(λy=>if y=name then some v else (none:Option Value)):=by
     funext y
     by_cases hy:y=name
     ·simp[hy]
     ·simp[hy,hmA y]
    rw[em];exact n2
   ·exact (sb.2 b (ne_of_lt (lt_size hb))).trans ((Heap.get?_update_ne _ _ _ _ hbx).trans (get?_push_of_some _ hb))
   ·rw[hx]at e0;cases e0
    exact ⟨_,gx,rfl,rfl,(by intro dx e;rw[hdn]at e;cases e),λ_=>rfl⟩
 ·rw[hdx]
  refine wpAny_pure ?_
  refine put dx h mA ns hns hw hsz λh' tk' n2 sb=>?_
  refine hq h' tk' ⟨o,(sb.2 x hne.symm).trans hx,hc,hnc,.inr ⟨dx,hdx,hne,n2⟩⟩ (λb ob _ hbd hb=>(sb.2 b (hbd o dx hx hdx)).trans hb) (λo0 e0=>⟨o0,(sb.2 x hne.symm).trans e0,rfl,rfl,λ_ e=>e,λe=>?_⟩)
  rw[hx]at e0;cases e0
  rw[hdx]at e;cases e
theorem xc_store{Q:Unit->Shared->Prop}{ns:List Str}(X:K.In h)(cx:qci K C=true)(hsa:W.findIn K (.ref C) "__setattr__"=some (some (.builtin "object.__setattr__")))(hna:W.findIn K (.ref C) name=some none)(I:h.Inst x C mA)
  (hq:∀h' tk',h'.Inst x C (λy=>if y=name then some v else mA y)->
   (∀b o,b≠x->(∀o0 dx,h.get? x=some o0->o0.dict=some dx->b≠dx)->h.get? b=some o->h'.get? b=some o)->
   (∀o0,h.get? x=some o0->∃o1,h'.get? x=some o1/\o1.cls=o0.cls/\o1.data=o0.data/\(∀dx,o0.dict=some dx->o1.dict=some dx)/\(o0.dict=none->o1.dict=some h.objs.size))->Q () ⟨h',g,d,tk',os⟩)
  (hw:Within mA ns) (hsz:ns.length+1<=sizeLine):wpAny (model prog w) A (setAttr (.ref x) name v) Q E ⟨h,g,d,t,os⟩:=by
 obtain ⟨o,hx,hc,_⟩:=id I
 have SF:=PySem.F.store_ValueError
 have b3:=SF.slot.bind (.ref x)
 unfold setAttr callSpecial? specialOf
 repeat (any_goals (first|assumption|(with_reducible refine wpAny_loadPart_at hx ?_;rw[hc])|with_reducible refine (looks_findIn X hsa).here ?_|wp_step))
 refine codeAny_call_builtin SF.slot.plain SF.entry (qfh X cx hx hc (qdo X cx hna I (λh' tk' I' hk hsame=>?_) hw hsz))
 repeat (any_goals (first|assumption|wp_step))
 exact hq h' tk' I' hk hsame
theorem yc8{M:Model}{o:Obj}{nameV:Value}{Q:Unit->Shared->Prop}(X:K.In h)(cx:qci K C=true)(hx:h.get? x=some o)(hc:o.cls=.ref C)(hq:Q () ⟨h,g,d,t,os⟩) :
  wpAny M A (checkBuiltinCall "BaseException.__getattribute__" ⟨[.ref x,nameV],[]⟩) Q E ⟨h,g,d,t,os⟩:=by
 obtain ⟨nm,qn,N,bs,bm,sn,sub,ab,col,dd,k0,k1,k2,k3,k5,cC,T⟩:=qb8 X cx
 have kd:builtinKind "BaseException.__getattribute__"=some .slot:=by decide +kernel
 have sp:splitId "BaseException.__getattribute__"=some ("BaseException","__getattribute__"):=by decide +kernel
 have hob:(Value.ref C::bm).contains (.type "BaseException")=true:=by rw[List.contains_cons,T.hasType PySem.F.excBase_ValueError.hasBase];rfl
 have ar:=PySem.F.args_bexc_ga (.ref x) nameV
 simp only[checkBuiltinCall,kd,sp]
 refine wpAny_bind ?_
 unfold isInstance
 repeat (first|(with_reducible refine wpAny_loadPart_at hx ?_;rw[hc])|(with_reducible refine wpAny_isSubtype_exc cC ?_;rw[hob])|wp_step)
 exact hq
theorem yea{tk:Tok}{Q:Fin->Shared->Prop}(X:K.In h)(cx:qci K C=true)(hna:W.findIn K (.ref C) name=some none)(I:h.Inst x C mA)(hv:mA name=some v)(hq:Q (.done (.ret v)) ⟨h,g,d,t,os⟩) :
  wpAny (model prog w) A (Builtin.«object.__getattribute__» ⟨[.ref x,.str name tk],[]⟩) Q E ⟨h,g,d,t,os⟩:=by
 obtain ⟨nm,qn,N,bs,bm,sn,sub,ab,col,dd,k0,k1,k2,k3,k5,cC,T⟩:=qb8 X cx
 obtain ⟨o,hx,hc,hnc,hd⟩:=I
 rcases hd with ⟨_,hmA⟩|⟨dx,hdx,hne,hns⟩
 ·rw[hmA name]at hv;cases hv
 repeat (any_goals (first|assumption|(with_reducible refine wpAny_loadPart_at hx ?_;rw[hc])|with_reducible refine (looks_findIn X hna).here ?_|wp_step))
 split
 ·rename_i c hcd
  exact absurd hcd (hnc c)
 unfold instanceDict
 repeat (first|(with_reducible refine wpAny_loadPart_at hx ?_;rw[hc])|with_reducible refine wpAny_loadPart_at cC ?_|wp_step)
 rw[hdx]
 repeat (first|(with_reducible refine wpAny_nsGet hns.ns ?_;rw[hv])|wp_step)
 exact hq
theorem xc_load{expr:Bool}{Q:Value->Shared->Prop}(X:K.In h)(cx:qci K C=true)(hga:W.findIn K (.ref C) "__getattribute__"=some (some (.builtin "BaseException.__getattribute__")))(hgh:W.findIn K (.ref C) "__getattr__"=some none)
  (hna:W.findIn K (.ref C) name=some none) (I:h.Inst x C mA) (hv:mA name=some v) (hh:handedOut v=pure v) (hq:Q v ⟨h,g,d,t+1,os⟩) :
  wpAny (model prog w) A (getAttr (.ref x) name expr) Q E ⟨h,g,d,t,os⟩:=by
 obtain ⟨o,hx,hc,_⟩:=id I
 have FV:=PySem.F.excAttr_ValueError
 have q3:=FV.ga.bind (.ref x)
 have e0:(expr&&onTheHeap (Value.builtin "BaseException.__getattribute__"))=false:=by cases expr<;>rfl
 have e2:(Value.builtin "BaseException.__getattribute__" == Value.builtin "object.__getattribute__")=false:=by decide +kernel
 have e1:(onTheHeap (Value.ref C)&&Value.builtin "BaseException.__getattribute__" == Value.builtin "object.__getattribute__")=false:=by rw[e2];rfl
 unfold getAttr getAttrBy
 repeat (any_goals (first|assumption|(with_reducible refine wpAny_loadPart_at hx ?_;rw[hc])|with_reducible refine (looks_findIn X hga).here ?_|with_reducible refine (looks_findIn X hgh).here ?_|wp_step))
 refine codeAny_call_builtin FV.ga.plain PySem.F.entry_bexc_ga (yc8 X cx hx hc (yea X cx hna I hv ?_))
 show wpAny _ _ (handedOut v) _ _ _
 rw[hh]
 exact wpAny_pure hq
end
structure XTy(K:W.Frag)(C:Addr):Prop where
 cx:qci K C=true
 ga:W.findIn K (.ref C) "__getattribute__"=some (some (.builtin "BaseException.__getattribute__"))
 gh:W.findIn K (.ref C) "__getattr__"=some none
 hc:(W.clsIn K C).isSome=true
 ha:W.findIn K (.ref C) "__class__"=some (some (.builtin "object.__class__"))
 hn:W.specialIn K (.builtin "object.__class__") "__get__"=some (some (.builtin "getset_descriptor.__get__"))
 tk:W.takesIn K (.builtin "object.__class__")=some true
 hm:W.mroIn K C (.type "object")=some true
section
variable {prog:Program}{w:World}{A:Around}{E:Value->Shared->Prop}{s:Shared}{K:W.Frag}{x C:Addr}{ox:Obj}{od:Option Obj}
theorem XTy.find(T:XTy K C):W.findObj K C od "__class__"=some (.bind (.builtin "getset_descriptor.__get__") (.builtin "object.__class__")):=by
 obtain ⟨cd,hc⟩:=Option.isSome_iff_exists.mp T.hc
 unfold W.findObj
 rw[hc,Option.bind_some,T.ha,Option.bind_some]
 simp[T.hn,T.tk]
theorem xc_class{Q:Option Value->Shared->Prop}(X:K.In s.heap)(T:XTy K C)(I:W.InstAt s.heap x ox C od)(q:Q (some (.ref C)) { s with toks:=s.toks+1 }):wpAny (model prog w) A (getAttr? (.ref x) "__class__") Q E s:=by
 obtain ⟨h,g,d,t,os⟩:=s
 replace X:K.In h:=X
 replace I:W.InstAt h x ox C od:=I
 have FV:=PySem.F.excAttr_ValueError
 have q3:=FV.ga.bind (.ref x)
 have e0:(false&&onTheHeap (Value.builtin "BaseException.__getattribute__"))=false:=rfl
 have hx:=I.at_
 have hc:=I.cls
 have e2:(Value.builtin "BaseException.__getattribute__" == Value.builtin "object.__getattribute__")=false:=by decide +kernel
 have e1:(onTheHeap (Value.ref C)&&Value.builtin "BaseException.__getattribute__" == Value.builtin "object.__getattribute__")=false:=by rw[e2];rfl
 unfold getAttr? getAttrBy? getAttrBy
 repeat (any_goals (first|assumption|(with_reducible refine wpAny_loadPart_at hx ?_;rw[hc])|with_reducible refine (looks_findIn X T.ga).here ?_|with_reducible refine (looks_findIn X T.gh).here ?_|wp_step))
 refine codeAny_call_builtin FV.ga.plain PySem.F.entry_bexc_ga (yc8 X T.cx hx hc ?_)
 unfold Builtin.«object.__getattribute__»
 repeat (any_goals (first|assumption|(with_reducible refine wpAny_loadPart_at hx ?_;rw[hc])|with_reducible refine (looks_find X I T.find).here ?_|wp_step))
 refine class_get (s:=⟨h,g,d,t+1,os⟩) X I T.hm ?_
 show wpAny _ _ (ret (.ref C)) _ _ _
 refine wpAny_pure ?_
 show wpAny _ _ (handedOut (.ref C)) _ _ _
 exact handed_on rfl (wpAny_pure q)
theorem kitx_xc(T:XTy K C):KitX K (.ref x) (.ref C) (λh=>∃ox od,W.InstAt h x ox C od) where
 ty:=λ_ _ _ ⟨_,_,I⟩=>I.type
 it:=λ_ _ X _=>by
  obtain ⟨cd,hc⟩:=Option.isSome_iff_exists.mp T.hc
  unfold W.clsIn at hc
  split at hc
  ·rename_i c' d' cd' sl' ho
   intro A' Q' E' s' k q
   unfold isType loadHead
   exact wpAny_bind (wpAny_loadPart (k _ _ (X _ _ ho)) (wpAny_pure q))
  ·cases hc
 ne:=λh tp dd its n sl X htp=>by
  obtain ⟨cd,hc⟩:=Option.isSome_iff_exists.mp T.hc
  refine Bool.eq_false_iff.mpr λq=>?_
  have e:C=tp:=Value.ref.inj (beq_iff_eq.mp q)
  subst e
  unfold W.clsIn at hc
  split at hc
  ·rename_i c' d' cd' sl' ho
   have z:=(X _ _ ho).symm.trans htp
   cases z
  ·cases hc
 ca:=λX ⟨_,_,I⟩ k=>xc_class X T I k
end
section
variable {X:Cx}{pins:List (Addr×Obj)}{σ:St}{H:Hp}{s:Shared}{h':Heap}{a d:Addr}{oA oD:HO}
theorem Inv.two{t':Nat}(I:Inv X pins σ H s)(ma:Mut (H a))(md:Mut (H d)\/s.heap.objs.size<=d)(hne:d≠a)(k:∀b u,b≠a->b≠d->s.heap.get? b=some u->h'.get? b=some u)(ta:∃u,h'.get? a=some u)(td:∃u,h'.get? d=some u)
  (na:qat X.prog X.w (upd (upd H d oD) a oA) h' a oA) (nd:qat X.prog X.w (upd (upd H d oD) a oA) h' d oD):Inv X pins σ (upd (upd H d oD) a oA) { s with heap:=h',toks:=t' }:=by
 have up:∀b,b≠a->b≠d->upd (upd H d oD) a oA b=H b:=λb h1 h2=>by rw[qaf h1,qaf h2]
 have na0:∀b,H b=none->b≠a:=λb n z=>by subst z;rw[n]at ma;exact ma
 have nd0:∀b u,s.heap.get? b=some u->H b=none->b≠d:=λb u e n z=>by
  subst z
  rcases md with md|md
  ·rw[n]at md;exact md
  ·exact absurd (lt_of_lt_of_le (lt_size e) md) (lt_irrefl _)
 have ms:∀b u,H b=some u->¬ Mut (some u)->b≠a/\b≠d:=λb u e nm=>by
  refine ⟨?_,?_⟩
  ·rintro rfl;rw[e]at ma;exact nm ma
  ·rintro rfl
   rcases md with md|md
   ·rw[e]at md;exact nm md
   ·have:=I.hok.fresh md;rw[e]at this;cases this
 refine I.un ⟨λb u e n _ _=>k b u (na0 b n) (nd0 b u e n) e,λb u e n _ _=>⟨u.slots,k b u (na0 b n) (nd0 b u e n) e⟩,λb u e n _=>by rw[up b (na0 b n) (nd0 b u e n)];exact n,λb u e _=>?_,
  λb xs e=>?_,λb u xs e=>?_,λb ps e=>⟨#[],?_⟩⟩ (λb u e=>?_)
 ·by_cases h1:b=a
  ·subst h1;exact ta
  ·by_cases h2:b=d
   ·subst h2;exact td
   ·exact ⟨u,k b u h1 h2 e⟩
 ·obtain ⟨h1,h2⟩:=ms b _ e λz=>z
  rw[up b h1 h2];exact e
 ·obtain ⟨h1,h2⟩:=ms b _ e λz=>z
  rw[up b h1 h2];exact e
 ·obtain ⟨h1,h2⟩:=ms b _ e λz=>z
  rw[up b h1 h2,e];simp
 ·by_cases h1:b=a
  ·subst h1;rw[yaa]at e;cases e;exact na
  ·by_cases h2:b=d
   ·subst h2;rw[qaf h1,yaa]at e;cases e;exact nd
   ·rw[up b h1 h2]at e
    refine (I.hok b u e).stay (λc v hc q=>?_) (λc q=>?_) λc xs q=>?_
    ·rcases hc with rfl|hc
     ·exact k _ _ h1 h2 q
     ·obtain ⟨h3,h4⟩:=ms c _ hc λz=>z
      exact k _ _ h3 h4 q
    ·obtain ⟨h3,h4⟩:=ms c _ q λz=>z
     rw[up c h3 h4];exact q
    ·obtain ⟨h3,h4⟩:=ms c _ q λz=>z
     rw[up c h3 h4];exact q
noncomputable def qbf(a C:Addr)(dx:Option Addr):Heap->Prop:=λh=>∃o vs,h.get? a=some o/\o.cls=.ref C/\o.dict=dx/\o.data=.fields vs
noncomputable def qa6(a C:Addr)(dx:Option Addr):Heap->Prop:=λh=>∃o vs,h.get? a=some o/\o.cls=.ref C/\o.dict=dx/\o.data=.fields vs/\vs[1]?=some .none
theorem qa6.q{a C:Addr}{dx:Option Addr}{h:Heap}(x:qa6 a C dx h):qbf a C dx h:=by
 obtain ⟨o,vs,e,c,d,dt,_⟩:=x
 exact ⟨o,vs,e,c,d,dt⟩
noncomputable def yd3(a d:Addr)(fs:List (Str×V)):Heap->Prop:=λh=>d≠a/\fs.length<=100/\∃mA,h.Ns1 d mA/\(∀f,RelO (fs.lookup f) (mA f))/\PySem.Within mA (fs.map (·.1))
noncomputable def XAt(H:Hp)(a C:Addr)(fs:List (Str×V)):Prop:=(fs=[]/\H a=some (.ext (qa6 a C none)))\/(∃d,H a=some (.ext (qa6 a C (some d)))/\H d=some (.ext (yd3 a d fs)))\/
 (fs=[]/\H a=some (.ext (qbf a C none)))\/(∃d,H a=some (.ext (qbf a C (some d)))/\H d=some (.ext (yd3 a d fs)))
theorem XAt.obj{P:Program}{w:World}{H:Hp}{h:Heap}{a C:Addr}{fs:List (Str×V)}(ok:HOk P w H h)(x:XAt H a C fs):(fs=[]/\qbf a C none h)\/∃d,qbf a C (some d) h/\yd3 a d fs h:=by
 rcases x with ⟨e,h1⟩|⟨d,h1,h2⟩|⟨e,h1⟩|⟨d,h1,h2⟩
 ·exact .inl ⟨e,(ok a _ h1).1.q⟩
 ·exact .inr ⟨d,(ok a _ h1).1.q,(ok d _ h2).1⟩
 ·exact .inl ⟨e,(ok a _ h1).1⟩
 ·exact .inr ⟨d,(ok a _ h1).1,(ok d _ h2).1⟩
theorem qfo{P:Program}{w:World}{H:Hp}{h:Heap}{a C:Addr}{dx:Option Addr}(x:qbf a C dx h):qat P w H h a (.ext (qbf a C dx)):=by
 obtain ⟨o,vs,e,r⟩:=x
 exact ⟨⟨o,vs,e,r⟩,⟨o,e⟩,λh1 h2 ⟨o,vs,e,r⟩ k=>⟨o,vs,k o e,r⟩⟩
theorem ye7{P:Program}{w:World}{H:Hp}{h:Heap}{a C:Addr}{dx:Option Addr}(x:qa6 a C dx h):qat P w H h a (.ext (qa6 a C dx)):=by
 obtain ⟨o,vs,e,r⟩:=x
 exact ⟨⟨o,vs,e,r⟩,⟨o,e⟩,λh1 h2 ⟨o,vs,e,r⟩ k=>⟨o,vs,k o e,r⟩⟩
theorem qge{P:Program}{w:World}{H:Hp}{h:Heap}{a d:Addr}{fs:List (Str×V)}(x:yd3 a d fs h):qat P w H h d (.ext (yd3 a d fs)):=by
 obtain ⟨n,l,mA,⟨o,es,ep,e,r⟩,r2⟩:=id x
 exact ⟨x,⟨o,e⟩,λh1 h2 ⟨n,l,mA,⟨o,es,ep,e,r⟩,r2⟩ k=>⟨n,l,mA,⟨o,es,ep,k o e,r⟩,r2⟩⟩
theorem XAt.inst{C:Addr}{fs:List (Str×V)}(x:XAt H a C fs)(I:Inv X pins σ H s):∃mA,s.heap.Inst a C mA/\(∀f,RelO (fs.lookup f) (mA f))/\PySem.Within mA (fs.map (·.1))/\fs.length<=100:=by
 rcases x.obj I.hok with ⟨rfl,o,vs,e,c,dn,dt⟩|⟨d,⟨o,vs,e,c,dn,dt⟩,n,l,mA,n1,r,wi⟩
 ·exact ⟨λ_=>none,⟨o,e,c,(by intro c z;rw[dt]at z;cases z),.inl ⟨dn,λ_=>rfl⟩⟩,λf=>trivial,PySem.Within.nil,by simp⟩
 ·exact ⟨mA,⟨o,e,c,(by intro c z;rw[dt]at z;cases z),.inr ⟨d,dn,n,n1⟩⟩,r,wi,l⟩
end
theorem XAt.same{H H':Hp}{a C:Addr}{fs:List (Str×V)}(s:∀b o,H b=some o->H' b=some o)(x:XAt H a C fs):XAt H' a C fs:=by
 rcases x with ⟨e,h1⟩|⟨d,h1,h2⟩|⟨e,h1⟩|⟨d,h1,h2⟩
 ·exact .inl ⟨e,s _ _ h1⟩
 ·exact .inr (.inl ⟨d,s _ _ h1,s _ _ h2⟩)
 ·exact .inr (.inr (.inl ⟨e,s _ _ h1⟩))
 ·exact .inr (.inr (.inr ⟨d,s _ _ h1,s _ _ h2⟩))
structure XOk(K:W.Frag)(C:Addr):Prop extends XTy K C where
 sa:W.findIn K (.ref C) "__setattr__"=some (some (.builtin "object.__setattr__"))
noncomputable def NoF(K:W.Frag)(C:Addr)(f:Str):Prop:=W.findIn K (.ref C) f=some none
noncomputable def XD(H:Hp)(a C:Addr)(dx:Option Addr)(fs:List (Str×V)):Prop:=(dx=none/\fs=[]/\H a=some (.ext (qa6 a C none)))\/∃d,dx=some d/\H a=some (.ext (qa6 a C (some d)))/\H d=some (.ext (yd3 a d fs))
theorem XD.xat{H:Hp}{a C:Addr}{dx:Option Addr}{fs:List (Str×V)}(x:XD H a C dx fs):XAt H a C fs:=by
 rcases x with ⟨_,e,h⟩|⟨d,_,h1,h2⟩
 ·exact .inl ⟨e,h⟩
 ·exact .inr (.inl ⟨d,h1,h2⟩)
structure SetX(a d:Addr)(dx:Option Addr)(H H':Hp):Prop where
 dd:dx=some d\/(dx=none/\H d=none)
 kp:∀b o,H b=some o->b≠a->b≠d->H' b=some o
section
variable {X:Cx}{pins:List (Addr×Obj)}{σ:St}{H:Hp}{s:Shared}{a C:Addr}{dx:Option Addr}{fs:List (Str×V)}{f:Str}{v:V}{u:Value}
theorem ygb{d:Addr}{h':Heap}{mA:Str->Option Value}(hne:d≠a)(hl:fs.length<100)(n1:h'.Ns1 d λy=>if y=f then some u else mA y)(r:∀g,RelO (fs.lookup g) (mA g))(wi:PySem.Within mA (fs.map (·.1)))(rv:RelV v u):yd3 a d (putF f v fs) h':=by
 refine ⟨hne,by have:=qcd f v fs;omega,_,n1,λg=>?_,λg hg=>?_⟩
 ·rw[yb8]
  by_cases q:g=f
  ·simp only[q,if_true];exact rv
  ·simp only[q,if_false];exact r g
 ·by_cases q:g=f
  ·subst q;exact (qbn g v fs).1
  ·exact (qbn f v fs).2 g (wi g λz=>hg (by simp only[q,if_false];exact z))
theorem setx_ok{E:Value->Shared->Prop}{Q:Unit->Shared->Prop}(I:Inv X pins σ H s)(x:XD H a C dx fs)(c:XOk X.K C)(n:NoF X.K C f)(hl:fs.length<100)(rv:RelV v u)
  (k:∀d H' s',Inv X pins σ H' s'->XD H' a C (some d) (putF f v fs)->SetX a d dx H H'->Q () s'):wpAny (model X.prog X.w) X.A (setAttr (.ref a) f u) Q E s:=by
 obtain ⟨mA,inst,r,wi,l⟩:=x.xat.inst I
 have kin:=I.kIn
 obtain ⟨hh,g,dr,t,os⟩:=s
 refine xc_store kin c.cx c.sa n inst (λh' tk' inst' keep same=>?_) wi (by rw[length_map,sizeLine_eq];omega)
 rcases x with ⟨rfl,rfl,h1⟩|⟨d,rfl,h1,h2⟩
 ·obtain ⟨⟨o,vs,e,cc,dn,dt,rw1⟩,_⟩:=I.hok a _ h1
  obtain ⟨o1,e1,c1,d1,_,dd1⟩:=same o e
  have dd:=dd1 dn
  obtain ⟨o2,e2,_,_,⟨z,_⟩|⟨d2,z,ne2,n2⟩⟩:=inst'
  ·rw[e1]at e2;cases e2;rw[dd]at z;cases z
  ·rw[e1]at e2;cases e2
   rw[dd]at z;cases z
   have fr:H hh.objs.size=none:=I.hok.fresh (le_refl _)
   have px:=ygb (a:=a) (v:=v) ne2 hl n2 r wi rv
   have po:qa6 a C (some hh.objs.size) h':=⟨o1,vs,e1,c1.trans cc,dd,d1.trans dt,rw1⟩
   refine k hh.objs.size (upd (upd H hh.objs.size (.ext (yd3 a hh.objs.size (putF f v [])))) a (.ext (qa6 a C (some hh.objs.size)))) _ (Inv.two I (by rw[h1];exact True.intro) (.inr (le_refl _)) ne2 (λb ob hb hb2 q=>keep b ob hb (λo0 dx q0 q1=>?_) q) ⟨_,e1⟩ (let ⟨o,_,_,q,_⟩:=n2;⟨o,q⟩) (ye7 po) (qge px)) (.inr ⟨_,rfl,yaa,by rw[qaf ne2];exact yaa⟩) ⟨.inr ⟨rfl,fr⟩,λb o hb hba _=>?_⟩
   ·have q0':hh.get? a=some o0:=q0
    have e':hh.get? a=some o:=e
    rw[e']at q0';cases q0'
    rw[dn]at q1;cases q1
   ·rw[qaf hba,qaf (qae hb fr)];exact hb
 ·obtain ⟨⟨o,vs,e,cc,dn,dt,rw1⟩,_⟩:=I.hok a _ h1
  obtain ⟨o1,e1,c1,d1,dd1,_⟩:=same o e
  have dd:=dd1 d dn
  obtain ⟨⟨ne0,_⟩,_⟩:=I.hok d _ h2
  obtain ⟨o2,e2,_,_,⟨z,_⟩|⟨d2,z,ne2,n2⟩⟩:=inst'
  ·rw[e1]at e2;cases e2;rw[dd]at z;cases z
  ·rw[e1]at e2;cases e2
   rw[dd]at z;cases z
   have px:=ygb (a:=a) (v:=v) ne2 hl n2 r wi rv
   have po:qa6 a C (some d) h':=⟨o1,vs,e1,c1.trans cc,dd,d1.trans dt,rw1⟩
   refine k d (upd (upd H d (.ext (yd3 a d (putF f v fs)))) a (.ext (qa6 a C (some d)))) _ (Inv.two I (by rw[h1];exact True.intro) (.inl (by rw[h2];exact True.intro)) ne2 (λb ob hb hb2 q=>keep b ob hb (λo0 dx q0 q1=>?_) q) ⟨_,e1⟩ (let ⟨o,_,_,q,_⟩:=n2;⟨o,q⟩) (ye7 po) (qge px)) (.inr ⟨_,rfl,yaa,by rw[qaf ne2];exact yaa⟩) ⟨.inl rfl,λb o hb hba hbd=>?_⟩
   ·have q0':hh.get? a=some o0:=q0
    have e':hh.get? a=some o:=e
    rw[e']at q0';cases q0'
    rw[dn]at q1;cases q1
    exact hb2
   ·rw[qaf hba,qaf hbd];exact hb
theorem getx_ok{b:Bool}{E:Value->Shared->Prop}{Q:Value->Shared->Prop}(I:Inv X pins σ H s)(x:XAt H a C fs)(c:XOk X.K C)(n:NoF X.K C f)(l:fs.lookup f=some v)(k:∀u s',Inv X pins σ H s'->RelV v u->Q u s') :
  wpAny (model X.prog X.w) X.A (getAttr (.ref a) f b) Q E s:=by
 obtain ⟨mA,inst,r,wi,_⟩:=x.inst I
 obtain ⟨u,hu,ru⟩:=RelO.some_of (v:=v) (o:=mA f) (by rw[<-l];exact r f)
 have kin:=I.kIn
 have kk:=k u _ (I.tok (s.toks+1)) ru
 obtain ⟨hh,g,dr,t,os⟩:=s
 exact xc_load kin c.cx c.ga c.gh n inst hu (handedOut_of (yem ru)) kk
variable {o e value:Expr}{pos pos' p:Pos}{ta tv:TE}
noncomputable def tXFld(K:W.Frag)(ta:TE)(f:Str):TE:=λσ H Q=>ta σ H λx H1=>∃a C fs v,x=.ref a/\XAt H1 a C fs/\XOk K C/\NoF K C f/\fs.lookup f=some v/\Q v H1
theorem ygm(he:PE X e ta)(hb:attributeBase e f X.env (eval e X.env)=eval e X.env:=by rfl):PE X (.Attribute e f pos) (tXFld X.K ta f):=by
 intro pins s σ H Q I h
 refine qgf hb (thn (he pins s σ H _ I h) λu s1 ⟨x,H1,I1,rx,a,C,fs,v,ex,ea,c,n,l,q⟩=>?_)
 subst ex
 obtain rfl:u=Value.ref a:=rx
 exact getx_ok I1 ea c n l λu' s2 I2 ru=>⟨v,H1,I2,ru,q⟩
noncomputable def sXFld(K:W.Frag)(ta tv:TE)(f:Str):TS:=λD σ H=>tv σ H λy H1=>ta σ H1 λx H2=>∃a C dx fs,x=.ref a/\XD H2 a C dx fs/\XOk K C/\NoF K C f/\fs.length<100/\∀d H3,XD H3 a C (some d) (putF f y fs)->SetX a d dx H2 H3->D.nx σ H3
theorem ps_xfld(ha:PE X o ta)(hv:PE X value tv)(hs:swapsWith value (some (.Attribute o f pos')) pos.line X.env=pure false:=by rfl):PS X (.Assign [.Attribute o f pos'] value pos) (sXFld X.K ta tv f):=by
 intro pins s σ H D I h
 refine plainObj_wpAny_Assign_Attribute (thn (hv pins s σ H _ I h) λu s1 ⟨y,H1,I1,ry,q⟩=>thn (ha pins s1 σ H1 _ I1 q) λov s2 ⟨x,H2,I2,rx,a,C,dx,fs,ex,ea,c,n,l,q2⟩=>?_) hs
 subst ex
 obtain rfl:ov=Value.ref a:=rx
 exact setx_ok I2 ea c n l ry λd H3 s3 I3 x3 sm=>⟨σ,H3,I3,q2 d H3 x3 sm⟩
end
theorem qat.ex{P:Program}{w:World}{H:Hp}{h:Heap}{a:Addr}{o:HO}(x:qat P w H h a o):∃u,h.get? a=some u:=by
 cases o with
 |lst xs=>obtain ⟨_,_,_,_,e⟩:=x;exact ⟨_,e⟩
 |tup xs=>obtain ⟨_,_,_,ob,e,_⟩:=x;exact ⟨_,e⟩
 |dK kvs=>obtain ⟨_,_,_,_,o,_,_,e,_⟩:=x;exact ⟨_,e⟩
 |dT kvs=>obtain ⟨_,_,_,_,o,_,_,e,_⟩:=x;exact ⟨_,e⟩
 |set S n=>obtain ⟨o,_,_,_,e,_⟩:=x;exact ⟨_,e⟩
 |ins C dx fs=>obtain ⟨_,_,_,e,_⟩:=x;exact ⟨_,e⟩
 |own y=>exact x
 |xd fs=>obtain ⟨_,⟨_,_,_,e,_⟩,_⟩:=x;exact ⟨_,e⟩
 |rng lo hi=>obtain ⟨_,_,_,e⟩:=x;exact ⟨_,e⟩
 |frz ob u=>obtain ⟨e,_⟩:=x;exact ⟨_,e⟩
 |tbl ps=>exact ⟨_,show h.get? a=some _ from x⟩
 |met f y=>exact ⟨_,show h.get? a=some _ from x⟩
 |ext φ=>exact x.2.1
section
variable {X:Cx}{pins:List (Addr×Obj)}{σ:St}{H:Hp}{s:Shared}{h':Heap}{a C:Addr}{oA:HO}
theorem Inv.laidN{t':Nat}(I:Inv X pins σ H s)(k:∀b u,s.heap.get? b=some u->h'.get? b=some u)(hn:s.heap.get? a=none)(new:qat X.prog X.w (upd H a oA) h' a oA):H a=none/\Inv X pins σ (upd H a oA) { s with heap:=h',toks:=t' }:=by
 have hH:H a=none:=by
  cases q:H a with
  |none=>rfl
  |some u=>obtain ⟨w,e⟩:=(I.hok a u q).ex;rw[hn]at e;cases e
 have nb:∀b u,s.heap.get? b=some u->b≠a:=λb u e z=>by rw[z,hn]at e;cases e
 refine ⟨hH,I.un ⟨λb u e _ _ _=>k b u e,λb u e _ _ _=>⟨u.slots,k b u e⟩,λb u e n _=>by rw[qaf (nb b u e)];exact n,λb u e _=>⟨u,k b u e⟩,λb xs e=>by rw[qaf (qae e hH)];exact e,
  λb u xs e=>by rw[qaf (qae e hH)];exact e,λb ps e=>⟨#[],by rw[qaf (qae e hH),e];simp⟩⟩ λb u e=>?_⟩
 by_cases hb:b=a
 ·subst hb;rw[yaa]at e;cases e;exact new
 ·rw[qaf hb]at e
  exact (I.hok b u e).stay (λc v _ q=>k c v q) (λc q=>by rw[qaf (qae q hH)];exact q) λc xs q=>by rw[qaf (qae q hH)];exact q
theorem Inv.madeX{rest:List Value}{t':Nat}(I:Inv X pins σ H s)(m:Heap.MadeExcOf s.heap h' a (.ref C) rest):H a=none/\Inv X pins σ (upd H a (.ext (qa6 a C none))) { s with heap:=h',toks:=t' }:=by
 obtain ⟨tt,e,_⟩:=m.there
 exact I.laidN m.keeps m.new (ye7 ⟨_,_,e,rfl,rfl,rfl,rfl⟩)
variable {x:Str}{e:Expr}{es:List Expr}{p pos:Pos}{t:TA}
noncomputable def ygc(C:Addr)(t:TA):TE:=λσ H Q=>t σ H λvs H1=>vs.length<=sizeLine/\∀a,H1 a=none->Q (.ref a) (upd H1 a (.ext (qa6 a C none)))
theorem qhd(q:W.excIn X.K C bmV "ValueError.__new__"=true)(kp:W.keepIn X.K (.ref C)=true)(hg:Gl X x)(hm:X.mg x=some (.ref C))(ha:PA X (e::es) t)(hdb:(x == ("__debug__" : Str))=false:=by decide)
  (he:starEach (e::es) X.env=(false,eval e X.env)::starEach es X.env:=by rfl) (hpl:(backTo pos (starEach es X.env)).any (·.1)=false:=by rfl):PE X (.Call (.Name x p) (e::es) [] pos) (ygc C t):=by
 intro pins s σ H Q I h
 refine wpAny_Call_Name_kw (qcq I hg hm ?_ hdb)
 refine W.callWith_K (h₀:=X.base) I.ok.mod.kin kp (thn (ha pos pins s σ H _ I h) λus s1 ⟨vs,H1,I1,r,hl,hq⟩=>⟨I1.kIn,?_⟩) he hpl
 have kin:=I1.kIn
 obtain ⟨hh,g,dr,tk,os⟩:=s1
 refine xc_call0 kin q (λh2 a m=>?_) (by rw[List.nil_append,<-r.length];exact hl)
 obtain ⟨hn,I2⟩:=Inv.madeX (t':=tk) I1 m
 exact ⟨.ref a,_,I2,rfl,hq a hn⟩
variable {k:Nat}{f:Addr}{fd:FuncData}{ps:List Str}{sp:Sp}
noncomputable def tXMake(C:Addr)(sp:Sp)(t:TA):TE:=λσ H Q=>t σ H λvs H1=>vs.length<=sizeLine/\∀a,H1 a=none->sp (.ref a::vs) (upd H1 a (.ext (qa6 a C none))) (λv H2=>v=.non/\Q (.ref a) H2) E0
theorem pe_xmake(c:XOk X.K C)(hi:W.findIn X.K (.ref C) "__init__"=some (some (.ref f)))(hf:W.isFn X.K (.ref f)=true)(F:FnOk X.prog X.w X.K X.mg X.base CX0 k f fd ps sp)(hr:Room (k+1) X.A)(hb:qbm X.K fd ps [])(kp:W.keepIn X.K (.ref C)=true)
  (hg:Gl X x) (hm:X.mg x=some (.ref C)) (ha:PA X (e::es) t) (hdb:(x == ("__debug__" : Str))=false:=by decide)
  (he:starEach (e::es) X.env=(false,eval e X.env)::starEach es X.env:=by rfl) (hpl:(backTo pos (starEach es X.env)).any (·.1)=false:=by rfl):PE X (.Call (.Name x p) (e::es) [] pos) (tXMake C sp t):=by
 intro pins s σ H Q I h
 refine wpAny_Call_Name_kw (qcq I hg hm ?_ hdb)
 refine W.callWith_K (h₀:=X.base) I.ok.mod.kin kp (thn (ha pos pins s σ H _ I h) λus s1 ⟨vs,H1,I1,r,hl,hq⟩=>⟨I1.kIn,?_⟩) he hpl
 have kin:=I1.kIn
 obtain ⟨hh,g,dr,tk,os⟩:=s1
 refine xc_call kin c.cx hi hf (λh2 a m=>?_) (by rw[List.nil_append,<-r.length];exact hl)
 obtain ⟨hn,I2⟩:=Inv.madeX (t':=tk) I1 m
 have hsp:=hq a hn
 have r2:Vals (V.ref a::vs) (Value.ref a::us):=.cons rfl r
 have hlen:(Value.ref a::us).length=ps.length:=by rw[<-r2.length];exact F.len _ _ _ _ hsp
 have hlen2:((Value.ref a::us)++[]).length=ps.length:=by rw[append_nil];exact hlen
 have bb:=hb _ (Value.ref a::us) I2.kIn hlen2
 rw[append_nil]at bb
 refine wpAny_call (codeAny_mono (F.run _ X.stack _ _ ⟨Value.ref a::us,[]⟩ (Value.ref a::us) _ _ E0 (hr.make C us []) (I2.env0.make C us []) bb r2 hsp) λr s' hq'=>?_)
 cases r with
 |error e=>exact hq'.elim
 |ok fl=>
  cases fl with
  |ret u=>
   obtain ⟨v,H',I3,rv,ev,q3⟩:=I2.after hq'
   subst ev
   exact ⟨rv,⟨V.ref a,H',I3,rfl,q3⟩⟩
  |next=>exact False.elim hq'
  |brk=>exact False.elim hq'
  |cont=>exact False.elim hq'
theorem XAt.at{fs:List (Str×V)}(x:XAt H a C fs)(I:Inv X pins σ H s):∃ox od,W.InstAt s.heap a ox C od:=by
 rcases x.obj I.hok with ⟨rfl,o,vs,e,c,dn,dt⟩|⟨d,⟨o,vs,e,c,dn,dt⟩,n,l,mA,⟨od,_,_,ed,_⟩,r,wi⟩
 ·exact ⟨o,none,e,c,by unfold W.notCls;rw[dt],by rw[dn];trivial⟩
 ·exact ⟨o,some od,e,c,by unfold W.notCls;rw[dt],by rw[dn];exact ed⟩
noncomputable def vcls:V->Value
 |.ref c=>.ref c
 |.ty n=>.type n
 |_=>.none
noncomputable def rIsiX(K:W.Frag):List V->Hp->VK->Prop:=λxs H Q=>∃a C fs c b,xs=[.ref a,c]/\((∃d,c=.ref d)\/∃n,c=.ty n)/\XAt H a C fs/\XTy K C/\W.kitOne K (.ref C) (vcls c)=some b/\Q (.bl b) H
theorem yam:qca X (.builtin "isinstance") (rIsiX X.K):=by
 intro pins s σ H xs us Q I r h
 obtain ⟨a,C,fs,c,b,rfl,hc,hx,T,hk,q⟩:=h
 cases r with
 |cons r rr=>
  cases rr with
  |cons r' rr=>
   cases rr
   cases r
   have hcv:∃cv,vcls c=cv/\RelV c cv:=by
    rcases hc with ⟨d,rfl⟩|⟨n,rfl⟩
    ·exact ⟨_,rfl,rfl⟩
    ·exact ⟨_,rfl,rfl⟩
   obtain ⟨cv,e1,e2⟩:=hcv
   rw[e1]at hk
   rename_i u2
   have e3:u2=cv:=by
    rcases hc with ⟨d,rfl⟩|⟨n,rfl⟩
    ·exact (show u2=Value.ref d from r').trans (show cv=Value.ref d from e2).symm
    ·exact (show u2=Value.type n from r').trans (show cv=Value.type n from e2).symm
   subst e3
   exact W.kia_one (kitx_xc T) I.kIn (hx.at I) hk (λz=>nomatch z) λtk=>⟨.bl b,H,I.tok _,rfl,q⟩
end
end L2
namespace L2
open PySem PySem.Spec PyProof.Rows
theorem Vals.bls:∀{bs:List Bool}{us:List Value},Vals (bs.map V.bl) us->us=bs.map Value.bool
 |[],_,.nil=>rfl
 |b::bs,_,.cons r t=>by
  have e:=Vals.bls t
  cases r
  rw[e]
  rfl
noncomputable def isB(b:Bool):Value->Bool
 |.bool c=>c == b
 |_=>false
theorem qgg(b:Bool)(bs:List Bool):(bs.map Value.bool).countP (isB b)=bs.count b:=by
 rw[List.countP_map]
 rfl
theorem isB_at{A:Around}{s:Shared}(b:Bool)(bs:List Bool):∀y,y∈(bs.map Value.bool).toArray->SeqAt.EqAt A s y (.bool b) (isB b y):=by
 intro y hy
 obtain ⟨c,_,e⟩:=mem_map.mp (by simpa using hy:y∈bs.map Value.bool)
 subst e
 exact SeqAt.EqAt.bool_bool c b
section
variable {X:Cx}
noncomputable def rCountB:V->List V->Hp->VK->Prop:=λx vs H Q=>∃(l:Addr) (bs:List Bool) (b:Bool),x=.ref l/\vs=[.bl b]/\H l=some (.lst (bs.map V.bl))/\Q (.int (bs.count b:Nat)) H
theorem ygg:MtM X "list.count" rCountB:=by
 intro pins s σ H x vs v us Q I rx rv h
 obtain ⟨l,bs,b,rfl,rfl,hH,q⟩:=h
 cases rx
 obtain ⟨u,rfl,ru⟩:=rv.one
 cases ru
 obtain ⟨z,its,n,r,hl,e⟩:=I.lstM hH
 have hi:=r.bls
 subst hi
 refine call_meets F.slot_list_count ⟨_,e,rfl⟩ F.entry_list_count (F.args_list_count_2 _ _) (SeqAt.list_countAt l _ n _ _ (.bool b) (isB b)) ⟨e,isB_at b bs,?_⟩
 rw[List.toList_toArray,qgg]
 exact ⟨.int (bs.count b:Nat),_,I.tok _,⟨_,rfl⟩,q⟩
noncomputable def rIndexB:V->List V->Hp->VK->Prop:=λx vs H Q=>∃(l:Addr) (bs:List Bool) (b:Bool) (j:Nat),x=.ref l/\vs=[.bl b]/\H l=some (.lst (bs.map V.bl))/\bs[j]?=some b/\(∀m,m<j->bs[m]?≠some b)/\Q (.int (j:Nat)) H
theorem qf9:MtM X "list.index" rIndexB:=by
 intro pins s σ H x vs v us Q I rx rv h
 obtain ⟨l,bs,b,j,rfl,rfl,hH,hj,hno,q⟩:=h
 cases rx
 obtain ⟨u,rfl,ru⟩:=rv.one
 cases ru
 obtain ⟨z,its,n,r,hl,e⟩:=I.lstM hH
 have hi:=r.bls
 subst hi
 obtain ⟨hjl,hjb⟩:=List.getElem?_eq_some_iff.mp hj
 rw[length_map]at z
 have hz:(sizeLine:Nat)<2 ^ 63-1:=by decide
 refine call_meets F.slot_list_index ⟨_,e,rfl⟩ F.entry_list_index (F.args_list_index_2 _ _)
  (SeqAt.list_indexAt l _ n _ _ (.bool b) (isB b) j (by rw[size_toArray,length_map];exact hjl) (by omega) ?_ λm hm hlt=>?_) ⟨e,isB_at b bs,⟨.int (j:Nat),_,I.tok _,⟨_,rfl⟩,q⟩⟩
 ·rw[List.getElem_toArray,List.getElem_map]
  show (bs[j] == b)=true
  rw[hjb]
  exact beq_self_eq_true b
 ·rw[List.getElem_toArray,List.getElem_map]
  show (bs[m] == b)=false
  refine beq_eq_false_iff_ne.mpr λq=>hno m hlt ?_
  rw[getElem?_eq_getElem (by omega),q]
end
end L2
namespace Mx
open PySem L2 PyProof.Rows
section
variable {X:Cx}{es:List Expr}{te:TE}{t:TA}{pos:Pos}
theorem pa_cs{k:Const}{j}(ha:PE X (.Constant k j pos) te)(hr:PA X es t):PA X (.Constant k j pos::es) (qch te t):=yab ha hr rfl
theorem pa_nm{x:Str}(ha:PE X (.Name x pos) te)(hr:PA X es t):PA X (.Name x pos::es) (qch te t):=yab ha hr rfl
theorem pa_cl{f xs ks}(ha:PE X (.Call f xs ks pos) te)(hr:PA X es t):PA X (.Call f xs ks pos::es) (qch te t):=yab ha hr rfl
noncomputable def yer:List Expr->Option (List Str)
 |[]=>some []
 |.Constant (.str x) _ _::r=>(yer r).map (x :: ·)
 |_=>none
theorem ygj{X:Cx}:∀{es:List Expr}{xs:List Str},yer es=some xs->PA X es (λ_ H Q=>Q (xs.map V.str) H)
 |[],xs,h=>by
  cases h
  exact qag
 |.Constant (.str x) j p::r,xs,h=>by
  rw[yer]at h
  obtain ⟨ys,hy,rfl⟩:=Option.map_eq_some_iff.mp h
  exact pa_cs qah (ygj hy)
noncomputable def tStrs(xs:List Str):TE:=λ_ H Q=>xs.length<=sizeLine/\∀p,H p=none->Q (.ref p) (upd H p (.lst (xs.map V.str)))
theorem pe_strs{xs:List Str}(h:yer es=some xs):PE X (.List es pos) (tStrs xs):=by
 intro pins s σ H Q I hq
 refine qdb (ygj h) pins s σ H Q I ?_
 exact ⟨by rw[length_map];exact hq.1,hq.2⟩
end
structure QS(X:Cx)(st:Stmt)(t:TS):Prop where
 of:PS X st t
structure QSs(X:Cx)(ss:List Stmt)(t:TS):Prop where
 of:PSs X ss t
section
variable {X:Cx}{st:Stmt}{rest a b:List Stmt}{t u:TS}{pos:Pos}{e:Expr}{te:TE}
theorem yaj:QSs X [] tNext:=⟨pss_nil⟩
theorem yae(h:QS X st t):QSs X [st] t:=⟨qe5 h.of⟩
theorem qab(h:QS X st t)(r:QSs X rest u):QSs X (st::rest) (tSeq t u):=⟨pss_cons h.of r.of⟩
theorem qby(h:PS X st t):QS X st t:=⟨h⟩
end
end Mx
namespace L2
open PySem PySem.Spec PyProof.Rows PySem.Builtin PySem.Builtin.Str PySem.StrLaws
theorem qd5(y:Str)(p q:Str)(r:List Str):(Str.join y (p::q::r)).cps.toList=p.cps.toList++(y.cps.toList++(Str.join y (q::r)).cps.toList):=by
 show (p++y++Str.join y (q::r)).cps.toList=_
 simp only[Str.cps_append,Array.toList_append,List.append_assoc]
theorem yd8(x y:Str)(c:Nat)(y':List Nat)(hy:y.cps.toList=c::y'):∀(ps:List Str) (a:Nat) (cuts:List Nat) (f:Nat),ps≠[]->(∀p∈ps,c∉p.cps.toList)->a<=x.length->x.cps.toList.drop a=(Str.join y ps).cps.toList->
  ChainG x y x.length a cuts f->(∀k,f<=k->¬ StrLaws.At x y x.length k)->partsFrom x y.length a cuts=ps:=by
 have hyl:y.length=y'.length+1:=by
  show y.cps.size=_
  rw[<-length_toList,hy];rfl
 have hxl:x.length=x.cps.toList.length:=(length_toList).symm
 have hat:∀k,StrLaws.At x y x.length k->x.cps.toList[k]?=some c:=λk hk=>by
  have h2:=hk.2
  rw[subAt_eq,beq_iff_eq,hy]at h2
  have h3:((x.cps.toList.drop k).take y.length)[0]?=some c:=by rw[h2];rfl
  rw[List.getElem?_take_of_lt (by omega),List.getElem?_drop]at h3
  exact h3
 intro ps
 induction ps with
 |nil=>intro a cuts f h;exact absurd rfl h
 |cons p r ih=>
  intro a cuts f _ hp ha hx hc hn
  cases r with
  |nil=>
   have hno:∀k,a<=k->¬ StrLaws.At x y x.length k:=λk hk hA=>by
    have h1:=hat k hA
    have h2:(x.cps.toList.drop a)[k-a]?=some c:=by rw[List.getElem?_drop];rw[show a+(k-a)=k by omega];exact h1
    rw[hx]at h2
    exact hp p (mem_singleton.mpr rfl) (mem_of_getElem? h2)
   cases cuts with
   |nil=>
    show [strSub x a x.length]=[p]
    congr 1
    apply Str.ext'
    apply Array.toList_inj.mp
    rw[strSub_toList,List.take_of_length_le (by rw[length_drop];omega),hx]
    rfl
   |cons k cs=>exact absurd hc.2.1 (hno k hc.1)
  |cons q r=>
   rw[qd5]at hx
   have hpl:a+p.length+y.length<=x.length:=by
    have:=congrArg List.length hx
    rw[length_drop,length_append,length_append,length_toList,length_toList,length_toList]at this
    have e1:p.cps.size=p.length:=rfl
    have e2:y.cps.size=y.length:=rfl
    have e3:x.cps.size=x.length:=rfl
    omega
   have hdp:x.cps.toList.drop (a+p.length)=y.cps.toList++(Str.join y (q::r)).cps.toList:=by
    rw[<-List.drop_drop,hx]
    exact List.drop_left' (by show p.cps.toList.length=p.length;rw[length_toList];rfl)
   have hcut:StrLaws.At x y x.length (a+p.length):=⟨hpl,by
    rw[subAt_eq,beq_iff_eq,hdp]
    exact List.take_left' (by rw[length_toList];rfl)⟩
   have hbef:∀k,a<=k->k<a+p.length->¬ StrLaws.At x y x.length k:=λk hk hk2 hA=>by
    have h1:=hat k hA
    have h2:(x.cps.toList.drop a)[k-a]?=some c:=by rw[List.getElem?_drop];rw[show a+(k-a)=k by omega];exact h1
    rw[hx,List.getElem?_append_left (by rw[length_toList];show k-a<p.length;omega)]at h2
    exact hp p (mem_cons_self ..) (mem_of_getElem? h2)
   cases cuts with
   |nil=>
    have e:f=a:=hc
    exact absurd hcut (hn _ (by omega))
   |cons k cs=>
    obtain ⟨h1,h2,h3,h4⟩:=hc
    have ek:k=a+p.length:=by
     rcases Nat.lt_trichotomy k (a+p.length) with h|h|h
     ·exact absurd h2 (hbef k h1 h)
     ·exact h
     ·exact absurd hcut (h3 _ (by omega) h)
    subst ek
    show strSub x a (a+p.length)::partsFrom x y.length (a+p.length+y.length) cs=p::q::r
    congr 1
    ·apply Str.ext'
     apply Array.toList_inj.mp
     rw[strSub_toList,hx]
     exact List.take_left' (by rw[length_toList];show p.length=_;omega)
    ·refine ih _ cs f (by simp) (λz hz=>hp z (mem_cons_of_mem _ hz)) hpl ?_ h4 hn
     rw[<-List.drop_drop,hdp]
     exact List.drop_left' (by rw[length_toList];rfl)
theorem ybv(y:Str)(c:Nat)(y':List Nat)(hy:y.cps.toList=c::y')(hk:PySem.Builtin.Str.strKind y=1)(ps:List Str)(h0:ps≠[])(hp:∀p∈ps,c∉p.cps.toList):Txt.split (Str.join y ps) y=ps:=by
 have hyl:1<=y.length:=by
  show 1<=y.cps.size
  rw[<-length_toList,hy];simp
 generalize hx:Str.join y ps=x
 obtain ⟨f,hG,hn⟩:=occ_tight x y hyl
 have key:=yd8 x y c y' hy ps 0 _ f h0 hp (zero_le _) (by rw[hx];rfl) hG hn
 unfold Txt.split
 split
 ·rename_i h1
  rcases Bool.or_eq_true_iff.mp h1 with h2|h2
  ·have h3:=of_decide_eq_true h2
   cases ps with
   |nil=>exact absurd rfl h0
   |cons p r=>
    cases r with
    |nil=>rw[<-hx];rfl
    |cons q r=>
     exfalso
     have h4:=congrArg List.length (qd5 y p q r)
     rw[hx,length_append,length_append,length_toList,length_toList,length_toList]at h4
     have e2:y.cps.size=y.length:=rfl
     have e3:x.cps.size=x.length:=rfl
     omega
  ·exfalso
   have h3:=of_decide_eq_true h2
   rw[hk]at h3
   unfold PySem.Builtin.Str.strKind at h3
   split at h3
   ·omega
   ·split at h3<;>omega
 ·split
  ·rename_i h2
   have h3:occurrences x y 0 x.length (x.length+1)=[]:=List.isEmpty_iff.mp h2
   rw[h3]at key
   rw[<-key]
   show [x]=[strSub x 0 x.length]
   rw[sub_whole]
  ·rw[partsBetween_eq]
   exact key
theorem Vals.strs:∀{ys:List Str}{us:List Value},Vals (ys.map V.str) us->StrsAre us ys
 |[],_,.nil=>.nil
 |y::ys,_,.cons r t=>by
  obtain ⟨k,rfl⟩:=r
  exact .cons y k (Vals.strs t)
theorem yew:∀(l:List (Str×Tok)),Vals ((l.map (·.1)).map V.str) (strValues l)
 |[]=>.nil
 | (x,k)::l=>.cons ⟨k,rfl⟩ (yew l)
section
variable {X:Cx}
noncomputable def rJoin:V->List V->Hp->VK->Prop:=λx vs H Q=>∃(sep:Str) (l:Addr) (ys:List Str),x=.str sep/\vs=[.ref l]/\H l=some (.lst (ys.map V.str))/\(ys.map (·.length)).sum+ys.length*sep.length<=16777216/\Q (.str (Str.join sep ys)) H
theorem qb6:MtM X "str.join" rJoin:=by
 intro pins s σ H x vs v us Q I rx rv h
 obtain ⟨sep,l,ys,rfl,rfl,hH,z,q⟩:=h
 obtain ⟨k,rfl⟩:=rx
 obtain ⟨u,rfl,ru⟩:=rv.one
 cases ru
 obtain ⟨_,its,n,r,hl,e⟩:=I.lstM hH
 refine join_list (items:=its.toArray) ⟨_,e,rfl,n,rfl⟩ r.strs z λt' k'=>?_
 rw[show Txt.join sep ys=Str.join sep ys from glued_eq_join sep ys]
 exact ⟨.str (Str.join sep ys),H,I.tok _,⟨_,rfl⟩,q⟩
noncomputable def rSplit:V->List V->Hp->VK->Prop:=λx vs H Q=>∃(t y:Str),x=.str t/\vs=[.str y]/\0<y.length/\t.length<sizeLine/\∀p,H p=none->Q (.ref p) (upd H p (.lst ((Txt.split t y).map V.str)))
theorem qd8:MtM X "str.split" rSplit:=by
 intro pins s σ H x vs v us Q I rx rv h
 obtain ⟨t,y,rfl,rfl,hy,z,q⟩:=h
 obtain ⟨k,rfl⟩:=rx
 obtain ⟨u,rfl,ru⟩:=rv.one
 obtain ⟨k2,rfl⟩:=ru
 have hw:=split_weight t y hy
 have hf:H s.heap.objs.size=none:=I.hok.fresh (le_refl _)
 have hy0:(y.length == 0)=false:=by simp;omega
 have mk:∀(l:List (Str×Tok)) (k:Nat),l.map (·.1)=Txt.split t y->EP X pins σ Q (.ref s.heap.objs.size) { s with toks:=k,heap:=s.heap.push { cls:=.type "list",data:=.seq (strValues l).toArray } }:=λl k hl=>by
  have zl:((Txt.split t y).map V.str).length<=sizeLine:=by rw[length_map];omega
  refine ⟨.ref s.heap.objs.size,_,I.laid (o:=.lst ((Txt.split t y).map V.str)) (t':=k) (λb u e=>get?_push_of_some _ e) (le_refl _) ?_,rfl,q _ hf⟩
  exact ⟨zl,strValues l,0,by rw[<-hl];exact yew l,get?_push_size _ rfl⟩
 by_cases h1:(decide (t.length<y.length)||decide (PySem.Builtin.Str.strKind t<PySem.Builtin.Str.strKind y))=true
 ·have e1:Txt.split t y=[t]:=by unfold Txt.split;rw[if_pos h1]
  exact call_meets F.slot_str_split (typeIs_str _ _ _) F.entry_str_split (F.args_str_split_2 _ _) (meets_str_split_cannot_occur t y k k2 h1) (mk [(t,k)] s.toks e1.symm)
 ·have h1':=eq_false_of_ne_true h1
  by_cases h2:(occurrences t y 0 t.length (t.length+1)).isEmpty=true
  ·have e1:Txt.split t y=[t]:=by unfold Txt.split;rw[if_neg h1,if_pos h2]
   exact call_meets F.slot_str_split (typeIs_str _ _ _) F.entry_str_split (F.args_str_split_2 _ _) (meets_str_split_not_found t y k k2 h1' hy0 h2) (mk [(t,k)] s.toks e1.symm)
  ·have e1:Txt.split t y=partsBetween t (occurrences t y 0 t.length (t.length+1)) y.length:=by unfold Txt.split;rw[if_neg h1,if_neg h2]
   rw[e1]at hw
   refine call_meets F.slot_str_split (typeIs_str _ _ _) F.entry_str_split (F.args_str_split_2 _ _) (meets_str_split_sep t y k k2 h1' hy0 (eq_false_of_ne_true h2) (by omega) (by omega)) ?_
   have m:=mk (numbered s.toks (partsBetween t (occurrences t y 0 t.length (t.length+1)) y.length)) (s.toks+(partsBetween t (occurrences t y 0 t.length (t.length+1)) y.length).length) ((numbered_texts _ _).trans e1.symm)
   rw[<-strsFrom_eq]at m
   exact m
end
end L2
namespace L2
open PySem PySem.Spec PyProof.Rows PyProof.Rows.KTD
noncomputable def TabK(K:W.Frag)(a:Addr)(D:List (Str×List V)):Prop:=
 (a == sysModules)=false/\∃o es ep,K.lookup a=some o/\o.ExactDict/\o.data=.dict es ep/\KTD.Rows (λxs v=>∃p,v=.ref p/\∀H,SqT K H p xs) es.toList D
section
variable {prog:Program}{w:World}{A:Around}{E:Value->Shared->Prop}{s:Shared}{a:Addr}{k:Str}{tk:Tok}{o:Obj}{es:Array DictEntry}{ep:Nat}
theorem qe1{Q:Option Value->Shared->Prop}(g:s.heap.get? a=some o)(gd:o.data=.dict es ep)(ge:(es.toList.all λe=>isExactStrKey e.key)=true)
  (q:Q ((es.toList.find? λe=>e.key.isStr k).map (·.val)) { s with toks:=s.toks+1 }):wpAny (model prog w) A (dictGet a (.str k tk)) Q E s:=by
 obtain ⟨l⟩:=es
 have q2:Q (findBy (λk v=>v.isStr k) ⟨l⟩ k) { s with toks:=s.toks+1 }:=by
  rw[show findBy (λk v=>v.isStr k) (⟨l⟩:Array DictEntry) k=(l.find? λe=>e.key.isStr k).map (·.val) by simp[findBy]]
  exact q
 unfold dictGet
 try with_reducible refine wpAny_holding ?_
 refine wpAny_bind (wpAny_pyHash_str ?_)
 refine wpAny_bind ?_
 refine kt_dictFind_strs (s:={ s with toks:=s.toks+1 }) g gd (by simpa using ge) ?_
 rw[findBy_of_findIdx?]at q2
 revert q2
 cases (⟨l⟩:Array DictEntry).findIdx? λe=>e.key.isStr k with
 |none=>intro q2;exact wpAny_pure q2
 |some i=>intro q2;refine wpAny_bind ?_;exact wpAny_dictEntries (s:={ s with toks:=s.toks+1 }) g gd (wpAny_pure q2)
end
section
variable {X:Cx}{pins:List (Addr×Obj)}{σ:St}{H:Hp}{s:Shared}{a:Addr}{D:List (Str×List V)}
theorem TabK.dict(I:Inv X pins σ H s)(T:TabK X.K a D):s.TypeIs (.ref a) "dict"/\∀b,Value.ref a=.ref b->∃ob,s.heap.get? b=some ob/\ob.dict=none:=by
 obtain ⟨_,o,es,ep,hl,hx,hd,hr⟩:=T
 refine ⟨⟨o,I.kIn a o hl,hx.1⟩,λb e=>?_⟩
 cases e
 exact ⟨o,I.kIn a o hl,hx.2.1⟩
theorem TabK.ask{k:Str}{tk:Tok}{E:Value->Shared->Prop}{A:Around}{Q:Option Value->Shared->Prop}(I:Inv X pins σ H s)(T:TabK X.K a D)
  (h1:∀xs p,datumAt k D=some xs->(∀H,SqT X.K H p xs)->Q (some (.ref p)) { s with toks:=s.toks+1 }) (h2:datumAt k D=none->Q none { s with toks:=s.toks+1 }):wpAny (model X.prog X.w) A (dictGet a (.str k tk)) Q E s:=by
 obtain ⟨_,o,es,ep,hl,hx,hd,hr⟩:=T
 refine qe1 (I.kIn a o hl) hd hr.exact ?_
 cases hat:datumAt k D with
 |some xs=>
  obtain ⟨v,hv,p,rfl,hp⟩:=hr.find_some hat
  rw[hv]
  exact h1 xs p hat hp
 |none=>rw[hr.find_none hat];exact h2 hat
noncomputable def rGetT(K:W.Frag)(D:List (Str×List V)):V->List V->Hp->VK->Prop:=λx vs H Q=>∃a k,x=.ref a/\vs=[.str k]/\TabK K a D/\(∀xs p,datumAt k D=some xs->(∀H,SqT K H p xs)->Q (.ref p) H)/\(datumAt k D=none->Q .non H)
theorem mt_getT:MtR X "dict.get" (rGetT X.K D):=by
 intro pins s σ H x vs v us Q I rx rv h
 obtain ⟨a,k,rfl,rfl,T,h1,h2⟩:=h
 cases rx
 obtain ⟨u,rfl,ru⟩:=rv.one
 obtain ⟨tk,rfl⟩:=ru
 have hw:MeetsIn X.prog X.w (Builtin.«dict.get» ⟨[.ref a,.str k tk],[]⟩) (λ_ R s'=>s'=s/\(∀v,EP X pins σ Q v { s with toks:=s.toks+1 }->R (.ok (.ret v)) { s with toks:=s.toks+1 })):=.of_wp λA R s' ⟨es,hR⟩=>by
  subst es
  show wpAny _ _ (dictGet a (.str k tk) >>= _) _ _ _
  refine wpAny_bind (T.ask I (λxs p hd hp=>wpAny_pure ⟨_,rfl,hR _ ⟨.ref p,H,I.tok _,rfl,h1 xs p hd hp⟩⟩) λhn=>?_)
  show wpAny _ _ (Builtin.Dict.missed a (.str k tk) >>= _) _ _ _
  exact wpAny_bind (wpAny_missed_other T.1 (wpAny_pure ⟨.none,rfl,hR _ ⟨.non,H,I.tok _,rfl,h2 hn⟩⟩))
 exact call_meetsIn PySem.F.slot_dict_get (T.dict I).1 PySem.F.entry_dict_get (PySem.F.args_dict_get_2 _ _) hw ⟨rfl,λv z=>z⟩
noncomputable def tGM(K:W.Frag)(D:List (Str×List V))(a:Addr)(t:TA):TE:=λσ H Q=>t σ H λxs H1=>rGetT K D (.ref a) xs H1 Q
theorem pe_getT{K:W.Frag}{ox e:Expr}{es:List Expr}{t:TA}{apos cpos:Pos}(hK:X.K=K)(T:TabK K a D)(ho:PE X ox (tC (.ref a)))(ha:PA X (e::es) t)
  (hbase:attributeBase ox "get" X.env (eval ox X.env)=eval ox X.env:=by rfl)
  (hfew:((backTo cpos (starEach (e::es) X.env)).all (λx=>!x.1)&&(backToKw cpos (keywordEach [] X.env)).all (λx=>x.1.isSome)
   && decide ((e::es).length+([]:List Keyword).length+(if ([]:List Keyword).isEmpty then 0 else 1)<30))=true:=by rfl)
  (hline:(apos.endLine == cpos.line)=true:=by rfl) (hs:starEach (e::es) X.env=(false,eval e X.env)::starEach es X.env:=by rfl) (hplain:(backTo cpos (starEach es X.env)).any (·.1)=false:=by rfl) :
  PE X (.Call (.Attribute ox "get" apos) (e::es) [] cpos) (tGM K D a t):=by
 subst hK
 intro pins s σ H Q I h
 refine wpAny_Call_method_late hbase hfew hline rfl (thn (ho pins s σ H (λx H1=>x=.ref a/\t σ H1 λxs H2=>rGetT X.K D (.ref a) xs H2 Q) I ⟨rfl,h⟩) λv s1 ⟨x,H1,I1,r1,ex,q1⟩=>?_)
 subst ex
 cases r1
 obtain ⟨h1,h2⟩:=T.dict I1
 refine ⟨"dict","dict.get",PySem.F.plainAttrs_dict,PySem.F.slot_dict_get,PySem.F.type_dict_get,h1,h2,?_⟩
 have hA:=ha cpos pins s1 σ H1 _ I1 q1
 rw[hs]at hA ⊢
 refine Calls.callWith_builtin (by show (false||(backTo cpos (starEach es X.env)).any (·.1))=false;rw[hplain]<;>rfl) (Calls.evalArgs_plain ?_)
 exact thn hA λus s2 ⟨vs,H2,I2,r2,q2⟩=>mt_getT pins s2 σ H2 (.ref a) vs (.ref a) us Q I2 rfl r2 q2
mutual
inductive AtK(K:W.Frag)(H:Hp):V->PyData->Prop
 |non:AtK K H .non .none
 |bl (b:Bool):AtK K H (.bl b) (.bool b)
 |int (i:Int):AtK K H (.int i) (.int i)
 |str (x:Str):AtK K H (.str x) (.str x)
 |lst {a:Addr}{vs:List V}{ds:List PyData}:H a=some (.lst vs)->AtKAll K H vs ds->AtK K H (.ref a) (.list ds)
 |tup {a:Addr}{vs:List V}{ds:List PyData}:SqT K H a vs->AtKAll K H vs ds->AtK K H (.ref a) (.tuple ds)
inductive AtKAll(K:W.Frag)(H:Hp):List V->List PyData->Prop
 |nil:AtKAll K H [] []
 |cons {v:V}{d:PyData}{vs:List V}{ds:List PyData}:AtK K H v d->AtKAll K H vs ds->AtKAll K H (v::vs) (d::ds)
end
theorem SqT.same{K:W.Frag}{H H':Hp}{a:Addr}{xs:List V}(s:Same H H')(h:SqT K H a xs):SqT K H' a xs:=by
 rcases h with h|h
 ·rcases h with h|⟨o,h⟩
  ·exact .inl (.inl (s _ _ h))
  ·exact .inl (.inr ⟨o,s _ _ h⟩)
 ·exact .inr h
mutual
theorem AtK.same{K:W.Frag}{H H':Hp}(s:Same H H'):∀{v:V}{d:PyData},AtK K H v d->AtK K H' v d
 |_,_,.non=>.non
 |_,_,.bl b=>.bl b
 |_,_,.int i=>.int i
 |_,_,.str x=>.str x
 |_,_,.lst e t=>.lst (s _ _ e) (AtKAll.same s t)
 |_,_,.tup e t=>.tup (SqT.same s e) (AtKAll.same s t)
theorem AtKAll.same{K:W.Frag}{H H':Hp}(s:Same H H'):∀{vs:List V}{ds:List PyData},AtKAll K H vs ds->AtKAll K H' vs ds
 |_,_,.nil=>.nil
 |_,_,.cons a b=>.cons (AtK.same s a) (AtKAll.same s b)
end
mutual
theorem At.toK{K:W.Frag}{H:Hp}:∀{v:V}{d:PyData},At H v d->AtK K H v d
 |_,_,.non=>.non
 |_,_,.bl b=>.bl b
 |_,_,.int i=>.int i
 |_,_,.str x=>.str x
 |_,_,.lst e t=>.lst e (AtAll.toK t)
 |_,_,.tup e t=>.tup (.inl (.inl e)) (AtAll.toK t)
theorem AtAll.toK{K:W.Frag}{H:Hp}:∀{vs:List V}{ds:List PyData},AtAll H vs ds->AtKAll K H vs ds
 |_,_,.nil=>.nil
 |_,_,.cons a b=>.cons (At.toK a) (AtAll.toK b)
end
end
end L2
namespace L2
open PySem PySem.Spec PyProof.Rows
section
variable {X:Cx}
theorem Vals.back:∀{xs:List V}{us:List Value},Vals xs us->∀u∈us,∃v∈xs,RelV v u
 |_,_,.nil,u,h=>nomatch h
 |x::xs,_,.cons r t,u,h=>by
  rcases mem_cons.mp h with rfl|h
  ·exact ⟨x,mem_cons_self ..,r⟩
  ·obtain ⟨v,hv,rv⟩:=Vals.back t u h
   exact ⟨v,mem_cons_of_mem _ hv,rv⟩
theorem qbs:bootBuiltins "sorted"=some (.builtin "sorted"):=by decide +kernel
theorem qes:∀{us:List Value}{ys:List Str},StrsAre us ys->Vals (ys.map V.str) us
 |_,_,.nil=>.nil
 |_,_,.cons y t r=>.cons ⟨t,rfl⟩ (qes r)
theorem qed:bootBuiltins "all"=some (.builtin "all"):=by decide +kernel
noncomputable def rAllB:List V->Hp->VK->Prop:=λxs H Q=>∃(l:Addr) (bs:List Bool),xs=[.ref l]/\H l=some (.lst (bs.map V.bl))/\Q (.bl (bs.all id)) H
theorem qgp(bs:List Bool):(List.range bs.length).all (λi=>bs.getD i false)=bs.all id:=by
 rw[Bool.eq_iff_iff,all_eq_true,all_eq_true]
 constructor
 ·intro h b hb
  obtain ⟨i,hi,e⟩:=List.getElem_of_mem hb
  have:=h i (mem_range.mpr hi)
  rw[List.getD_eq_getElem?_getD,getElem?_eq_getElem hi]at this
  rw[<-e];exact this
 ·intro h i hi
  have hi':=mem_range.mp hi
  rw[List.getD_eq_getElem?_getD,getElem?_eq_getElem hi']
  exact h _ (getElem_mem hi')
theorem truth_bs{P:Program}{w:World}{A:Around}(bs:List Bool):TruthOf P w A (λi v=>(bs.map Value.bool).toArray[i]?=some v) (λi=>bs.getD i false):=by
 intro i v s Q E hP hQ
 have hP':(bs.map Value.bool)[i]?=some v:=by simpa using hP
 rw[getElem?_map]at hP'
 cases e:bs[i]? with
 |none=>rw[e]at hP';cases hP'
 |some b=>
  rw[e]at hP'
  cases hP'
  have hQ':Q (bs.getD i false) s:=hQ
  rw[List.getD_eq_getElem?_getD,e]at hQ'
  exact wpAny_truthy_bool hQ'
theorem yey(hc:X.calm=true):qca X (.builtin "all") rAllB:=by
 intro pins s σ H xs us Q I r h
 obtain ⟨l,bs,rfl,hH,q⟩:=h
 cases r with
 |cons r rr=>
  cases rr
  cases r
  obtain ⟨z,its,n,rv,hl,e⟩:=I.lstM hH
  have hi:=rv.bls
  subst hi
  have hlt:l<s.heap.objs.size:=lt_size e
  refine call_all_walk (wpAny_pyIter_list (items:=(bs.map Value.bool).toArray) ⟨_,e,rfl,n,rfl⟩ ⟨_,_,_,_,_,_,_,rfl,Walks.list (by simpa using I.ok.hd hc) s.heap.objs.size l (ne_of_lt hlt) (bs.map Value.bool).toArray,⟨⟨_,get?_push_size _ rfl,rfl,rfl⟩,⟨_,get?_push_of_some _ e,rfl,n,rfl⟩⟩,truth_bs bs,λh' tk hk=>?_⟩)
  rw[size_toArray,length_map,qgp]
  refine ⟨.bl (bs.all id),H,I.kept λb o g=>hk b o ?_ (get?_push_of_some _ g),rfl,q⟩
  intro hb
  rw[mem_singleton]at hb
  exact absurd (lt_size g) (by rw[hb];exact lt_irrefl _)
end
section
variable {X:Cx}{a b:Expr}{ta tb:TE}{pos:Pos}
noncomputable def tOrL(K:W.Frag)(ta tb:TE):TE:=λσ H Q=>ta σ H λx H1=>∃k,TruV K x H1 k/\if k=true then Q x H1 else tb σ H1 Q
theorem pe_orL(ha:PE X a ta)(hb:PE X b tb):PE X (.BoolOp .Or [a,b] pos) (tOrL X.K ta tb):=by
 intro pins s σ H Q I h
 refine BoolOp_or (thn (ha pins s σ H _ I h) λv s1 ⟨x,H1,I1,r1,q1⟩=>?_)
 obtain ⟨k,hk,q1⟩:=q1
 refine thn (tru_ok pins s1 σ H1 x v (λc H'=>if c=true then Q x H' else tb σ H' Q) I1 r1 ⟨k,hk,q1⟩) λc s2 ⟨H2,I2,q2⟩=>?_
 cases c with
 |false=>exact ybe hb pins s2 σ H2 Q I2 (by simpa using q2)
 |true=>exact ⟨x,H2,I2,r1,by simpa using q2⟩
noncomputable def rCatS(K:W.Frag):R2:=λx y H Q=>∃l b xs zs,x=.ref l/\y=.ref b/\SqL K H l xs/\SqL K H b zs/\xs.length+zs.length<=sizeLine/\∀p,H p=none->Q (.ref p) (upd H p (.lst (xs++zs)))
theorem qgl:OpR X (binaryOp .Add) (rCatS X.K):=by
 intro pins s σ H x y v u Q I rx ry h
 obtain ⟨l,b,xs,zs,rfl,rfl,hH,hB,hz,q⟩:=h
 cases rx
 cases ry
 obtain ⟨vs,r,pl,_⟩:=I.list hH
 obtain ⟨ws,r2,pl2,_⟩:=I.list hB
 obtain ⟨⟨cls,dd,data,sl⟩,ho,hc,n,hd⟩:=pl.isList
 obtain ⟨⟨cls2,dd2,data2,sl2⟩,ho2,hc2,n2,hd2⟩:=pl2.isList
 simp only at hc hd hc2 hd2
 subst hc hd hc2 hd2
 have l1:=r.length
 have l2:=r2.length
 refine concat_meets ⟨_,ho,rfl⟩ ⟨_,ho2,rfl⟩ noFill_list_add seq_list_add PySem.F.slot_list_add PySem.F.entry_list_add (PySem.F.args_list_add_2 _ _) (list_addW l b vs.toArray ws.toArray n n2 dd dd2 sl sl2 (by simp;omega)) ⟨ho,ho2,?_⟩
 have ea:vs.toArray++ws.toArray=(vs++ws).toArray:=by simp
 rw[ea]
 exact ⟨.ref _,_,I.lnew (t':=s.toks) (r.append r2) (by rw[length_append];omega),rfl,q _ I.fresh⟩
end
section
variable {κ:Type} [DecidableEq κ]
noncomputable def valV(kvs:List (κ×V))(k:κ):Option V:=(kvs.find? λkv=>decide (kv.1=k)).map (·.2)
noncomputable def putK(kvs:List (κ×V))(k:κ)(v:V):List (κ×V):=
 if (kvs.any λkv=>decide (kv.1=k))=true then kvs.map (λkv=>if kv.1=k then (kv.1,v) else kv) else kvs++[(k,v)]
noncomputable def qek(kvs:List (κ×V))(k:κ):List (κ×V):=kvs.filter λkv=>decide (kv.1≠k)
theorem qc3{p:κ×V}{r:List (κ×V)}{k:κ}(e:p.1=k):valV (p::r) k=some p.2:=by simp[valV,find?_cons,e]
theorem yc4{p:κ×V}{r:List (κ×V)}{k:κ}(e:¬ p.1=k):valV (p::r) k=valV r k:=by simp[valV,find?_cons,e]
theorem yfp(k:κ):∀kvs:List (κ×V),(kvs.any λkv=>decide (kv.1=k))=(valV kvs k).isSome
 |[]=>rfl
 |p::r=>by
  rw[any_cons]
  by_cases e:p.1=k
  ·simp only[qc3 e,decide_eq_true e,Bool.true_or,Option.isSome_some]
  ·rw[yc4 e,decide_eq_false e,Bool.false_or];exact yfp k r
theorem qc9(kvs:List (κ×V))(k:κ)(v:V):(putK kvs k v).length<=kvs.length+1:=by
 unfold putK
 split
 ·rw[length_map];omega
 ·rw[length_append,length_cons,List.length_nil];omega
theorem RelO.isSome_eq{o:Option V}{u:Option Value}(r:RelO o u):o.isSome=u.isSome:=by
 cases o with
 |none=>cases u with
  |none=>rfl
  |some _=>exact (show False from r).elim
 |some _=>cases u with
  |none=>exact (show False from r).elim
  |some _=>rfl
theorem KV.val{kvs:List (κ×V)}{vs:List (κ×Value)}(r:KV kvs vs)(k:κ):RelO (valV kvs k) (valueAt vs k):=by
 unfold KV at r
 induction r with
 |nil=>exact True.intro
 |@cons p q ps qs h t ih=>
  obtain ⟨h1,h2⟩:=h
  by_cases e:p.1=k
  ·have e':q.1=k:=h1.symm.trans e
   have b:valueAt (q::qs) k=some q.2:=by simp[valueAt,find?_cons,e']
   rw[qc3 e,b];exact h2
  ·have e':¬ q.1=k:=λz=>e (h1.trans z)
   have b:valueAt (q::qs) k=valueAt qs k:=by simp[valueAt,find?_cons,e']
   rw[yc4 e,b];exact ih
theorem KV.any{kvs:List (κ×V)}{vs:List (κ×Value)}(r:KV kvs vs)(k:κ):(kvs.any λkv=>decide (kv.1=k))=vs.any λkv=>decide (kv.1=k):=by
 unfold KV at r
 induction r with
 |nil=>rfl
 |cons h t ih=>rw[any_cons,any_cons,ih,h.1]
theorem KV.repl{kvs:List (κ×V)}{vs:List (κ×Value)}(r:KV kvs vs)(k:κ){y:V}{u:Value}(ry:RelV y u) :
  KV (kvs.map λkv=>if kv.1=k then (kv.1,y) else kv) (vs.map λkv=>if kv.1=k then (kv.1,u) else kv):=by
 unfold KV at r ⊢
 induction r with
 |nil=>exact .nil
 |@cons p q ps qs h t ih=>
  rw[map_cons,map_cons]
  refine .cons ?_ ih
  obtain ⟨h1,h2⟩:=h
  by_cases e:p.1=k
  ·rw[if_pos e,if_pos (h1.symm.trans e)];exact ⟨h1,ry⟩
  ·rw[if_neg e,if_neg (λz=>e (h1.trans z))];exact ⟨h1,h2⟩
theorem KV.put{kvs:List (κ×V)}{vs:List (κ×Value)}(r:KV kvs vs)(k:κ){y:V}{u:Value}(ry:RelV y u):KV (putK kvs k y) (stored vs k u):=by
 unfold putK stored
 rw[r.any k]
 by_cases e:(vs.any λkv=>decide (kv.1=k))=true
 ·rw[if_pos e,if_pos e];exact r.repl k ry
 ·rw[if_neg e,if_neg e];exact Paired.snoc r ⟨rfl,ry⟩
theorem KV.drop{kvs:List (κ×V)}{vs:List (κ×Value)}(r:KV kvs vs)(k:κ):KV (qek kvs k) (without vs k):=by
 unfold KV at r ⊢
 unfold qek without
 induction r with
 |nil=>exact .nil
 |@cons p q ps qs h t ih=>
  obtain ⟨h1,h2⟩:=h
  rw[List.filter_cons,List.filter_cons]
  by_cases e:p.1=k
  ·have a:¬ decide (p.1≠k)=true:=by simp[e]
   have b:¬ decide (q.1≠k)=true:=by simp[h1.symm.trans e]
   rw[if_neg a,if_neg b];exact ih
  ·have e':¬ q.1=k:=λz=>e (h1.trans z)
   have a:decide (p.1≠k)=true:=by simp[e]
   have b:decide (q.1≠k)=true:=by simp[e']
   rw[if_pos a,if_pos b];exact .cons ⟨h1,h2⟩ ih
theorem KV.length{kvs:List (κ×V)}{vs:List (κ×Value)}(r:KV kvs vs):kvs.length=vs.length:=Paired.length r
theorem dropK_le(kvs:List (κ×V))(k:κ):(qek kvs k).length<=kvs.length:=List.length_filter_le _ _
end
theorem ygf{P:Program}{w:World}{k:Key}{u:Value}(r:RelV (kV k) u):(yas P w).is k u=true:=by
 cases k with
 |inl i=>obtain ⟨t,e⟩:=(show ∃t,u=Value.int i t from r);subst e;exact yfh P w i t
 |inr x=>obtain ⟨t,e⟩:=(show ∃t,u=Value.str x t from r);subst e;exact qfi P w x t
theorem qez{P:Program}{w:World}:∀{ks:List Key}{us:List Value},Vals (ks.map kV) us->ItemsAre (yas P w) ks us
 |[],_,r=>by rw[List.map_nil]at r;cases r;exact .nil
 |k::ks,_,r=>by
  rw[map_cons]at r
  cases r with
  |cons h t=>exact .cons (ygf h) (qez t)
noncomputable abbrev KT(H:Hp):List (List Key×V)->List (List Key×Addr×Value)->Prop:=Paired λp q=>p.1=q.1/\H q.2.1=some (.tup (p.1.map kV))/\RelV p.2 q.2.2
theorem KT.val{H:Hp}{kvs:List (List Key×V)}{xs:List (List Key×Addr×Value)}(r:KT H kvs xs)(k:List Key):RelO (valV kvs k) ((atKey xs k).map (·.2)):=by
 induction r with
 |nil=>exact True.intro
 |@cons p q ps qs h t ih=>
  obtain ⟨h1,_,h2⟩:=h
  by_cases e:p.1=k
  ·have e':q.1=k:=h1.symm.trans e
   have b:atKey (q::qs) k=some q.2:=by simp[atKey,find?_cons,e']
   rw[qc3 e,b];exact h2
  ·have e':¬ q.1=k:=λz=>e (h1.trans z)
   have b:atKey (q::qs) k=atKey qs k:=by simp[atKey,find?_cons,e']
   rw[yc4 e,b];exact ih
theorem KT.repl{H:Hp}{kvs:List (List Key×V)}{xs:List (List Key×Addr×Value)}(r:KT H kvs xs)(k:List Key){y:V}{u:Value}(ry:RelV y u) :
  KT H (kvs.map λkv=>if kv.1=k then (kv.1,y) else kv) (xs.map (putAt k u)):=by
 induction r with
 |nil=>exact .nil
 |@cons p q ps qs h t ih=>
  rw[map_cons,map_cons]
  refine .cons ?_ ih
  obtain ⟨h1,h2,h3⟩:=h
  unfold putAt
  by_cases e:p.1=k
  ·rw[if_pos e,if_pos (h1.symm.trans e)];exact ⟨h1,h2,ry⟩
  ·rw[if_neg e,if_neg (λz=>e (h1.trans z))];exact ⟨h1,h2,h3⟩
theorem KT.put{H:Hp}{kvs:List (List Key×V)}{xs:List (List Key×Addr×Value)}(r:KT H kvs xs)(k:List Key){b:Addr}{y:V}{u:Value}(hb:H b=some (.tup (k.map kV)))(ry:RelV y u) :
  KT H (putK kvs k y) (storedH xs k b u):=by
 have e:(kvs.any λkv=>decide (kv.1=k))=(atKey xs k).isSome:=by
  rw[yfp,(r.val k).isSome_eq,Option.isSome_map]
 unfold putK storedH
 rw[e]
 by_cases q:(atKey xs k).isSome=true
 ·rw[if_pos q,if_pos q];exact r.repl k ry
 ·rw[if_neg q,if_neg q];exact Paired.snoc r ⟨rfl,hb,ry⟩
theorem KT.keeps{H H':Hp}{kvs:List (List Key×V)}{xs:List (List Key×Addr×Value)}(r:KT H kvs xs)(ht:∀b ys,H b=some (.tup ys)->H' b=some (.tup ys)):KT H' kvs xs:=
 Paired.mapP r λ_ _ z=>⟨z.1,ht _ _ z.2.1,z.2.2⟩
section
variable {P:Program}{w:World}{H:Hp}{h:Heap}{a:Addr}
theorem rd_of{u:HO}(ok:HOk P w H h)(e:Rd H a u):qat P w H h a u:=e.ok ok
theorem qe3{kvs:List (Key×V)}(ok:HOk P w H h)(e:Rd H a (.dK kvs)):kvs.length<=sizeLine/\(a == sysModules)=false/\∃vs,KV kvs vs/\h.DictOf (yas P w) a vs:=
 show qat P w H h a (.dK kvs) from rd_of ok e
theorem dk_of{kvs:List (Key×V)}(ok:HOk P w H h)(e:H a=some (.dK kvs)):kvs.length<=sizeLine/\(a == sysModules)=false/\∃vs,KV kvs vs/\h.DictOf (yas P w) a vs:=qe3 ok (.inl e)
theorem qfl{ks:List Key}(ok:HOk P w H h)(e:H a=some (.tup (ks.map kV))):(tupleKind (yas P w)).is h ks a:=by
 obtain ⟨_,its,r,o,h1,h2,n,h3⟩:=(show qat P w H h a (.tup (ks.map kV)) from ok a _ e)
 exact ⟨o,its.toArray,n,h1,h2,h3,by simpa using qez r⟩
theorem qg0{kvs:List (List Key×V)}(ok:HOk P w H h)(e:Rd H a (.dT kvs)):kvs.length<=sizeLine/\(a == sysModules)=false/\
  ∃xs,KT H kvs xs/\h.DictOfH (tupleKind (yas P w)) a xs:=by
 obtain ⟨z,y,xs,r,o,es,ep,h1,h2,h3,h4,h5⟩:=(show qat P w H h a (.dT kvs) from rd_of ok e)
 refine ⟨z,y,xs,r,o,es,ep,h1,h2,h3,h4,λx hx=>?_,h5⟩
 have all:∀{l:List (List Key×V)}{m:List (List Key×Addr×Value)},KT H l m->∀x∈m,(tupleKind (yas P w)).is h x.1 x.2.1:=by
  intro l m q
  induction q with
  |nil=>intro x hx;exact nomatch hx
  |@cons p q ps qs hq t ih=>
   intro x hx
   rcases mem_cons.mp hx with e|hx
   ·subst e
    exact qfl ok (by rw[<-hq.1];exact hq.2.1)
   ·exact ih x hx
 exact all r x hx
theorem dt_of{kvs:List (List Key×V)}(ok:HOk P w H h)(e:H a=some (.dT kvs)):kvs.length<=sizeLine/\(a == sysModules)=false/\
  ∃xs,KT H kvs xs/\h.DictOfH (tupleKind (yas P w)) a xs:=qg0 ok (.inl e)
end
noncomputable def DGet(H:Hp)(a:Addr)(y:V)(r:Option V):Prop:=
 (∃kvs k,Rd H a (.dK kvs)/\y=kV k/\r=valV kvs k)\/∃kvs k b,Rd H a (.dT kvs)/\y=.ref b/\H b=some (.tup (k.map kV))/\r=valV kvs k
noncomputable def DPut(H:Hp)(a:Addr)(y v:V)(H':Hp):Prop:=
 (∃kvs k,H a=some (.dK kvs)/\y=kV k/\kvs.length<sizeLine/\H'=upd H a (.dK (putK kvs k v)))\/
 ∃kvs k b,H a=some (.dT kvs)/\y=.ref b/\H b=some (.tup (k.map kV))/\kvs.length<sizeLine/\H'=upd H a (.dT (putK kvs k v))
theorem DGet.k{H:Hp}{a:Addr}{kvs:List (Key×V)}{k:Key}(e:H a=some (.dK kvs)):DGet H a (kV k) (valV kvs k):=.inl ⟨kvs,k,.inl e,rfl,rfl⟩
theorem DPut.k{H:Hp}{a:Addr}{kvs:List (Key×V)}{k:Key}{v:V}(e:H a=some (.dK kvs))(hl:kvs.length<sizeLine):DPut H a (kV k) v (upd H a (.dK (putK kvs k v))):=.inl ⟨kvs,k,e,rfl,hl,rfl⟩
section
variable {X:Cx}{pins:List (Addr×Obj)}{σ:St}{H:Hp}{s:Shared}{a:Addr}{y v:V}{u r:Value}{o:Option V}{A:Around}{E:Value->Shared->Prop}
theorem Inv.big(I:Inv X pins σ H s):sysModules<s.heap.objs.size:=by
 have h:mainGlobals<s.heap.objs.size:=(I.mod.glob.keeps I.bk).lt
 exact Nat.lt_trans (by decide) h
theorem qgc{Q:Value->Shared->Prop}(hu:A.units+1<cLine)(I:Inv X pins σ H s)(g:DGet H a y (some v))(ry:RelV y u)(h:∀w' s',Inv X pins σ H s'->RelV v w'->Q w' s') :
  wpAny (model X.prog X.w) A (getItem (.ref a) u) Q E s:=by
 rcases g with ⟨kvs,k,e,ey,l⟩|⟨kvs,k,b,e,ey,eb,l⟩
 ·subst ey
  obtain ⟨z,hd,vs,rel,dd⟩:=qe3 I.hok e
  obtain ⟨w',hw,rw'⟩:=RelO.some_of (v:=v) (o:=valueAt vs k) (by rw[l];exact rel.val k)
  exact wpAny_getItem_of (ygf ry) dd.mapOf hw (h w' _ (I.tok _) rw')
 ·subst ey
  cases (show u=Value.ref b from ry)
  obtain ⟨z,hd,xs,rel,dd⟩:=qg0 I.hok e
  obtain ⟨w',hw,rw'⟩:=RelO.some_of (v:=v) (o:=(atKey xs k).map (·.2)) (by rw[l];exact rel.val k)
  obtain ⟨p,hp,hp2⟩:=Option.map_eq_some_iff.mp hw
  refine wpAny_getItem_heap (tupleKind_room_in1 hu) (qfl I.hok eb) dd hp ?_
  rw[hp2]
  exact h w' _ (I.tok _) rw'
theorem d_notIn{Q:Value->Shared->Prop}(hu:A.units+1<cLine)(I:Inv X pins σ H s)(g:DGet H a y o)(ry:RelV y u)(h:∀s',Inv X pins σ H s'->Q (.bool (!o.isSome)) s') :
  wpAny (model X.prog X.w) A (compareOp .NotIn u (.ref a)) Q E s:=by
 rcases g with ⟨kvs,k,e,ey,l⟩|⟨kvs,k,b,e,ey,eb,l⟩
 ·subst ey
  obtain ⟨z,hd,vs,rel,dd⟩:=qe3 I.hok e
  refine wpAny_notIn_of (ygf ry) hd dd.mapOf ?_
  rw[<-(rel.val k).isSome_eq,<-l]
  exact h _ (I.tok _)
 ·subst ey
  cases (show u=Value.ref b from ry)
  obtain ⟨z,hd,xs,rel,dd⟩:=qg0 I.hok e
  refine wpAny_notIn_heap (tupleKind_room_in1 hu) (qfl I.hok eb) hd dd ?_
  have q:=(rel.val k).isSome_eq
  rw[Option.isSome_map]at q
  rw[<-q,<-l]
  exact h _ (I.tok _)
theorem qe6{h':Heap}{t':Nat}{ob:HO}(I:Inv X pins σ H s)(mu:Mut (H a))(hs:Heap.SameBut a s.heap h')(he:∃q,h'.get? a=some q)(new:qat X.prog X.w (upd H a ob) h' a ob) :
  Inv X pins σ (upd H a ob) { s with heap:=h',toks:=t' }:=
 I.write (x:=a) (e:=a) mu (.inl rfl) (λb q hb z=>(hs.2 b hb).trans z) he new
theorem dk_new{P:Program}{w:World}{H':Hp}{h':Heap}{kvs:List (Key×V)}{vs:List (Key×Value)}(z:kvs.length<=sizeLine)(hd:(a == sysModules)=false)(rel:KV kvs vs)(dd:h'.DictOf (yas P w) a vs) :
  qat P w H' h' a (.dK kvs):=⟨z,hd,vs,rel,dd⟩
theorem qgx{H':Hp}{Q:Unit->Shared->Prop}(hu:A.units+1<cLine)(I:Inv X pins σ H s)(g:DPut H a y v H')(ry:RelV y u)(rv:RelV v r)(h:∀s',Inv X pins σ H' s'->Q () s') :
  wpAny (model X.prog X.w) A (setItem (.ref a) u r) Q E s:=by
 rcases g with ⟨kvs,k,e,ey,l,eH⟩|⟨kvs,k,b,e,ey,eb,l,eH⟩
 ·subst ey eH
  obtain ⟨z,hd,vs,rel,dd⟩:=dk_of I.hok e
  have hz:vs.length<=sizeLine:=by rw[<-rel.length];exact z
  have hl:(putK kvs k v).length<=sizeLine:=by have:=qc9 kvs k v;omega
  refine wpAny_setItem_pairs (hsz:=hz) (ygf ry) dd λh' dd' hs=>h _ ?_
  have he:∃q,h'.get? a=some q:=let ⟨q,_,_,hq,_⟩:=dd';⟨q,hq⟩
  exact qe6 I (by rw[e];exact True.intro) hs he (dk_new hl hd (rel.put k rv) dd')
 ·subst ey eH
  cases (show u=Value.ref b from ry)
  obtain ⟨z,hd,xs,rel,dd⟩:=dt_of I.hok e
  have hz:xs.length<=sizeLine:=by rw[<-Paired.length rel];exact z
  have hl:(putK kvs k v).length<=sizeLine:=by have:=qc9 kvs k v;omega
  refine wpAny_setItem_heap (hsz:=hz) (tupleKind_room_in1 hu) (qfl I.hok eb) dd λh' dd' hs=>h _ ?_
  obtain ⟨q,es,ep,hq,h2,h3,h4,_,h5⟩:=dd'
  refine qe6 I (by rw[e];exact True.intro) hs ⟨q,hq⟩ ⟨hl,hd,_,(rel.put k eb rv).keeps λc ys ec=>?_,q,es,ep,hq,h2,h3,h4,h5⟩
  rw[qaf (ne_of ec e (λz=>nomatch z))]
  exact ec
end
section
variable {X:Cx}{pins:List (Addr×Obj)}{σ:St}{H:Hp}{s:Shared}{a:Addr}{kvs:List (Key×V)}{k:Key}{u:Value}{A:Around}{E:Value->Shared->Prop}
theorem d_pop{v:V}{more:List Value}{Q:Value->Shared->Prop}(I:Inv X pins σ H s)(e:H a=some (.dK kvs))(ry:RelV (kV k) u)(l:valV kvs k=some v)(hm:more=[]\/∃x,more=[x])
  (h:∀w' s',Inv X pins σ (upd H a (.dK (qek kvs k))) s'->RelV v w'->Q w' s'):wpAny (model X.prog X.w) A (call (.builtin "dict.pop") (.ref a::u::more)) Q E s:=by
 obtain ⟨z,hd,vs,rel,dd⟩:=dk_of I.hok e
 obtain ⟨w',hw,rw'⟩:=RelO.some_of (v:=v) (o:=valueAt vs k) (by rw[<-l];exact rel.val k)
 have hp:(keyPart u).isSome=true:=by
  cases k with
  |inl i=>obtain ⟨t,q⟩:=(show ∃t,u=Value.int i t from ry);subst q;rfl
  |inr x=>obtain ⟨t,q⟩:=(show ∃t,u=Value.str x t from ry);subst q;rfl
 have ha:argsOk "dict.pop" ⟨.ref a::u::more,[]⟩:=by
  rcases hm with q|⟨x,q⟩
  ·subst q;exact PySem.F.args_dict_pop_2 _ _
  ·subst q;exact PySem.F.args_dict_pop_3 _ _ _
 refine call_meetsIn PySem.F.slot_dict_pop dd.typeIs PySem.F.entry_dict_pop ha (meets_dict_pop_there (yas X.prog X.w) a (ygf ry) more hm hp)
  ⟨vs,w',dd,by rw[<-rel.length];exact z,hw,λh' dd' hs=>h w' _ ?_ rw'⟩
 have he:∃q,h'.get? a=some q:=let ⟨q,_,_,hq,_⟩:=dd';⟨q,hq⟩
 exact qe6 I (by rw[e];exact True.intro) hs he (dk_new (le_trans (dropK_le kvs k) z) hd (rel.drop k) dd')
theorem d_len{Q:Value->Shared->Prop}(I:Inv X pins σ H s)(e:Rd H a (.dK kvs))(h:∀t s',Inv X pins σ H s'->Q (.int kvs.length t) s'):wpAny (model X.prog X.w) A (call (.builtin "len") [.ref a]) Q E s:=by
 obtain ⟨z,hd,vs,rel,dd⟩:=qe3 I.hok e
 refine call_len_dict hd dd (by rw[<-rel.length];rw[sizeLine_eq]at z;omega) ?_
 rw[<-rel.length]
 exact h _ _ (I.tok _)
end
noncomputable def NoSl(i:Expr):Prop:=∀ov iv,subscripted i false ov iv=operate [ov,iv] (getItem ov iv)
theorem subD_of{prog:Program}{w:World}{A:Around}{E:Value->Shared->Prop}{s:Shared}{env:Env}{value slice:Expr}{pos:Pos}{T id:String}{Q:Value->Shared->Prop}
  (hl:typeLookup (.type T) "__getitem__"=pure (some (.builtin id))) (hs:NoSl slice)
  (h:wpAny (model prog w) A (eval value env) (λo s₁=>wpAny (model prog w) A (eval slice env) (λi s₂=>s₂.TypeIs o T/\wpAny (model prog w) A (getItem o i) Q E s₂) E s₁) E s) :
  wpAny (model prog w) A (eval (.Subscript value slice pos) env) Q E s:=by
 refine Subscript_ (wpAny_mono h (λo s₁ h₁=>wpAny_mono h₁ (λi s₂ h₂=>?_) λ_ _ x=>x) λ_ _ x=>x)
 obtain ⟨hT,h₂⟩:=h₂
 unfold subscriptTail
 refine wpAny_bind ?_
 rw[getitemInPython_of_ne hT.not_modules]
 refine wpAny_bind (wpAny_specialOf hT hl ?_)
 have fin:wpAny (model prog w) A (subscripted slice false o i) (λr s₃=>wpAny (model prog w) A (letTemporaryGo value o r >>= λ_=>pure r) Q E s₃) E s₂:=by
  rw[hs o i]
  exact wpAny_operating (wpAny_mono h₂ (λr s₃ h₃=>wpAny_bind (wpAny_letTemporaryGo (wpAny_pure h₃))) λ_ _ x=>x)
 first
  |exact wpAny_pure (wpAny_bind fin)
  |exact wpAny_bind (wpAny_pure (wpAny_bind fin))
  |exact wpAny_bind fin
theorem ye4{X:Cx}{pins:List (Addr×Obj)}{σ:St}{H:Hp}{s:Shared}{a:Addr}{y:V}{o:Option V}(I:Inv X pins σ H s)(g:DGet H a y o):s.TypeIs (.ref a) "dict":=by
 rcases g with ⟨kvs,k,e,_,_⟩|⟨kvs,k,b,e,_,_,_⟩
 ·obtain ⟨_,_,vs,_,dd⟩:=qe3 I.hok e
  exact dd.typeIs
 ·obtain ⟨_,_,xs,_,dd⟩:=qg0 I.hok e
  exact dd.typeIs
noncomputable def tDGet(td ty:TE):TE:=λσ H Q=>td σ H λx H1=>ty σ H1 λy H2=>∃a v,x=.ref a/\DGet H2 a y (some v)/\Q v H2
noncomputable def tDNotIn(ty td:TE):TE:=λσ H Q=>ty σ H λy H1=>td σ H1 λx H2=>∃a o,x=.ref a/\DGet H2 a y o/\Q (.bl (!o.isSome)) H2
noncomputable def sDPut(td ty tv:TE):TS:=λD σ H=>tv σ H λv H1=>td σ H1 λx H2=>ty σ H2 λy H3=>∃a H4,x=.ref a/\DPut H3 a y v H4/\D.nx σ H4
section
variable {X:Cx}{o i e value:Expr}{pos pos' tpos:Pos}{td ty tv:TE}
theorem pe_dget(hu:X.A.units+1<cLine)(ho:PE X o td)(hi:PE X i ty)(hs:NoSl i):PE X (.Subscript o i pos) (tDGet td ty):=by
 intro pins s σ H Q I h
 refine subD_of PySem.F.slot_dict_getitem.lookup hs (thn (ho pins s σ H _ I h) λu s1 ⟨x,H1,I1,rx,q1⟩=>thn (hi pins s1 σ H1 _ I1 q1) λiv s2 ⟨y,H2,I2,ry,a,v,ex,g,q2⟩=>?_)
 subst ex
 obtain rfl:u=Value.ref a:=rx
 exact ⟨ye4 I2 g,qgc hu I2 g ry λw' s3 I3 rw'=>⟨v,H2,I3,rw',q2⟩⟩
theorem qel(hu:X.A.units+1<cLine)(hi:PE X i ty)(ho:PE X o td):PC X .NotIn i o (tDNotIn ty td):=by
 intro pins s σ H Q I h
 refine thn (hi pins s σ H _ I h) λiv s1 ⟨y,H1,I1,ry,q1⟩=>thn (ho pins s1 σ H1 _ I1 q1) λu s2 ⟨x,H2,I2,rx,a,ov,ex,g,q2⟩=>?_
 subst ex
 obtain rfl:u=Value.ref a:=rx
 exact d_notIn hu I2 g ry λs3 I3=>⟨.bl (!ov.isSome),H2,I3,rfl,q2⟩
theorem yd2(hu:X.A.units+1<cLine)(ho:PE X o td)(hi:PE X i ty)(hv:PE X value tv)(hs:swapsWith value (some (.Subscript o i pos')) pos.line X.env=pure false) :
  PS X (.Assign [.Subscript o i pos'] value pos) (sDPut td ty tv):=by
 intro pins s σ H D I h
 refine wpAny_Assign_Subscript (thn (hv pins s σ H _ I h) λr s1 ⟨v,H1,I1,rv,q1⟩=>thn (ho pins s1 σ H1 _ I1 q1) λu s2 ⟨x,H2,I2,rx,q2⟩=>thn (hi pins s2 σ H2 _ I2 q2) λiv s3 ⟨y,H3,I3,ry,a,H4,ex,g,q3⟩=>?_) hs
 subst ex
 obtain rfl:u=Value.ref a:=rx
 exact qgx hu I3 g ry rv λs4 I4=>⟨σ,H4,I4,q3⟩
end
theorem dk_empty{P:Program}{w:World}{H:Hp}(h:Heap)(hb:sysModules<h.objs.size):qat P w H (h.push { cls:=.type "dict",data:=.dict #[] }) h.objs.size (.dK []):=
 ⟨zero_le _,beq_eq_false_iff_ne.mpr (Ne.symm (ne_of_lt hb)),[],.nil,Heap.DictOf.new h⟩
noncomputable def tDNewK:TE:=λ_ H Q=>∀p,H p=none->Q (.ref p) (upd H p (.dK []))
section
variable {X:Cx}{pos:Pos}
theorem qfs:PE X (.Dict [] [] pos) tDNewK:=λpins s σ H Q I h=>
 wpAny_Dict_empty ⟨.ref s.heap.objs.size,_,I.laid (a:=s.heap.objs.size) (o:=.dK []) (t':=s.toks) (λ_ _ q=>get?_push_of_some _ q) (le_refl _) (dk_empty s.heap I.big),rfl,h _ (I.hok.fresh (le_refl _))⟩
end
structure M1(X:Cx)(o:Expr)(m:Str)(apos:Pos)(e:Expr)(cpos:Pos):Prop where
 base:attributeBase o m X.env (eval o X.env)=eval o X.env
 few:((backTo cpos (starEach [e] X.env)).all (λx=>!x.1)&&(backToKw cpos (keywordEach [] X.env)).all (λx=>x.1.isSome)
  && decide (([e]:List Expr).length+([]:List Keyword).length+(if ([]:List Keyword).isEmpty then 0 else 1)<30))=true
 line:(apos.endLine == cpos.line)=true
 trees:backTo cpos (starEach [e] X.env)=[(false,eval e X.env)]
noncomputable def IsD(H:Hp)(a:Addr):Prop:=(∃kvs,Rd H a (.dK kvs))\/∃kvs,Rd H a (.dT kvs)
theorem isD_at{X:Cx}{pins:List (Addr×Obj)}{σ:St}{H:Hp}{s:Shared}{a:Addr}(I:Inv X pins σ H s)(d:IsD H a) :
  s.TypeIs (.ref a) "dict"/\(∀b,Value.ref a=.ref b->∃ob,s.heap.get? b=some ob/\ob.dict=none)/\(a == sysModules)=false:=by
 rcases d with ⟨kvs,e⟩|⟨kvs,e⟩
 ·obtain ⟨_,hd,vs,_,dd⟩:=qe3 I.hok e
  refine ⟨dd.typeIs,λb q=>?_,hd⟩
  cases q
  obtain ⟨ob,_,_,h1,h2,_⟩:=dd
  exact ⟨ob,h1,h2.2.1⟩
 ·obtain ⟨_,hd,xs,_,dd⟩:=qg0 I.hok e
  refine ⟨dd.typeIs,λb q=>?_,hd⟩
  cases q
  obtain ⟨ob,_,_,h1,h2,_⟩:=dd
  exact ⟨ob,h1,h2.2.1⟩
noncomputable def tDPop1(td ty:TE):TE:=λσ H Q=>td σ H λx H1=>∃a,x=.ref a/\IsD H1 a/\ty σ H1 λy H2=>∃kvs k v,H2 a=some (.dK kvs)/\y=kV k/\valV kvs k=some v/\Q v (upd H2 a (.dK (qek kvs k)))
section
variable {X:Cx}{o e f:Expr}{apos cpos:Pos}{td ty tx:TE}
theorem yfs(ho:PE X o td)(he:PE X e ty)(m:M1 X o "pop" apos e cpos):PE X (.Call (.Attribute o "pop" apos) [e] [] cpos) (tDPop1 td ty):=by
 intro pins s σ H Q I h
 refine wpAny_Call_method m.base m.few m.line PySem.F.plainAttrs_dict PySem.F.slot_dict_pop PySem.F.type_dict_pop (thn (ho pins s σ H _ I h) λu s1 ⟨x,H1,I1,rx,a,ex,d,q1⟩=>?_)
 subst ex
 obtain rfl:u=Value.ref a:=rx
 obtain ⟨t1,t2,_⟩:=isD_at I1 d
 refine ⟨t1,t2,?_⟩
 rw[m.trees]
 refine Calls.callWith_builtin rfl (Calls.evalArgs_plain (Calls.spliced_cons (thn (he pins s1 σ H1 _ I1 q1) λiv s2 ⟨y,H2,I2,ry,kvs,k,v,ea,ey,l,q2⟩=>Calls.spliced_nil ?_)))
 subst ey
 exact d_pop I2 ea ry l (.inl rfl) λw' s3 I3 rw'=>⟨v,_,I3,rw',q2⟩
end
section
variable {X:Cx}
theorem ygi:qca X (.builtin "len") (λxs H Q=>∃a kvs,xs=[V.ref a]/\H a=some (.dK kvs)/\Q (.int kvs.length) H):=by
 intro pins s σ H xs us Q I r h
 obtain ⟨a,kvs,rfl,ha,q⟩:=h
 obtain ⟨u,rfl,ru⟩:=yfj r
 cases ru
 exact d_len I (.inl ha) λt s' I'=>⟨.int kvs.length,H,I',⟨t,rfl⟩,q⟩
end
section
variable {κ:Type} [DecidableEq κ]
theorem yga:∀{l:List κ}{k:κ},l.Nodup->¬ k∈l->(l++[k]).Nodup
 |[],k,_,_=>by simp
 |a::r,k,h,hk=>by
  obtain ⟨h1,h2⟩:=nodup_cons.mp h
  show (a::(r++[k])).Nodup
  refine nodup_cons.mpr ⟨λm=>?_,yga h2 λm=>hk (mem_cons.mpr (Or.inr m))⟩
  rcases mem_append.mp m with q|q
  ·exact h1 q
  ·exact hk (mem_cons.mpr (Or.inl (mem_singleton.mp q).symm))
end
end L2
namespace Mx
open PySem L2 PyProof.Rows
structure QE(X:Cx)(e:Expr)(t:TE):Prop where
 of:PE X e t
section
variable {X:Cx}{e o i:Expr}{te td ty:TE}{pos:Pos}
theorem qaa(h:PE X e te):QE X e te:=⟨h⟩
theorem qg8(hu:X.A.units+1<cLine)(ho:QE X o td)(hi:QE X i ty)(hs:NoSl i):QE X (.Subscript o i pos) (tDGet td ty):=⟨pe_dget hu ho.of hi.of hs⟩
theorem qs_setE{i:Nat}{x:Str}{pos':Pos}(hN:X.N.Nodup)(hi:X.N[i]?=some x)(hx:Loc X.env.scope x)(he:QE X e te)(hs:swapsWith e (some (.Name x pos')) pos.line X.env=pure false:=by rfl)(hf:X.fn x=true\/X.env.scope.names.lookup x=some .local:=by first|exact .inl rfl|exact .inr rfl|assumption) :
  QS X (.Assign [.Name x pos'] e pos) (tAsg te (qf6 i)):=⟨qgi hN hi hx he.of hs hf⟩
theorem qsE(i:Nat){x:Str}{pos':Pos}(hN:X.N.Nodup)(he:QE X e te)(hi:X.N[i]?=some x:=by rfl)(hx:Loc X.env.scope x:=by exact Or.inl rfl)(hs:swapsWith e (some (.Name x pos')) pos.line X.env=pure false:=by rfl)(hf:X.fn x=true\/X.env.scope.names.lookup x=some .local:=by first|exact .inl rfl|exact .inr rfl|assumption):QS X (.Assign [.Name x pos'] e pos) (tAsg te (qf6 i)):=qs_setE hN hi hx he hs hf
theorem yag(he:QE X e te):QS X (.Return (some e) pos) (tRet te):=⟨ps_ret he.of⟩
structure QT(X:Cx)(e:Expr)(t:TT):Prop where
 of:PT X e t
theorem qg1{t:TT}(h:PT X e t):QT X e t:=⟨h⟩
theorem qao{a b:List Stmt}{t u:TS}{c:Expr}{tc:TT}(hc:QT X c tc)(ha:QSs X a t)(hb:QSs X b u):QS X (.If c a b pos) (tIfS tc t u):=⟨ps_if hc.of ha.of hb.of⟩
theorem qe_strs{es:List Expr}{xs:List Str}(h:yer es=some xs):QE X (.List es pos) (tStrs xs):=⟨pe_strs h⟩
theorem qan{a b:Expr}{ta tb:TE}{op:CmpOp}{r:R2}(ho:OpR X (compareOp op) r)(ha:QE X a ta)(hb:QE X b tb)(hm:behindInMarks op b=false):QT X (.Compare a [op] [b] pos) (tTest (tOp r ta tb)):=⟨pt_cmpR ho ha.of hb.of hm⟩
theorem ya1{a b:Expr}{ta tb:TE}{r:R2}(hr:IxR X r)(ha:QE X a ta)(hb:QE X b tb)(hs:qgk b:=by intro _ _;rfl):QE X (.Subscript a b pos) (tOp r ta tb):=⟨ycd hr ha.of hb.of hs⟩
structure QA(X:Cx)(es:List Expr)(t:TA):Prop where
 of:PA X es t
theorem qad:QA X [] tNil:=⟨qag⟩
theorem yfd{es:List Expr}{t:TA}(ha:QE X e te)(hr:QA X es t)(hs:starEach (e::es) X.env=(false,eval e X.env)::starEach es X.env:=by rfl):QA X (e::es) (qch te t):=⟨yab ha.of hr.of hs⟩
theorem yaw{es:List Expr}{t:TA}(h:QA X es t):QE X (.List es pos) (tLst t):=⟨qdb h.of⟩
theorem ya8{es:List Expr}{k}{t:TA}(h:QA X es t):QE X (.Tuple es k pos) (tTup t):=⟨qct h.of⟩
end
section
variable {X:Cx}{e a b c:Expr}{es:List Expr}{te ta tb:TE}{t:TA}{tA tB':TT}{pos p:Pos}{x:Str}{rest:List Expr}
theorem qar{k:Const}{j}(ha:QE X (.Constant k j pos) te)(hr:QA X es t):QA X (.Constant k j pos::es) (qch te t):=⟨pa_cs ha.of hr.of⟩
theorem yah{x:Str}(ha:QE X (.Name x pos) te)(hr:QA X es t):QA X (.Name x pos::es) (qch te t):=⟨pa_nm ha.of hr.of⟩
theorem qa0{f xs ks}(ha:QE X (.Call f xs ks pos) te)(hr:QA X es t):QA X (.Call f xs ks pos::es) (qch te t):=⟨pa_cl ha.of hr.of⟩
theorem qdq{o i:Expr}(ha:QE X (.Subscript o i pos) te)(hr:QA X es t):QA X (.Subscript o i pos::es) (qch te t):=⟨yab ha.of hr.of rfl⟩
theorem ydy{o i:Expr}{op}(ha:QE X (.BinOp o op i pos) te)(hr:QA X es t):QA X (.BinOp o op i pos::es) (qch te t):=⟨yab ha.of hr.of rfl⟩
theorem qa_ls{xs}(ha:QE X (.List xs pos) te)(hr:QA X es t):QA X (.List xs pos::es) (qch te t):=⟨yab ha.of hr.of rfl⟩
theorem qa_cp{l o r}(ha:QE X (.Compare l o r pos) te)(hr:QA X es t):QA X (.Compare l o r pos::es) (qch te t):=⟨yab ha.of hr.of rfl⟩
theorem qa_lc{l o r}(ha:QE X (.ListComp l o r pos) te)(hr:QA X es t):QA X (.ListComp l o r pos::es) (qch te t):=⟨yab ha.of hr.of rfl⟩
theorem qam{op:Operator}{r:R2}(ho:OpR X (binaryOp op) r)(ha:QE X a ta)(hb:QE X b tb):QE X (.BinOp a op b pos) (tOp r ta tb):=⟨qbd ho ha.of hb.of⟩
theorem qeb{op:CmpOp}{r:R2}(ho:OpR X (compareOp op) r)(ha:QE X a ta)(hb:QE X b tb)(hm:behindInMarks op b=false):QE X (.Compare a [op] [b] pos) (tOp r ta tb):=⟨yax ho ha.of hb.of hm⟩
theorem yfu(hc:QT X c tA)(ha:QE X a ta)(hb:QE X b tb):QE X (.IfExp c a b pos) (tIf tA ta tb):=⟨pe_ifExp hc.of ha.of hb.of⟩
structure QW(X:Cx)(e:Expr)(t:TT):Prop where
 of:PW X e t
theorem ydz(ha:QT X a tA):QW X (.BoolOp .And [a] pos) tA:=⟨pw_and1 ha.of⟩
theorem yfn(ha:QT X a tA):QW X (.BoolOp .Or [a] pos) tA:=⟨pw_or1 ha.of⟩
theorem qet(ha:QT X a tA)(hb:QW X (.BoolOp .And (b::rest) pos) tB'):QW X (.BoolOp .And (a::b::rest) pos) (tAnd tA tB'):=⟨pw_and ha.of hb.of⟩
theorem qw_or(ha:QT X a tA)(hb:QW X (.BoolOp .Or (b::rest) pos) tB'):QW X (.BoolOp .Or (a::b::rest) pos) (tOr tA tB'):=⟨pw_or ha.of hb.of⟩
theorem QW.pt(h:QW X e tA):QT X e tA:=⟨h.of.pt⟩
theorem qcz(ha:QT X a tA):QT X (.UnaryOp .Not a pos) (tNot tA):=⟨pt_not ha.of⟩
theorem ybb{f xs ks}(h:QE X (.Call f xs ks pos) te):QT X (.Call f xs ks pos) (tB te):=⟨pt_val h.of⟩
theorem ygk{y:Str}(h:QE X (.Name y pos) te):QT X (.Name y pos) (tB te):=⟨pt_val h.of⟩
variable {id T:String}{r:List V->Hp->VK->Prop}
theorem qai(hc:qca X (.builtin id) r)(hg:Gl X x)(hm:X.mg x=none)(hv:bootBuiltins x=some (.builtin id))(ha:QA X (e::es) t)(hn:x≠"__name__":=by decide)(hdb:(x == ("__debug__" : Str))=false:=by decide)
  (he:starEach (e::es) X.env=(false,eval e X.env)::starEach es X.env:=by rfl) (hpl:(backTo pos (starEach es X.env)).any (·.1)=false:=by rfl):QE X (.Call (.Name x p) (e::es) [] pos) (tCB r t):=⟨qas hc hg hm hv ha.of hn hdb he hpl⟩
theorem yha(hc:qca X (.type T) r)(hg:Gl X x)(hm:X.mg x=none)(hv:bootBuiltins x=some (.type T))(ha:QA X (e::es) t)(hn:x≠"__name__":=by decide)(hdb:(x == ("__debug__" : Str))=false:=by decide)
  (he:starEach (e::es) X.env=(false,eval e X.env)::starEach es X.env:=by rfl) (hpl:(backTo pos (starEach es X.env)).any (·.1)=false:=by rfl):QE X (.Call (.Name x p) (e::es) [] pos) (tCB r t):=⟨yda hc hg hm hv ha.of hn hdb he hpl⟩
theorem yaf{k m:Nat}{ps:List Str}{sp:Sp}(h:Has X.prog X.w X.K X.mg X.base k x ps sp)(hr:Room m X.A)(ha:QA X (e::es) t)(hk:k<=m:=by decide)(hg:Gl X x:=by rfl)
  (hdb:(x == ("__debug__" : Str))=false:=by decide) (he:starEach (e::es) X.env=(false,eval e X.env)::starEach es X.env:=by rfl) (hpl:(backTo pos (starEach es X.env)).any (·.1)=false:=by rfl):QE X (.Call (.Name x p) (e::es) [] pos) (qg9 sp [] E0 t):=⟨qaw h hr ha.of hk hg hdb he hpl⟩
structure QI(X:Cx)(tg iter:Expr)(wi:TI):Prop where
 of:PI X tg iter wi
theorem yec{tg iter:Expr}{wi:TI}(h:PI X tg iter wi):QI X tg iter wi:=⟨h⟩
theorem qgh{tg l:Expr}{tl:TE}(h:QE X l tl):QI X tg l (iList X.K tl):=⟨yce h.of⟩
theorem qb0{tg iter:Expr}{body:List Stmt}{wi:TI}{g:TG}{tb:TS}(hp:PassesOwn (model X.prog X.w) X.A X.env X.xe)(hc:X.calm=true)(hi:QI X tg iter wi)(hg:PG X tg g)(hb:QSs X body tb)(hs:∀x,foldedSetIterable iter X.env x=pure x:=by intro _;rfl):QS X (.For tg iter body [] pos) (tFor wi g tb):=⟨ps_for hp hc hi.of hg hb.of hs⟩
theorem yav(he:QE X e te)(hs:swapsWith e none pos.line X.env=pure false:=by rfl):QS X (.Expr e pos) (tDrop te):=⟨ps_expr he.of hs⟩
end
theorem qac{X:Cx}{st:Stmt}{rest ss:List Stmt}{t:TS}(h:ss=st::rest)(p:QSs X (st::rest) t):QSs X ss t:=h ▸ p
section
variable {P:Program}{w:World}{K:W.Frag}{mg:Str->Option Value}{base:Heap}
theorem Has.ofQ{x:Str}{st:Stmt}{ps N:List Str}{k:Nat}{sp:Sp}(F:FnAt K mg x st ps)(S:FnScope N ps (yac st))(len:∀vs H Q E,sp vs H Q E->vs.length=ps.length)
  (hbody:∀(f:Addr) (cdv:Value) (A:Around) (outer:List Env) (s:Shared) (H:Hp) (vs:List V) (Q:VK) (E:XK),Room k (A.deeper (envOfC x (yac st) s.heap.objs.size f cdv))->sp vs H Q E->
   ∃t,QSs (cxOf CX0 P w K mg base N x (yac st) f cdv A outer s H E).nox (yak st) t/\t { nx:=λ_ H'=>Q .non H',rt:=Q } (yb6 N vs) H):Has P w K mg base (k+1) x ps sp:=
 Has.of F S len λf cdv A outer s H vs Q E hr h=>by
  obtain ⟨t,h1,h2⟩:=hbody f cdv A outer s H vs Q E hr h
  exact ⟨t,h1.of,h2⟩
theorem Fun.okQ{x qual:Str}{st:Stmt}{f:Addr}{fd:FuncData}{N ps:List Str}{k:Nat}{sp:Sp}(F:Fun K x qual st f fd)(S:FnScope N ps (yac st))(len:∀vs H Q E,sp vs H Q E->vs.length=ps.length)
  (hbody:∀(cdv:Value) (A:Around) (outer:List Env) (s:Shared) (H:Hp) (vs:List V) (Q:VK) (E:XK),Room k (A.deeper (envOfC qual (yac st) s.heap.objs.size f cdv))->sp vs H Q E->
   ∃t,QSs (cxOf CX0 P w K mg base N qual (yac st) f cdv A outer s H E).nox (yak st) t/\t { nx:=λ_ H'=>Q .non H',rt:=Q } (yb6 N vs) H):FnOk P w K mg base CX0 (k+1) f fd ps sp:=
 F.ok S len λcdv A outer s H vs Q E hr h=>by
  obtain ⟨t,h1,h2⟩:=hbody cdv A outer s H vs Q E hr h
  exact ⟨t,h1.of,h2⟩
end
noncomputable def yb2(K:W.Frag)(C:Addr)(m qual:Str)(st:Stmt)(ps:List Str):Prop:=∃f fd,Meth K C m f/\Fun K m qual st f fd/\qbm K fd ps []
noncomputable def HasM(P:Program)(w:World)(K:W.Frag)(mg:Str->Option Value)(base:Heap)(C:Addr)(k:Nat)(m:Str)(ps:List Str)(sp:Sp):Prop:=
 ∃f fd,Meth K C m f/\qbm K fd ps []/\FnOk P w K mg base CX0 k f fd ps sp
noncomputable def HasI(P:Program)(w:World)(K:W.Frag)(mg:Str->Option Value)(base:Heap)(C:Addr)(k:Nat)(x:Str)(ps:List Str)(sp:Sp):Prop:=
 ∃f fd,mg x=some (.ref C)/\Mk K C f/\qbm K fd ps []/\FnOk P w K mg base CX0 k f fd ps sp
section
variable {P:Program}{w:World}{K:W.Frag}{mg:Str->Option Value}{base:Heap}{C:Addr}
theorem HasM.ofQ{m qual:Str}{st:Stmt}{ps N:List Str}{k:Nat}{sp:Sp}(F:yb2 K C m qual st ps)(S:FnScope N ps (yac st))(len:∀vs H Q E,sp vs H Q E->vs.length=ps.length)
  (hbody:∀(f:Addr) (cdv:Value) (A:Around) (outer:List Env) (s:Shared) (H:Hp) (vs:List V) (Q:VK) (E:XK),Room k (A.deeper (envOfC qual (yac st) s.heap.objs.size f cdv))->sp vs H Q E->
   ∃t,QSs (cxOf CX0 P w K mg base N qual (yac st) f cdv A outer s H E).nox (yak st) t/\t { nx:=λ_ H'=>Q .non H',rt:=Q } (yb6 N vs) H):HasM P w K mg base C (k+1) m ps sp:=by
 obtain ⟨f,fd,h1,h2,h3⟩:=F
 exact ⟨f,fd,h1,h3,Mx.Fun.okQ h2 S len λcdv A outer s H vs Q E hr h=>hbody f cdv A outer s H vs Q E hr h⟩
theorem HasI.of{x m:Str}{ps:List Str}{k:Nat}{sp:Sp}{f:Addr}(hm:mg x=some (.ref C))(M:Mk K C f)(u:∀g,Meth K C "__init__" g->g=f)(h:HasM P w K mg base C k "__init__" ps sp):HasI P w K mg base C k x ps sp:=by
 obtain ⟨g,fd,h1,h2,h3⟩:=h
 have:=u g h1
 subst this
 exact ⟨g,fd,hm,M,h2,h3⟩
theorem meth_un{m:Str}{f g:Addr}(a:W.findIn K (.ref C) m=some (some (.ref f)))(b:Meth K C m g):g=f:=by
 have:=b.at_
 rw[a]at this
 cases this
 rfl
end
section
variable {X:Cx}{e o value:Expr}{es:List Expr}{te ta tv:TE}{t:TA}{pos p apos pos':Pos}{C:Addr}{m x f:Str}
theorem qdc(he:QE X e ta)(hb:attributeBase e f X.env (eval e X.env)=eval e X.env):QE X (.Attribute e f pos) (tFld X.K ta f):=⟨pe_fld he.of hb⟩
theorem qs_fld(ha:QE X o ta)(hv:QE X value tv)(hs:swapsWith value (some (.Attribute o f pos')) pos.line X.env=pure false):QS X (.Assign [.Attribute o f pos'] value pos) (sFld X.K ta tv f):=⟨ps_fld ha.of hv.of hs⟩
theorem qa_at{b:Expr}{g:Str}(ha:QE X (.Attribute b g pos) te)(hr:QA X es t):QA X (.Attribute b g pos::es) (qch te t):=⟨yab ha.of hr.of rfl⟩
end
end Mx
namespace L2
open PySem PySem.Spec PyProof.Rows PySem.W
structure Fly(h:Heap)(H:Hp)(a T:Addr):Prop where
 ob:∃o vs,h.get? a=some o/\o.data=.fields vs/\vs[1]?=some (.ref T)
 ne:T≠a
 fr:H T=none
 tb:∃oT ts,h.get? T=some oT/\oT.data=.fields ts/\ts[3]?=some .none
noncomputable def CX1(P:Program)(w:World):CXT:=λouter H s E e s'=>∃a T C dx H',e=.ref a/\s'.os=s.os/\AllBare s'.gens/\Un (frs outer) [] H H' s.heap s'.heap/\HOk P w H' s'.heap/\
 H' a=some (.ext (qbf a C dx))/\Fly s'.heap H' a T/\E (.ref a) none H'
noncomputable def Raw(h:Heap)(a:Addr):Prop:=∃o vs,h.get? a=some o/\o.data=.fields vs/\vs[1]?=some .none
theorem setSame{ts:Array Value}{i:Nat}{v:Value}(h:ts[i]?=some v):ts.setIfInBounds i v=ts:=by
 apply Array.ext_getElem?
 intro j
 by_cases e:i=j
 ·subst e
  rw[Array.getElem?_setIfInBounds_self_of_lt (Array.getElem?_eq_some_iff.mp h).1,h]
 ·rw[Array.getElem?_setIfInBounds_ne e]
theorem yg9{o:Obj}{ts:Array Value}{i:Nat}{v:Value}(hd:o.data=.fields ts)(h:ts[i]?=some v):Obj.mapFields (·.setIfInBounds i v) o=o:=by
 obtain ⟨c,d,dt,sl⟩:=o
 simp only at hd
 subst hd
 unfold Obj.mapFields
 simp only[setSame h]
theorem mapDict(f:Array Value->Array Value)(o:Obj):(Obj.mapFields f o).dict=o.dict:=by
 obtain ⟨c,d,dt,sl⟩:=o
 cases dt<;>rfl
section
variable {X:Cx}{pins:List (Addr×Obj)}{σ:St}{H:Hp}{s:Shared}{a C:Addr}{dx:Option Addr}
theorem fly_un{h1 h':Heap}{T':Addr}(I:Inv X pins σ H s)(ha:H a=some (.ext (qbf a C dx)))(h1s:Heap.SlotsOnly (frs X.stack) s.heap h1)(hT:T'=h1.objs.size)
  (keep:∀b o,b≠a->h1.get? b=some o->h'.get? b=some o) (hx:qbf a C dx h'):Un (frs X.stack) [] H H s.heap h'/\HOk X.prog X.w H h'/\H T'=none/\s.heap.get? T'=none:=by
 have na:∀b,H b=none->b≠a:=λb n z=>by subst z;rw[ha]at n;cases n
 have hz:s.heap.objs.size=T':=by rw[hT,h1s.1]
 refine ⟨⟨λb o e n hb _=>keep b o (na b n) ((h1s.2.1 b hb).trans e),λb o e n hb _=>?_,λ_ _ _ n _=>n,λb o e _=>?_,λ_ _ q=>q,λ_ _ _ q=>q,λb ps q=>⟨#[],by rw[q];simp⟩⟩,λb u e=>?_,I.hok.fresh (by omega),Heap.get?_none_of_le (by omega)⟩
 ·obtain ⟨sl,q⟩:=h1s.2.2 b o e
  exact ⟨sl,keep b _ (na b n) q⟩
 ·by_cases hb:b=a
  ·subst hb;obtain ⟨o,_,q,_⟩:=hx;exact ⟨o,q⟩
  ·obtain ⟨sl,q⟩:=h1s.2.2 b o e
   exact ⟨_,keep b _ hb q⟩
 ·by_cases hb:b=a
  ·subst hb
   rw[ha]at e;cases e
   exact qfo hx
  ·refine (I.hok b u e).stay (λc v hc q=>?_) (λ_ q=>q) λ_ _ q=>q
   have hcH:H c≠none:=by
    rcases hc with z|z
    ·rw[z,e];simp
    ·rw[z];simp
   have hca:c≠a:=by
    rcases hc with z|z
    ·rw[z];exact hb
    ·intro z2;rw[z2,ha]at z;cases z
   exact keep c v hca ((h1s.2.1 c λz=>hcH (I.stkFree c z)).trans q)
theorem qft{M:Model}{E:Value->Shared->Prop}{Q:Unit->Shared->Prop}(I:Inv X pins σ H s)(hs:X.stack=X.env::X.outer)(hf:X.env.frame=some X.env.locals)(ha:H a=some (.ext (qbf a C dx)))
  (st:Raw s.heap a\/∃T,Fly s.heap H a T)
  (k:∀h' T',Inv X pins σ H { s with heap:=h' }->Fly h' H a T'->s.heap.get? T'=none->Q () { s with heap:=h' }) :
  wpAny M X.A (noteFrame (.ref a) X.env) (λ_ s1=>wpAny M X.A (setFlight (.ref a) none) Q E s1) E s:=by
 have hfr:X.A.frames=some (X.env::X.outer):=by rw[<-hs];exact I.ok.frames
 have hl:s.heap.FunFrames X.base (X.env::X.outer):=by rw[<-hs];exact I.stack
 obtain ⟨⟨o0,vs0,e0,c0,d0,dt0⟩,_⟩:=I.hok a _ ha
 have main:∀(h:Heap) (head:Value) (vs:Array Value) (o:Obj) (hadNext:Bool),(∀b,h.get? b=s.heap.get? b)->h.objs.size=s.heap.objs.size->s.heap.get? a=some o->o.data=.fields vs->1<vs.size->
   wpAny M X.A (do let x <-frameOf X.env;let pl <-entryPlaceOf X.env.locals hadNext;let b <-EntryCells.newEntry head x .none (rawInt X.env.locals) .none pl;setField (.ref a) 1 b) (λ_ s'=>wpAny M X.A (setFlight (.ref a) none) Q E s') E { s with heap:=h }:=by
  intro h head vs o hadNext hg hsz he hd hvs
  have hl':h.FunFrames X.base (X.env::X.outer):=hl.of_keeps λb o q _=>⟨o,(hg b).trans q,rfl⟩
  have hene:a∉(X.env::X.outer).filterMap (·.frame):=λhm=>by
   have:=I.stkFree a (by rw[hs];exact hm)
   rw[ha]at this;cases this
  refine wpAny_bind (wpAny_frameOf_fun (s:={ s with heap:=h }) hfr hl' hf λh₁ hs₁=>?_)
  have hs₁':Heap.SlotsOnly (frs X.stack) s.heap h₁:=by
   rw[hs]
   exact ⟨hs₁.1.trans hsz,λb hb=>(hs₁.2.1 b hb).trans (hg b),λb o q=>hs₁.2.2 b o ((hg b).trans q)⟩
  refine wpAny_bind (wpAny_entryPlaceOf λpl hpl=>?_)
  unfold EntryCells.newEntry newFields
  refine wpAny_bind (wpAny_newObj_type ?_ (hpl.sizeOk5 _ _ _ _ _))
  have he₁:h₁.get? a=some o:=(hs₁.2.1 a hene).trans ((hg a).trans he)
  have he₂:=get?_push_of_some (h:=h₁) { cls:=.type "traceback",dict:=none,data:=.fields ([head,.ref X.env.locals,.none,rawInt X.env.locals,.none]++(if pl.isEmpty then List.replicate 6 Value.none else pl)).toArray } he₁
  refine wpAny_setField he₂ hd hvs ?_
  have hTe:h₁.objs.size≠a:=ne_of_gt (lt_size he₁)
  have hd₃:=Obj.data_mapFields hd (·.setIfInBounds 1 (Value.ref h₁.objs.size))
  have he₃:=Heap.get?_update_self (Obj.mapFields (·.setIfInBounds 1 (Value.ref h₁.objs.size))) he₂ (Obj.isFreed_of_fields hd₃)
  have hT₃:=(get?_update_other (h₁.push { cls:=.type "traceback",dict:=none,data:=.fields ([head,.ref X.env.locals,.none,rawInt X.env.locals,.none]++(if pl.isEmpty then List.replicate 6 Value.none else pl)).toArray })
   (Obj.mapFields (·.setIfInBounds 1 (Value.ref h₁.objs.size))) (Ne.symm hTe)).trans (get?_push_size h₁ rfl)
  unfold setFlight
  refine wpAny_bind (wpAny_field he₃ hd₃ (x:=.ref h₁.objs.size) (by simp[hvs]) ?_)
  rw[if_pos (show (Value.ref h₁.objs.size != Value.none)=true from by simp)]
  refine wpAny_setField hT₃ rfl (by simp only[size_toArray,length_append,length_cons,List.length_nil]<;>omega) ?_
  have keep:∀b ob,b≠a->h₁.get? b=some ob->
    (((h₁.push { cls:=.type "traceback",dict:=none,data:=.fields ([head,.ref X.env.locals,.none,rawInt X.env.locals,.none]++(if pl.isEmpty then List.replicate 6 Value.none else pl)).toArray }).update a (Obj.mapFields (·.setIfInBounds 1 (Value.ref h₁.objs.size)))).update h₁.objs.size
     (Obj.mapFields (·.setIfInBounds 3 ((none:Option Addr).elim Value.none λf=>rawInt f)))).get? b=some ob:=λb ob hbe hb=>by
   have hbT:h₁.objs.size≠b:=ne_of_gt (lt_size hb)
   rw[get?_update_other _ _ hbT,get?_update_other _ _ (Ne.symm hbe)]
   exact get?_push_of_some _ hb
  have hea:=he₃
  have hT4:=Heap.get?_update_self (Obj.mapFields (·.setIfInBounds 3 ((none:Option Addr).elim Value.none λf=>rawInt f))) hT₃ (Obj.isFreed_of_fields (Obj.data_mapFields rfl _))
  rw[<-get?_update_other _ (Obj.mapFields (·.setIfInBounds 3 ((none:Option Addr).elim Value.none λf=>rawInt f))) hTe]at hea
  revert keep hea hT4
  generalize ((h₁.push { cls:=.type "traceback",dict:=none,data:=.fields ([head,.ref X.env.locals,.none,rawInt X.env.locals,.none]++(if pl.isEmpty then List.replicate 6 Value.none else pl)).toArray }).update a (Obj.mapFields (·.setIfInBounds 1 (Value.ref h₁.objs.size)))).update h₁.objs.size
     (Obj.mapFields (·.setIfInBounds 3 ((none:Option Addr).elim Value.none λf=>rawInt f)))=h'
  intro keep hea hT4
  rw[he]at e0;cases e0
  have hx:qbf a C dx h':=⟨_,_,hea,(Obj.cls_mapFields _ _).trans c0,(mapDict _ _).trans d0,hd₃⟩
  obtain ⟨un,ho,fr,nw⟩:=fly_un (T':=h₁.objs.size) I ha hs₁' rfl keep hx
  refine k h' h₁.objs.size (I.call' (s':={ s with heap:=h' }) (ch:=[]) rfl un ho I.bare λb z=>absurd z (by simp)) ⟨⟨_,_,hea,hd₃,by simp[hvs]⟩,hTe,fr,⟨_,_,hT4,Obj.data_mapFields rfl _,?_⟩⟩ nw
  first|(simp;done)|(rcases hpl with rfl|⟨_,_,_,_,_,_,_,rfl⟩<;>simp)
 rcases st with ⟨o,vs,he,hd,h1⟩|⟨T,⟨⟨o,vs,he,hd,h1⟩,hTa,hTn,oT,ts,hT,hdT,h3⟩⟩
 ·unfold noteFrame
  simp only[hf]
  refine wpAny_bind (wpAny_field he hd h1 ?_)
  rw[if_neg (by decide)]
  exact main s.heap _ vs o _ (λ_=>rfl) rfl he hd (Array.getElem?_eq_some_iff.mp h1).1
 ·unfold noteFrame
  simp only[hf]
  refine wpAny_bind (wpAny_field he hd h1 ?_)
  rw[if_pos (show (Value.ref T != Value.none)=true from by simp)]
  refine wpAny_bind (wpAny_field hT hdT h3 ?_)
  rw[if_neg (show ¬ ((Value.none == rawInt X.env.locals)=true) from by simp[rawInt])]
  refine wpAny_bind (wpAny_setField hT hdT (Array.getElem?_eq_some_iff.mp h3).1 ?_)
  refine main (s.heap.update T (Obj.mapFields (·.setIfInBounds 3 Value.none))) _ vs o _ (λb=>?_) (Heap.size_after_update ..) he hd (Array.getElem?_eq_some_iff.mp h1).1
  by_cases hb:b=T
  ·subst hb
   rw[hT]
   have:=Heap.get?_update_self (Obj.mapFields (·.setIfInBounds 3 Value.none)) hT (Obj.isFreed_of_fields (Obj.data_mapFields hdT _))
   rw[yg9 hdT h3]at this
   exact this
  ·exact get?_update_other _ _ (Ne.symm hb)
theorem Inv.xq(I:Inv X pins σ H s)(ha:H a=some (.ext (qa6 a C dx))):Inv X pins σ (upd H a (.ext (qbf a C dx))) s:=by
 have o:=(I.hok a _ ha)
 have w:=I.write (x:=a) (e:=a) (o:=.ext (qbf a C dx)) (h':=s.heap) (t':=s.toks) (by rw[ha];exact True.intro) (.inl rfl) (λ_ _ _ e=>e) o.2.1 (qfo o.1.q)
 exact w
theorem raw_of{P:Program}{w:World}{h:Heap}(ok:HOk P w H h)(ha:H a=some (.ext (qa6 a C dx))):Raw h a:=by
 obtain ⟨⟨o,vs,e,_,_,dt,r⟩,_⟩:=ok a _ ha
 exact ⟨o,vs,e,dt,r⟩
end
section
variable {P:Program}{w:World}{K:W.Frag}{mg:Str->Option Value}{base:Heap}{N:List Str}{qual:Str}{scope:Scope}{f:Addr}{cd:Value}{A:Around}{outer:List Env}{s0:Shared}{H0:Hp}{E:XK}
noncomputable abbrev cxX(P:Program)(w:World)(K:W.Frag)(mg:Str->Option Value)(base:Heap)(N:List Str)(qual:Str)(scope:Scope)(f:Addr)(cd:Value)(A:Around)(outer:List Env)(s0:Shared)(H0:Hp)(E:XK):Cx:=
 cxOf (CX1 P w) P w K mg base N qual scope f cd A outer s0 H0 E
theorem leaves{pins:List (Addr×Obj)}{σ:St}{H:Hp}{s:Shared}{a C:Addr}{dx:Option Addr}(I:Inv (cxX P w K mg base N qual scope f cd A outer s0 H0 E) pins σ H s)(ha:H a=some (.ext (qbf a C dx)))(st:Raw s.heap a\/∃T,Fly s.heap H a T)
  (hE:E (.ref a) none H):(cxX P w K mg base N qual scope f cd A outer s0 H0 E).xe (.ref a) s:=by
 show wpAny _ _ (leaving _ _) _ _ _
 unfold leaving
 exact wpAny_bind (qft (X:=cxX P w K mg base N qual scope f cd A outer s0 H0 E) I rfl rfl ha st λh' T' I' fl _=>⟨a,T',C,dx,H,rfl,I'.os,I'.bare,I'.base,I'.hok,ha,fl,hE⟩)
theorem passX:yb0 (CX1 P w) (cxX P w K mg base N qual scope f cd A outer s0 H0 E) E:=by
 intro pins σ H s e s' I h
 obtain ⟨a,T,C,dx,H',rfl,ho,hb,un,hok,ha,fl,hE⟩:=h
 exact leaves (I.call' (ch:=[]) ho un hok hb λb z=>absurd z (by simp)) ha (.inr ⟨T,fl⟩) hE
theorem passOwnX:PassesOwn (model P w) (cxX P w K mg base N qual scope f cd A outer s0 H0 E).A (cxX P w K mg base N qual scope f cd A outer s0 H0 E).env (cxX P w K mg base N qual scope f cd A outer s0 H0 E).xe:=PassesOwn.leaving
noncomputable def tRaise(K:W.Frag)(E:XK)(te:TE):TS:=λ_ σ H=>te σ H λv H1=>∃a C dx,v=.ref a/\XTy K C/\H1 a=some (.ext (qa6 a C dx))/\E (.ref a) none (upd H1 a (.ext (qbf a C dx)))
theorem qhf{M:Model}{A:Around}{E:Value->Shared->Prop}{env:Env}{s:Shared}{a C:Addr}{o:Obj}{vs:Array Value}{Q:Flow->Shared->Prop}(X:K.In s.heap)(cx:qci K C=true)(hh:A.handled=none)(hx:s.heap.get? a=some o)(hc:o.cls=.ref C)(hd:o.data=.fields vs)(h1:vs[1]?=some .none)
  {x:Sem Value}{s₀:Shared} (hE:E (.ref a) s) (h:∀{R:Value->Shared->Prop},R (.ref a) s->wpAny M A x R E s₀):wpAny M A (raiseStmt env (some x) none) Q E s₀:=by
 obtain ⟨nm,qn,N,bs,bm,sn,sub,ab,col,dd,k0,k1,k2,k3,k5,cC,T⟩:=qb8 X cx
 have hob:(Value.ref C::bm).contains (.type "BaseException")=true:=by rw[List.contains_cons,T.hasType PySem.F.excBase_ValueError.hasBase];rfl
 unfold raiseStmt
 refine wpAny_bind (h ?_)
 obtain ⟨hp,g,d,tk,os⟩:=s
 have cC:hp.get? C=_:=cC
 have hx:hp.get? a=some o:=hx
 have hnt:(match o.data with|.cls _=>true|_=>false)=false:=by rw[hd]
 unfold excFromValue isExcClass isInstance
 repeat (first|(with_reducible refine wpAny_loadPart_at hx ?_;first|rw[hc]|(dsimp only;rw[hd]))|(with_reducible refine wpAny_loadPart_at cC ?_)|(with_reducible refine wpAny_isSubtype_exc cC ?_;rw[hob])|wp_step)
 rw[hd]
 refine wpAny_pure ?_
 rw[h1]
 refine wpAny_pure ?_
 rw[if_neg (by decide)]
 exact wpAny_pure (wpAny_raiseNew_none hh hE)
theorem yd6{x:Expr}{te:TE}{pos:Pos}(he:PE (cxX P w K mg base N qual scope f cd A outer s0 H0 E) x te):PS (cxX P w K mg base N qual scope f cd A outer s0 H0 E) (.Raise (some x) none pos) (tRaise K E te):=by
 intro pins s σ H D I h
 rw[arm_exec_Raise]
 refine wpAny_bind (wpAny_standAt ?_)
 have hx:=he pins s σ H _ I h
 show wpAny _ _ (raiseStmt _ (some (do let v <-eval x _;standAt pos;pure v)) none) _ _ _
 unfold raiseStmt
 refine wpAny_bind (wpAny_bind (thn hx λv s1 ⟨y,H1,I1,r,a,C,dx,ey,ty,ha,q⟩=>?_))
 subst ey
 obtain rfl:v=Value.ref a:=r
 refine wpAny_bind (wpAny_standAt (wpAny_pure ?_))
 obtain ⟨⟨o,vs,e1,e2,e3,e4,e5⟩,_⟩:=I1.hok a _ ha
 have lv:=leaves (I1.xq ha) yaa (.inl (raw_of I1.hok ha)) q
 have:=qhf (A:=(cxX P w K mg base N qual scope f cd A outer s0 H0 E).A) (env:=(cxX P w K mg base N qual scope f cd A outer s0 H0 E).env) (M:=model P w) (Q:=SP (cxX P w K mg base N qual scope f cd A outer s0 H0 E) pins D) (x:=pure (.ref a)) (s₀:=s1) I1.kIn ty.cx (I1.ok.hd rfl) e1 e2 e4 e5 lv (λ{R} hR=>wpAny_pure hR)
 unfold raiseStmt at this
 exact this
end
noncomputable def HasX(P:Program)(w:World)(K:W.Frag)(mg:Str->Option Value)(base:Heap)(k:Nat)(x:Str)(ps:List Str)(sp:Sp):Prop:=
 ∃f fd,mg x=some (.ref f)/\W.keepIn K (.ref f)=true/\qbm K fd ps []/\FnOk P w K mg base (CX1 P w) k f fd ps sp
section
variable {P:Program}{w:World}{K:W.Frag}{mg:Str->Option Value}{base:Heap}
theorem FnOk.x{k:Nat}{f:Addr}{fd:FuncData}{ps:List Str}{sp:Sp}(F:FnOk P w K mg base CX0 k f fd ps sp):FnOk P w K mg base (CX1 P w) k f fd ps sp:=
 ⟨F.len,λA outer s H args us vs Q E hr he hb hv hs=>codeAny_mono (F.run A outer s H args us vs Q E hr he hb hv hs) λr s' h=>by
  cases r with
  |error e=>exact h.elim
  |ok fl=>cases fl<;>exact h⟩
theorem FnOk.ofX{x qual:Str}{st:Stmt}{f:Addr}{fd:FuncData}{N ps:List Str}{k:Nat}{sp:Sp}(F:Fun K x qual st f fd)(S:FnScope N ps (yac st))(len:∀vs H Q E,sp vs H Q E->vs.length=ps.length)
  (hbody:∀(cdv:Value) (A:Around) (outer:List Env) (s:Shared) (H:Hp) (vs:List V) (Q:VK) (E:XK),Room k (A.deeper (envOfC qual (yac st) s.heap.objs.size f cdv))->sp vs H Q E->
   ∃t,Mx.QSs (cxX P w K mg base N qual (yac st) f cdv A outer s H E) (yak st) t/\t { nx:=λ_ H'=>Q .non H',rt:=Q } (yb6 N vs) H):FnOk P w K mg base (CX1 P w) (k+1) f fd ps sp:=by
 obtain ⟨oc,od,kV,doc,pm,an,cdv,ct,osl,rfl,lk,hcd⟩:=F.ex
 refine fn_of lk hcd S len λA outer s H vs Q E hr hsp=>?_
 obtain ⟨t,h,q⟩:=hbody cdv A outer s H vs Q E hr hsp
 exact ⟨t,h.of,q⟩
theorem HasX.of{x:Str}{st:Stmt}{ps N:List Str}{k:Nat}{sp:Sp}(F:FnAt K mg x st ps)(S:FnScope N ps (yac st))(len:∀vs H Q E,sp vs H Q E->vs.length=ps.length)
  (hbody:∀(f:Addr) (cdv:Value) (A:Around) (outer:List Env) (s:Shared) (H:Hp) (vs:List V) (Q:VK) (E:XK),Room k (A.deeper (envOfC x (yac st) s.heap.objs.size f cdv))->sp vs H Q E->
   ∃t,Mx.QSs (cxX P w K mg base N x (yac st) f cdv A outer s H E) (yak st) t/\t { nx:=λ_ H'=>Q .non H',rt:=Q } (yb6 N vs) H):HasX P w K mg base (k+1) x ps sp:=by
 obtain ⟨f,fd,h1,h2,h3⟩:=F
 exact ⟨f,fd,h1,h2.kp,h3,FnOk.ofX h2 S len λcdv A outer s H vs Q E hr h=>hbody f cdv A outer s H vs Q E hr h⟩
end
section
variable {X:Cx}{e o:Expr}{es:List Expr}{ta:TE}{t:TA}{p pos apos:Pos}{x m:Str}{C:Addr}{E:XK}
theorem pe_callX{k n:Nat}{ps:List Str}{sp:Sp}(h:HasX X.prog X.w X.K X.mg X.base k x ps sp)(hx:yb0 (CX1 X.prog X.w) X E)(hr:Room n X.A)(ha:PA X (e::es) t)(hk:k<=n:=by decide)(hg:Gl X x:=by rfl)
  (hdb:(x == ("__debug__" : Str))=false:=by decide) (he:starEach (e::es) X.env=(false,eval e X.env)::starEach es X.env:=by rfl) (hpl:(backTo pos (starEach es X.env)).any (·.1)=false:=by rfl) :
  PE X (.Call (.Name x p) (e::es) [] pos) (qg9 sp [] E t):=by
 obtain ⟨f,fd,h1,h2,h3,h4⟩:=h
 exact ygs h4 (hr.mono hk) hg h1 h2 h3 .nil hx ha hdb he hpl
end
noncomputable abbrev Cx.sui(X:Cx)(e:Value):Cx:={ X with A:=X.A.mark (some e),calm:=false }
section
variable {X:Cx}{pins:List (Addr×Obj)}{σ:St}{H:Hp}{s:Shared}{v:Value}
theorem Cx.Ok.sui(ok:X.Ok)(v:Value):(X.sui v).Ok:=
 ⟨ok.mod,ok.kind,ok.glob,ok.blt,ok.above,ok.inj,ok.has,ok.cab,(λh=>nomatch h),ok.frames,ok.stk,ok.exf,ok.bs,ok.bsz,ok.noex,ok.exfs,ok.funs,ok.frf⟩
theorem Inv.sui(I:Inv X pins σ H s)(v:Value):Inv (X.sui v) pins σ H s:=⟨I.ok.sui v,I.os,I.bare,I.base,I.loc,I.cell,I.free,I.freeC,I.pin,I.hok,I.len⟩
theorem Inv.unsui(ok:X.Ok)(I:Inv (X.sui v) pins σ H s):Inv X pins σ H s:=⟨ok,I.os,I.bare,I.base,I.loc,I.cell,I.free,I.freeC,I.pin,I.hok,I.len⟩
theorem goes_ok{M:Model}{A:Around}{E:Value->Shared->Prop}{i:Nat}{x:Str}{pos:Pos}{Q:Unit->Shared->Prop}(I:Inv X pins σ H s)(hN:X.N.Nodup)(hi:X.N[i]?=some x)(hk:X.env.scope.names.lookup x=some .local)
  (h:∀s',Inv X pins (σ.set i none) H s'->Q () s'):wpAny M A (do bindName X.env x .none;unbindBehindTheSuite X.env x pos) Q E s:=by
 obtain ⟨m,hn,hl⟩:=id I.loc
 have hcls:(X.env.scope.kind == .class||(X.env.scope.kind == .module&&X.env.locals != X.env.globals))=false:=by rw[I.ok.kind];rfl
 have cne:=I.cne
 refine wpAny_nameGoes_keeps hk hn hcls λh' v hn' hs=>?_
 obtain ⟨oL,_,_,hoL,_⟩:=id hn
 have tracked:HOk X.prog X.w H h':=λb ob e=>by
  refine (I.hok b ob e).stay (λc w' hc q=>(hs.2 c ?_).trans q) (λ_ q=>q) λ_ _ q=>q
  rintro rfl
  rcases hc with rfl|hc
  ·rw[I.free]at e;cases e
  ·rw[I.free]at hc;cases hc
 refine h _ ⟨I.ok,I.os,I.bare,⟨λb o e n hb hx=>?_,λb o e n hb hx=>?_,I.base.free,λb o e hx=>?_,I.base.tups,I.base.frzs,I.base.tbls⟩,⟨_,hn',λj y v' e1 e2 e3=>?_⟩,λy c e=>?_,I.free,I.freeC,λp hp=>?_,tracked,by simpa using I.len⟩
 ·exact (hs.2 b (ne_of_lt (lt_of_lt_of_le (lt_size e) I.ok.above))).trans (I.base.keep b o e n hb hx)
 ·obtain ⟨sl,e1⟩:=I.base.slot b o e n hb hx
  exact ⟨sl,(hs.2 b (ne_of_lt (lt_of_lt_of_le (lt_size e) I.ok.above))).trans e1⟩
 ·obtain ⟨o',e1⟩:=I.base.there b o e hx
  exact ⟨o',(hs.2 b (ne_of_lt (lt_of_lt_of_le (lt_size e) I.ok.above))).trans e1⟩
 ·by_cases hj:i=j
  ·subst hj
   rw[List.getElem?_set_self (by have:=(List.getElem?_eq_some_iff.mp hi).1;rw[I.len];exact this)]at e2
   cases e2
  ·rw[List.getElem?_set_ne hj]at e2
   obtain ⟨u',r',q⟩:=hl j y v' e1 e2 e3
   refine ⟨u',r',?_⟩
   rcases q with ⟨k,e⟩|⟨k,c,e,z⟩
   ·refine .inl ⟨k,?_⟩
    have:y≠x:=λe=>hj (qd0 hN hi (e ▸ e1))
    simp[this,e]
   ·exact .inr ⟨k,c,e,z.sameBut hs (cne y c e)⟩
 ·obtain ⟨w',z⟩:=I.cell y c e
  exact ⟨w',z.sameBut hs (cne y c e)⟩
 ·obtain ⟨e,n,ne,nf,d⟩:=I.pin p hp
  exact ⟨(hs.2 p.1 ne).trans e,n,ne,nf,d⟩
theorem yfa{M:Model}{A:Around}{E:Value->Shared->Prop}{a T:Addr}{Q:Unit->Shared->Prop}(I:Inv X pins σ H s)(fl:Fly s.heap H a T)(h:∀s',Inv X pins σ H s'->Fly s'.heap H a T->Q () s'):wpAny M A (setFlight (.ref a) none) Q E s:=by
 obtain ⟨⟨o,vs,he,hd,h1⟩,hTa,hTn,oT,ts,hT,hdT,h3⟩:=fl
 refine wpAny_setFlight_none he hd h1 hT hdT (Array.getElem?_eq_some_iff.mp h3).1 ?_
 have same:∀b u,s.heap.get? b=some u->(s.heap.update T (Obj.mapFields (·.setIfInBounds 3 Value.none))).get? b=some u:=λb u e=>by
  by_cases hb:b=T
  ·subst hb
   have:=Heap.get?_update_self (Obj.mapFields (·.setIfInBounds 3 Value.none)) hT (Obj.isFreed_of_fields (Obj.data_mapFields hdT _))
   rw[yg9 hdT h3]at this
   rw[hT]at e;cases e
   exact this
  ·exact (get?_update_other _ _ (Ne.symm hb)).trans e
 exact h _ (I.kept (t':=s.toks) same) ⟨⟨o,vs,same _ _ he,hd,h1⟩,hTa,hTn,oT,ts,same _ _ hT,hdT,h3⟩
noncomputable def XP(X:Cx)(pins:List (Addr×Obj))(R:St->V->Hp->Prop)(e:Value)(s':Shared):Prop:=∃a T C dx σ' H',e=.ref a/\Inv X pins σ' H' s'/\H' a=some (.ext (qbf a C dx))/\Fly s'.heap H' a T/\R σ' (.ref a) H'
noncomputable def PSx(X:Cx)(sts:List Stmt)(t:(St->V->Hp->Prop)->TS):Prop:=
 ∀(pins:List (Addr×Obj)) (s:Shared) (σ:St) (H:Hp) (D:Ends) (R:St->V->Hp->Prop),Inv X pins σ H s->t R D σ H->wpAny (model X.prog X.w) X.A (execs sts X.env) (SP X pins D) (XP X pins R) s
noncomputable def PEx(X:Cx)(e:Expr)(t:(V->Hp->Prop)->TE):Prop:=
 ∀(pins:List (Addr×Obj)) (s:Shared) (σ:St) (H:Hp) (Q:VK) (R:V->Hp->Prop),Inv X pins σ H s->t R σ H Q->wpAny (model X.prog X.w) X.A (eval e X.env) (EP X pins σ Q) (XP X pins λσ' v H'=>σ'=σ/\R v H') s
noncomputable def rxE(R:V->Hp->Prop):XK:=λe _ H'=>∃a,e=.ref a/\R (.ref a) H'
variable {e:Expr}{es:List Expr}{p pos apos:Pos}{x m:Str}{C:Addr}{t:TA}{te ta:TE}
theorem run_fnx{k:Nat}{f:Addr}{fd:FuncData}{ps:List Str}{sp:Sp}{Q:VK}{R:V->Hp->Prop}{us:List Value}{vs:List V}(F:FnOk X.prog X.w X.K X.mg X.base (CX1 X.prog X.w) k f fd ps sp)(hr:Room k X.A)(hb:qbm X.K fd ps [])
  (I:Inv X pins σ H s) (r:Vals vs us) (h:sp vs H Q (rxE R)):wpAny (model X.prog X.w) X.A (call (.ref f) us) (EP X pins σ Q) (XP X pins λσ' v H'=>σ'=σ/\R v H') s:=by
 have hl:us.length=ps.length:=by rw[<-r.length];exact F.len _ _ _ _ h
 have bb:=hb s us I.kIn (by rw[append_nil];exact hl)
 rw[append_nil]at bb
 refine wpAny_call (codeAny_mono (F.run X.A X.stack s H ⟨us,[]⟩ us vs Q (rxE R) hr I.env0 bb r h) λr s' hq=>?_)
 cases r with
 |error e=>
  obtain ⟨a,T,C,dx,H',rfl,ho,hba,un,hok,ha,fl,a',ea,hR⟩:=hq
  cases ea
  exact ⟨a,T,C,dx,σ,H',rfl,I.call' (ch:=[]) ho un hok hba λb z=>absurd z (by simp),ha,fl,rfl,hR⟩
 |ok fl=>
  cases fl with
  |ret u=>exact I.after hq
  |next=>exact False.elim hq
  |brk=>exact False.elim hq
  |cont=>exact False.elim hq
noncomputable def sSetx(i:Nat)(te:(V->Hp->Prop)->TE)(R:St->V->Hp->Prop):TS:=λD σ H=>te (R σ) σ H λv H1=>D.nx (σ.set i (some v)) H1
theorem psx_set{i:Nat}{pos':Pos}{te:(V->Hp->Prop)->TE}(hN:X.N.Nodup)(hi:X.N[i]?=some x)(hx:Loc X.env.scope x)(he:PEx X e te)(hs:swapsWith e (some (.Name x pos')) pos.line X.env=pure false:=by rfl)
  (hf:X.fn x=true\/X.env.scope.names.lookup x=some .local:=by first|exact .inl rfl|exact .inr rfl|assumption):PSx X [.Assign [.Name x pos'] e pos] (sSetx i te):=by
 intro pins s σ H D R I h
 refine wpAny_execs_cons ?_
 refine wpAny_Assign_Name (wpAny_mono (he pins s σ H _ (R σ) I h) (λu s1 ⟨y,H1,I1,ry,q⟩=>?_) λe s' ⟨a,T,C,dx,σ',H',r1,r2,r3,r4,e1,r5⟩=>⟨a,T,C,dx,σ',H',r1,r2,r3,r4,by rw[e1];exact r5⟩) hs
 exact qc2 I1 hN hi hx ry (λs2 I2=>wpAny_execs_nil ⟨_,_,I2,q⟩) hf
noncomputable def sTry(K:W.Frag)(M:Addr)(iy jn:Nat)(tb:(St->V->Hp->Prop)->TS):TS:=λD σ H=>tb (λσ' v H'=>∃a C fs,v=.ref a/\XAt H' a C fs/\W.exmOne K (.ref C) (.ref M)=some true/\D.nx (((σ'.set jn (some v)).set iy (some v)).set jn none) H') D σ H
theorem ps_try{body:List Stmt}{cx n y:Str}{M:Addr}{iy jn:Nat}{tb:(St->V->Hp->Prop)->TS}{p1 p2 p3 p4 p5:Pos}(hx:∀e s,¬ X.xe e s)(hst:X.stack=X.env::X.outer)(hfr:X.env.frame=some X.env.locals)(hb:PSx X body tb)
  (hN:X.N.Nodup) (hj:X.N[jn]?=some n) (hn:X.env.scope.names.lookup n=some .local) (hi:X.N[iy]?=some y) (hy:Loc X.env.scope y) (hne:jn≠iy) (hg:Gl X cx) (hm:X.mg cx=some (.ref M)) (hdb:(cx == ("__debug__" : Str))=false:=by decide) (hdn:(n == ("__debug__" : Str))=false:=by decide) (hcn:(n == ("__classdict__" : Str))=false:=by decide)
  (hf:X.fn y=true\/X.env.scope.names.lookup y=some .local:=by first|exact .inl rfl|exact .inr rfl|assumption)
  (hs:swapsWith (.Name n p3) (some (.Name y p2)) p4.line X.env=pure false:=by rfl) :
  PS X (.Try body [.ExceptHandler (some (.Name cx p1)) (some n) [.Assign [.Name y p2] (.Name n p3) p4] p5] [] [] pos) (sTry X.K M iy jn tb):=by
 intro pins s σ H D I h
 refine wpAny_Try_except (wpAny_mono (hb pins s σ H D _ I h) (λf s' z=>by cases f<;>first|exact z|exact wpAny_execs_nil z) ?_)
 rintro e s1 ⟨a,T,C,dx,σ',H',rfl,I1,ha,fl,a',C',fs,ea,xa,em,q⟩
 cases ea
 refine qft I1 hst hfr ha (.inr ⟨T,fl⟩) λh' T' I2 fl2 _=>?_
 have I2m:=I2.sui (.ref a)
 refine wpAny_handleBy_cons (codeAny_handlers_test ?_) (by intro q;cases q)
 refine qcq (X:=X.sui (.ref a)) I2m hg hm ?_ hdb
 obtain ⟨ox,od,ia⟩:=xa.at I2
 refine (exm_one (M:=model X.prog X.w) I2.kIn ia.type em).here ?_
 refine codeAny_handlers_suite_as ?_
 refine yfa I2 fl2 λs3 I3 fl3=>?_
 refine qc2 (i:=jn) (x:=n) (v:=.ref a) I3 hN hj (.inl hn) rfl (λs4 I4=>?_) (.inr hn)
 have hp:=qe5 (qgi (X:=(X.sui (.ref a)).nox) (pos:=p4) (i:=iy) (x:=y) (pos':=p2) hN hi hy (pe_var (i:=jn) (pos:=p3) hj (.inl hn) hdn hcn) hs hf)
 refine wpAny_mono (hp pins s4 _ H' { nx:=λσ2 H2=>σ2=((σ'.set jn (some (.ref a))).set iy (some (.ref a)))/\H2=H',rt:=λ_ _=>False } ((I4.sui (.ref a)).wish _) ⟨_,?_,rfl,rfl⟩) (λf s5 z=>?_) λ_ _ z=>z.elim
 ·rw[List.getElem?_set_self]
  have:=(List.getElem?_eq_some_iff.mp hj).1
  rw[I3.len];exact this
 ·cases f with
  |next=>
   obtain ⟨σ5,H5,I5,rfl,rfl⟩:=z
   have I6:Inv X pins _ H5 s5:=Inv.unsui I2.ok I5.unwish
   exact goes_ok I6 hN hj hn λs7 I7=>⟨_,_,I7,q⟩
  |brk=>obtain ⟨_,_,_,z⟩:=z;exact z.elim
  |cont=>obtain ⟨_,_,_,z⟩:=z;exact z.elim
  |ret u=>obtain ⟨_,_,_,_,_,z⟩:=z;exact z.elim
end
noncomputable def XInit(P:Program)(w:World)(K:W.Frag)(mg:Str->Option Value)(base:Heap)(x:Str)(C:Addr)(ps:List Str)(sp:Sp):Prop:=
 mg x=some (.ref C)/\W.keepIn K (.ref C)=true/\XOk K C/\∃f fd,W.findIn K (.ref C) "__init__"=some (some (.ref f))/\W.isFn K (.ref f)=true/\qbm K fd ps []/\FnOk P w K mg base CX0 1 f fd ps sp
noncomputable def XBare(K:W.Frag)(mg:Str->Option Value)(x:Str)(C:Addr):Prop:=
 mg x=some (.ref C)/\W.keepIn K (.ref C)=true/\XTy K C/\W.excIn K C bmV "ValueError.__new__"=true
noncomputable def sp_x1(C:Addr)(f:Str):Sp:=λvs H Q _=>∃a v,vs=[.ref a,v]/\XD H a C none []/\∀d H',XD H' a C (some d) [(f,v)]->SetX a d none H H'->Q .non H'
theorem SetX.sm{a d:Addr}{H H1 H':Hp}{o:HO}(hn:H a=none)(e:H1=upd H a o)(x:SetX a d none H1 H'):Same H H':=by
 subst e
 intro b o hb
 refine x.kp b o (by rw[qaf (qae hb hn)];exact hb) (qae hb hn) ?_
 rcases x.dd with z|⟨_,z⟩
 ·cases z
 ·intro q
  subst q
  rw[qaf (qae hb hn),hb]at z
  cases z
section
variable {X:Cx}{e o:Expr}{es:List Expr}{t:TA}{ta:TE}{p pos apos:Pos}{x m:Str}{C:Addr}
theorem pe_xI{n:Nat}{ps:List Str}{sp:Sp}(h:XInit X.prog X.w X.K X.mg X.base x C ps sp)(hr:Room n X.A)(ha:PA X (e::es) t)(hk:2<=n:=by decide)(hg:Gl X x:=by rfl)(hdb:(x == ("__debug__" : Str))=false:=by decide)
  (he:starEach (e::es) X.env=(false,eval e X.env)::starEach es X.env:=by rfl) (hpl:(backTo pos (starEach es X.env)).any (·.1)=false:=by rfl):PE X (.Call (.Name x p) (e::es) [] pos) (tXMake C sp t):=by
 obtain ⟨h1,h2,h3,f,fd,h4,h5,h6,h7⟩:=h
 exact pe_xmake h3 h4 h5 h7 (hr.mono hk) h6 h2 hg h1 ha hdb he hpl
theorem pe_x0(h:XBare X.K X.mg x C)(ha:PA X (e::es) t)(hg:Gl X x:=by rfl)(hdb:(x == ("__debug__" : Str))=false:=by decide)
  (he:starEach (e::es) X.env=(false,eval e X.env)::starEach es X.env:=by rfl) (hpl:(backTo pos (starEach es X.env)).any (·.1)=false:=by rfl):PE X (.Call (.Name x p) (e::es) [] pos) (ygc C t):=by
 obtain ⟨h1,h2,h3,h4⟩:=h
 exact qhd h4 h2 hg h1 ha hdb he hpl
end
theorem pi_listK{X:Cx}{K:W.Frag}{tg l:Expr}{tl:TE}(h:X.K=K)(hl:PE X l tl):PI X tg l (iList K tl):=by
 subst h
 exact yce hl
noncomputable def qc6(P:Program)(w:World)(K:W.Frag)(mg:Str->Option Value)(base:Heap)(C:Addr)(k:Nat)(m:Str)(ps:List Str)(sp:Sp):Prop:=
 ∃f fd,Meth K C m f/\qbm K fd ps []/\FnOk P w K mg base (CX1 P w) k f fd ps sp
section
variable {P:Program}{w:World}{K:W.Frag}{mg:Str->Option Value}{base:Heap}{C:Addr}
theorem qc6.of{m qual:Str}{st:Stmt}{ps N:List Str}{k:Nat}{sp:Sp}(F:Mx.yb2 K C m qual st ps)(S:FnScope N ps (yac st))(len:∀vs H Q E,sp vs H Q E->vs.length=ps.length)
  (hbody:∀(f:Addr) (cdv:Value) (A:Around) (outer:List Env) (s:Shared) (H:Hp) (vs:List V) (Q:VK) (E:XK),Room k (A.deeper (envOfC qual (yac st) s.heap.objs.size f cdv))->sp vs H Q E->
   ∃t,Mx.QSs (cxX P w K mg base N qual (yac st) f cdv A outer s H E) (yak st) t/\t { nx:=λ_ H'=>Q .non H',rt:=Q } (yb6 N vs) H):qc6 P w K mg base C (k+1) m ps sp:=by
 obtain ⟨f,fd,h1,h2,h3⟩:=F
 exact ⟨f,fd,h1,h3,FnOk.ofX h2 S len λcdv A outer s H vs Q E hr h=>hbody f cdv A outer s H vs Q E hr h⟩
end
section
variable {X:Cx}{pins:List (Addr×Obj)}{σ:St}{H:Hp}{s:Shared}{e o:Expr}{es:List Expr}{t:TA}{ta:TE}{p pos apos:Pos}{x m:Str}{C:Addr}
noncomputable def tMethx(C:Addr)(m:Str)(sp:Sp)(ta:TE)(t:TA)(R:V->Hp->Prop):TE:=λσ H Q=>ta σ H λx H1=>∃a dx fs,x=.ref a/\H1 a=some (.ins C dx fs)/\fs.lookup m=none/\t σ H1 λvs H2=>sp (x::vs) H2 Q (rxE R)
theorem pex_meth{k n:Nat}{ps:List Str}{sp:Sp}{pl:Sem Bool}(hx:∀e s,¬ X.xe e s)(c:Cls X.K C)(h:qc6 X.prog X.w X.K X.mg X.base C k m ps sp)(hr:Room n X.A)(he:PE X o ta)(ha:PA X (e::es) t)(hk:k<=n:=by decide)
  (hst:starEach (e::es) X.env=(false,eval e X.env)::starEach es X.env:=by rfl) (hpl:(backTo pos (starEach es X.env)).any (·.1)=false:=by rfl)
  (ht:eval (.Call (.Attribute o m apos) (e::es) [] pos) X.env=(do
   let ov <-eval o X.env
   standAt apos.atName
   let (f,first) <-holding [ov] (getMethod ov m pl)
   callWith pos f first (backTo pos (starEach (e::es) X.env)) (backToKw pos (keywordEach [] X.env))):=by rfl) :
  PEx X (.Call (.Attribute o m apos) (e::es) [] pos) (tMethx C m sp ta t):=by
 intro pins s σ H Q R I h'
 obtain ⟨f,fd,h1,h3,h4⟩:=h
 refine W.methodCall_KW (pl:=pl) (wpAny_mono (he pins s σ H _ I h') (λu s1 ⟨x,H1,I1,rx,a,dx,fs,ex,ea,l,q⟩=>?_) λe s z=>(hx e s z).elim) ht
 subst ex
 obtain rfl:u=Value.ref a:=rx
 refine ydv I1 ea c h1 l ?_
 refine W.callWith_K (first:=[.ref a]) (h₀:=X.base) I.ok.mod.kin h1.kp (wpAny_mono (ha pos pins s1 σ H1 _ I1 q) (λus s2 ⟨vs,H2,I2,r,q2⟩=>⟨I2.kIn,?_⟩) λe s z=>(hx e s z).elim) hst hpl
 exact run_fnx (us:=.ref a::us) (vs:=.ref a::vs) h4 (hr.mono hk) h3 I2 (.cons rfl r) q2
end
theorem yfr{H H':Hp}{a d C:Addr}{fs:List (Str×V)}(hn:H a=none)(x:XD H' a C (some d) fs)(sx:SetX a d none (upd H a (.ext (qa6 a C none))) H') :
  H' a=some (.ext (qa6 a C (some d)))/\Same H (upd H' a (.ext (qbf a C (some d))))/\XAt (upd H' a (.ext (qbf a C (some d)))) a C fs:=by
 rcases x with ⟨e,_⟩|⟨d',e,h1,h2⟩
 ·cases e
 cases e
 have nd:d≠a:=by
  rcases sx.dd with z|⟨_,z⟩
  ·cases z
  ·intro q
   subst q
   rw[yaa]at z
   cases z
 refine ⟨h1,(SetX.sm hn rfl sx).at hn,.inr (.inr (.inr ⟨d,yaa,?_⟩))⟩
 rw[qaf nd]
 exact h2
section
variable {X:Cx}
theorem pe_bmK{K:W.Frag}{o e:Expr}{es:List Expr}{to:TE}{t:TA}{name:Str}{apos cpos:Pos}{T id:String}{r:V->List V->Hp->VK->Prop}(hK:X.K=K)(pa:PlainAttrs T)(slot:Slot T name id)(hty:typeOf (.builtin id)=pure (.type "method_descriptor"))(hm:MtR X id r)(ho:PE X o to)(ha:PA X (e::es) t)
  (hbase:attributeBase o name X.env (eval o X.env)=eval o X.env:=by rfl)
  (hfew:((backTo cpos (starEach (e::es) X.env)).all (λx=>!x.1)&&(backToKw cpos (keywordEach [] X.env)).all (λx=>x.1.isSome)
   && decide ((e::es).length+([]:List Keyword).length+(if ([]:List Keyword).isEmpty then 0 else 1)<30))=true:=by rfl)
  (hline:(apos.endLine == cpos.line)=true:=by rfl) (hs:starEach (e::es) X.env=(false,eval e X.env)::starEach es X.env:=by rfl) (hplain:(backTo cpos (starEach es X.env)).any (·.1)=false:=by rfl) :
  PE X (.Call (.Attribute o name apos) (e::es) [] cpos) (tBM K T r to t):=by
 subst hK
 exact ybj pa slot hty hm ho ha hbase hfew hline hs hplain
end
end L2
namespace Mx
open PySem L2 PyProof.Rows
section
variable {X:Cx}{o e:Expr}{es:List Expr}{te to:TE}{t:TA}{pos p2:Pos}
theorem qe_sl{lo hi:Option Expr}{tl th:TO}{r:V->Option Int->Option Int->Hp->VK->Prop}(hr:SlR X r)(he:QE X e te)(hl:PO X lo tl)(hu:PO X hi th):QE X (.Subscript e (.Slice lo hi none p2) pos) (tSl r te tl th):=⟨ybi hr he.of hl hu⟩
theorem qe_bm{name:Str}{apos cpos:Pos}{T id:String}{r:V->List V->Hp->VK->Prop}(pa:PlainAttrs T)(slot:Slot T name id)(hty:typeOf (.builtin id)=pure (.type "method_descriptor"))(hm:MtR X id r)(ho:QE X o to)(ha:QA X (e::es) t)
  (hbase:attributeBase o name X.env (eval o X.env)=eval o X.env:=by rfl)
  (hfew:((backTo cpos (starEach (e::es) X.env)).all (λx=>!x.1)&&(backToKw cpos (keywordEach [] X.env)).all (λx=>x.1.isSome)
   && decide ((e::es).length+([]:List Keyword).length+(if ([]:List Keyword).isEmpty then 0 else 1)<30))=true:=by rfl)
  (hline:(apos.endLine == cpos.line)=true:=by rfl) (hs:starEach (e::es) X.env=(false,eval e X.env)::starEach es X.env:=by rfl) (hplain:(backTo cpos (starEach es X.env)).any (·.1)=false:=by rfl) :
  QE X (.Call (.Attribute o name apos) (e::es) [] cpos) (tBM X.K T r to t):=⟨ybj pa slot hty hm ho.of ha.of hbase hfew hline hs hplain⟩
end
end Mx
namespace L2
open PySem PySem.Spec PyProof.Rows PySem.W Mx
section
variable {P:Program}{w:World}{K:W.Frag}{mg:Str->Option Value}{base:Heap}{C:Addr}
theorem HasM.x{m:Str}{ps:List Str}{k:Nat}{sp:Sp}(h:HasM P w K mg base C k m ps sp):qc6 P w K mg base C k m ps sp:=by
 obtain ⟨f,fd,h1,h2,h3⟩:=h
 exact ⟨f,fd,h1,h2,h3.x⟩
end
section
variable {X:Cx}{o e:Expr}{es:List Expr}{ta:TE}{t:TA}{C:Addr}{m:Str}{pos apos:Pos}{E:XK}
theorem qfk{k n:Nat}{ps:List Str}{sp:Sp}{pl:Sem Bool}(c:Cls X.K C)(h:qc6 X.prog X.w X.K X.mg X.base C k m ps sp)(hx:yb0 (CX1 X.prog X.w) X E)(hr:Room n X.A)(he:QE X o ta)(ha:QA X (e::es) t)(hk:k<=n:=by decide)
  (hst:starEach (e::es) X.env=(false,eval e X.env)::starEach es X.env:=by rfl) (hpl:(backTo pos (starEach es X.env)).any (·.1)=false:=by rfl)
  (ht:eval (.Call (.Attribute o m apos) (e::es) [] pos) X.env=(do
   let ov <-eval o X.env
   standAt apos.atName
   let (f,first) <-holding [ov] (getMethod ov m pl)
   callWith pos f first (backTo pos (starEach (e::es) X.env)) (backToKw pos (keywordEach [] X.env))):=by rfl) :
  QE X (.Call (.Attribute o m apos) (e::es) [] pos) (tMeth C m sp [] E ta t):=by
 obtain ⟨f,fd,h1,h2,h3⟩:=h
 exact ⟨pe_meth (pl:=pl) he.of c h1 h3 (hr.mono hk) h2 .nil hx ha.of hst hpl ht⟩
end
end L2
namespace L2
open PySem PySem.Spec PyProof.Rows Mx
noncomputable def forB(s:Stmt):List Stmt:=match s with
 |.For _ _ b _ _=>b
 |_=>[]
noncomputable def sub:List Nat->List Stmt->List Stmt
 |[],b=>b
 |[j],b=>b.drop j
 |k::l,b=>match b.drop k with
  |s::_=>sub l (forB s)
  |[]=>[]
theorem cutA(l:List Nat){X:Cx}{body:List Stmt}{G:TS->Prop}(p:{t:TS // QSs X (sub l body) t})(h:let q:=p;∃t,QSs X body t/\G t):∃t,QSs X body t/\G t:=h
end L2
namespace L2
open PySem PySem.Spec PyProof.Rows
section
variable {X:Cx}{pins:List (Addr×Obj)}{σ:St}{H:Hp}{s:Shared}{a:Addr}{kvs:List (Key×V)}
theorem is_kV{P:Program}{w:World}{k:Key}{u:Value}(h:(yas P w).is k u=true):RelV (kV k) u:=by
 rcases yan h with ⟨i,t,rfl,rfl⟩|⟨x,t,rfl,rfl⟩<;>exact ⟨t,rfl⟩
theorem Inv.frzD(I:Inv X pins σ H s)(e:H a=some (.dK kvs)):∃o es ep,o.data=.dict es ep/\s.heap.get? a=some o/\Inv X pins σ (upd H a (.frz o (.dK kvs))) s:=by
 obtain ⟨z,hd,vs,r,ob,es,ep,ho,hx,hda,rest⟩:=(show qat X.prog X.w H s.heap a (.dK kvs) from I.hok a _ e)
 exact ⟨ob,es,ep,hda,ho,I.write (x:=a) (e:=a) (t':=s.toks) (o:=.frz ob (.dK kvs)) (by rw[e];exact True.intro) (.inl rfl) (λb u _ q=>q) ⟨ob,ho⟩ ⟨ho,z,hd,vs,r,ob,es,ep,ho,hx,hda,rest⟩⟩
theorem Inv.frzAt{o:Obj}{es:Array DictEntry}{ep:Nat}(I:Inv X pins σ H s)(e:H a=some (.frz o (.dK kvs)))(hda:o.data=.dict es ep):kvs.length<=sizeLine/\(a == sysModules)=false/\∃vs,KV kvs vs/\s.heap.DictAt (yas X.prog X.w) a vs ep:=by
 obtain ⟨ho,z,hd,vs,r,ob,es',ep',ho',hx,hda',rest⟩:=(show qat X.prog X.w H s.heap a (.frz o (.dK kvs)) from I.hok a _ e)
 rw[ho]at ho';cases ho'
 rw[hda]at hda';cases hda'
 exact ⟨z,hd,vs,r,o,es,ho,hx,hda,rest⟩
theorem KV.at_{kvs:List (Key×V)}{vs:List (Key×Value)}(r:KV kvs vs):∀{i:Nat},i<kvs.length->∃k v u,kvs[i]?=some (k,v)/\vs[i]?=some (k,u)/\RelV v u:=by
 induction r with
 |nil=>intro i h;exact absurd h (Nat.not_lt_zero _)
 |@cons p q l1 l2 h _ ih=>
  intro i hi
  cases i with
  |zero=>exact ⟨p.1,p.2,q.2,rfl,by rw[h.1];rfl,h.2⟩
  |succ i=>exact ih (i:=i) (by simpa using hi)
noncomputable def Itd(a:Addr)(o:Obj)(kvs:List (Key×V)):It:=
 ⟨λi H=>H a=some (.frz o (.dK kvs))/\i<kvs.length,λi H x H'=>H'=H/\∃k v,kvs[i]?=some (k,v)/\x=kV k,λi H=>H a=some (.frz o (.dK kvs))/\kvs.length<=i⟩
theorem ygn{P:Program}{w:World}{K:W.Frag}{tg:Expr}(a it:Addr)(o:Obj){es:Array DictEntry}{ep:Nat}(hda:o.data=.dict es ep):Turn P w K tg (Itd a o kvs) [it] it (λi h=>h.IsKeyIter it a i kvs.length ep) where
 mem:=by simp
 obj:=λi h st b hb=>by
  have e:b=it:=by simpa using hb
  subst e
  obtain ⟨ob,ho,hc,hd⟩:=st
  exact ⟨ob,ho,λv z=>by rw[hd]at z;cases z⟩
 keep:=λi h h' st k=>st.at (k it (by simp))
 item:=by
  intro X hP hw hK hc i pins s σ H E I hf st hg
  subst hP hw hK
  obtain ⟨f0,f1,f2,f3,f4,f5⟩:=hf it (by simp)
  obtain ⟨z,hd,vs,r,dd⟩:=I.frzAt hg.1 hda
  obtain ⟨k,v,u,e1,e2,rv⟩:=r.at_ hg.2
  have hl:=r.length
  rw[hl]at st
  refine wpAny_pyNext_dict_item st dd e2 λkey h' hk st' sb=>?_
  have I1:Inv X pins σ H { s with heap:=h',toks:=s.toks }:=I.turned (λb o hb e=>(sb.2 b hb).trans e) f0 f1 f3 f4 f5
  obtain ⟨ob,ho,hcl,hdat⟩:=id st'
  exact ⟨key,rfl,go_of (s:={ s with heap:=h' }) (n:="dict_keyiterator") ho hcl hdat (by decide) ⟨kV k,H,I1,is_kV hk,⟨rfl,k,v,e1,rfl⟩,by rw[hl];exact st',λb hb=>(hf b hb).1⟩⟩
 done:=by
  intro X hP hw hK hc i pins s σ H E I hf st hg
  subst hP hw hK
  obtain ⟨f0,f1,f2,f3,f4,f5⟩:=hf it (by simp)
  obtain ⟨z,hd,vs,r,dd⟩:=I.frzAt hg.1 hda
  have hl:=r.length
  rw[hl]at st
  exact wpAny_pyNext_dict_end (I.ok.hd hc) st dd (List.getElem?_eq_none (by have:=hg.2;omega)) λh' eb=>⟨rfl,I.turned (t':=s.toks) (λb o hb e=>eb b o hb e) f0 f1 f3 f4 f5⟩
 self:=λ_ _ _ _ _ st h=>wpAny_pyIter_keyiter st h
end
end L2
namespace L2
open PySem PySem.Spec PyProof.Rows PySem.W
theorem range_getD{α:Type}(d:α)(l:List α):(List.range l.length).map (λi=>l.getD i d)=l:=by
 refine List.ext_getElem? λi=>?_
 rw[getElem?_map]
 by_cases h:i<l.length
 ·rw[List.getElem?_range h,getElem?_eq_getElem h]
  simp[List.getD_eq_getElem?_getD,h]
 ·rw[List.getElem?_eq_none (by omega:l.length<=i),List.getElem?_eq_none (by simpa using h)]
  rfl
section
variable {prog:Program}{w:World}{A:Around}{E:Value->Shared->Prop}{s:Shared}
theorem yg3{v:Value}{Q:Value->Shared->Prop}
  (h:wpAny (model prog w) A.in1 (collect v) (λvs s1=>vs.length<64/\(∀(s2:Shared),s2={ s1 with heap:=s1.heap.push (seqObj "list" vs.toArray 0) }->
   wpAny (model prog w) A.in1.in1 (Builtin.«list.sort» ⟨[.ref s1.heap.objs.size],[]⟩) (λf s3=>f=.done (.ret .none)/\Q (.ref s1.heap.objs.size) s3) (λ_ _=>False) s2)) E s) :
  wpAny (model prog w) A (call (.builtin "sorted") [v]) Q E s:=by
 refine Calls.call_function_entry kind_sorted plain_sorted entry_sorted (args_sorted1 v) ?_
 unfold Builtin.«sorted»
 refine wpAny_bind (m:=checkCount "sorted" 1 1 _) ?_
 refine wpAny_pure ?_
 refine wpAny_bind (wpAny_mono h (λvs s1 hq=>?_) λ_ _ x=>x)
 obtain ⟨h64,k⟩:=hq
 refine wpAny_bind (wpAny_newList ?_ (ybd (by omega)))
 have gL:(s1.heap.push (seqObj "list" vs.toArray 0)).get? s1.heap.objs.size=some (seqObj "list" vs.toArray 0):=get?_push_size _ rfl
 refine wpAny_bind (wpAny_holding (wpAny_call_entry slot_list_sort ⟨_,gL,rfl⟩ entry_list_sort (wpAny_mono (k _ rfl) (λf s3 hf=>?_) λ_ _ x=>x.elim) (args_list_sort _)))
 obtain ⟨rfl,q⟩:=hf
 exact ⟨_,rfl,wpAny_pure ⟨_,rfl,q⟩⟩
theorem yhb{R:Result->Shared->Prop}{T:String}{r d:Addr}{n:Nat}{P:Nat->Value->Prop}{OK:Heap->Prop}(K:KdlSrc prog w T r d n P OK)(hh:A.handled=none)(hok:OK s.heap)(hn:n<=sizeLine)
  (k:∀h' tk acc c,h'.get? s.heap.objs.size=some { cls:=.type "list",dict:=none,data:=.seq acc c,slots:=#[] }->ItemsOf P acc n->(∀b o,s.heap.get? b=some o->h'.get? b=some o)->R (.ok (.ret (.ref s.heap.objs.size))) { s with heap:=h',toks:=tk }) :
  codeAny (model prog w) A (.builtin "proto.collect" ⟨[.ref r],[]⟩) R s:=by
 have hlt:=K.there _ hok
 refine codeAny_builtin F.entry_proto_collect ?_
 rw[Around.under_plainId F.plain_proto_collect _]
 show wpAny _ A.in1 (newList [] >>= λl=>again (.builtin "list.__iadd__" ⟨[l,.ref r],[]⟩)) _ _ s
 refine wpAny_bind (wpAny_newObj_type ?_)
 refine wpAny_pure ⟨plainId_quiet F.plain_list_iadd _,?_⟩
 refine codeAny_builtin F.entry_list_iadd ?_
 rw[Around.under_plainId F.plain_list_iadd _]
 show wpAny _ A.in1 (Builtin.List.listExtendWith (.ref s.heap.objs.size) (.ref r) (.ref s.heap.objs.size)) _ _ _
 have g0:(s.heap.push { cls:=.type "list",data:=.seq ([]:List Value).toArray }).get? s.heap.objs.size=some { cls:=.type "list",data:=.seq #[] }:=get?_push_size _ rfl
 refine kdl_extend (R:=R) (s:={ s with heap:=s.heap.push { cls:=.type "list",data:=.seq ([]:List Value).toArray } }) K hh (K.keep _ _ hok λb _ o e=>get?_push_of_some _ e) _ (ne_of_gt hlt.1) (ne_of_gt hlt.2) _ 0 g0 (λh' tk acc c kp g it=>?_) hn
 exact k h' tk acc c g it λb o e=>kp b o (ne_of_lt (lt_size e)) (get?_push_of_some _ e)
theorem collectK{Q:List Value->Shared->Prop}{T:String}{r d:Addr}{n:Nat}{P:Nat->Value->Prop}{OK:Heap->Prop}(K:KdlSrc prog w T r d n P OK)(hh:A.handled=none)(hok:OK s.heap)(hn:n<=sizeLine)
  (k:∀vs h' tk,vs.length=n->(∀(j:Nat) v,vs[j]?=some v->P j v)->s.heap.objs.size<h'.objs.size->(∀b o,s.heap.get? b=some o->h'.get? b=some o)->Q vs { s with heap:=h',toks:=tk }) :
  wpAny (model prog w) A (collect (.ref r)) Q E s:=by
 unfold collect
 refine wpAny_bind (wpAny_runValue (yhb K hh hok hn λh' tk acc c g it kp=>?_))
 refine wpAny_bind (wpAny_load g ?_)
 exact wpAny_pure (k acc.toList h' tk (by rw[length_toList];exact it.1) (λj v e=>it.2 j v (by rw[<-Array.getElem?_toList];exact e)) (lt_size g) kp)
end
end L2
namespace L2
open PySem PySem.Spec PyProof.Rows
theorem for_by{J:It}{n:Nat}{g:TG}{tb:TS}{D:Ends}{σ:St}{H:Hp}(Pv:Nat->St->Hp->Prop)(h0:Pv 0 σ H)(hd:∀σ H,Pv n σ H->J.stop n H/\D.nx σ H)
  (hs:∀i σ H,i<n->Pv i σ H->J.go i H/\∀x H',J.yld i H x H'->g x σ H' λσ2 H2=>tb { D with nx:=Pv (i+1),ct:=Pv (i+1),bk:=D.nx } σ2 H2) :
  ∃W:Nat->Nat->St->Hp->Prop,(∃m,W 0 m σ H)/\∀i m σ H,W i m σ H->
   (J.stop i H/\D.nx σ H)\/(J.go i H/\∃N:St->Hp->Prop,(∀σ' H',N σ' H'->∃m',m' < m/\W (i+1) m' σ' H')/\∀x H',J.yld i H x H'->g x σ H' λσ2 H2=>tb { D with nx:=N,ct:=N,bk:=D.nx } σ2 H2):=by
 refine ⟨λi m σ H=>m=n-i/\i<=n/\Pv i σ H,⟨n,by simp,zero_le _,h0⟩,?_⟩
 rintro i m σ H ⟨rfl,hi,p⟩
 by_cases hlt:i<n
 ·obtain ⟨g1,g2⟩:=hs i σ H hlt p
  exact .inr ⟨g1,Pv (i+1),λσ' H' p'=>⟨n-(i+1),by omega,rfl,hlt,p'⟩,g2⟩
 ·have e:i=n:=by omega
  subst e
  exact .inl (hd σ H p)
section
variable {X:Cx}{kvs:List (Key×V)}{a:Addr}{H:Hp}{pins:List (Addr×Obj)}{σ:St}{s:Shared}
structure Frz(H:Hp)(a:Addr)(o:Obj)(kvs:List (Key×V))(H2:Hp):Prop where
 at_:H2 a=some (.frz o (.dK kvs))
 st:∀b,b≠a->H2 b=H b
theorem Inv.frzR(I:Inv X pins σ H s)(e:Rd H a (.dK kvs)):∃o es ep H2,o.data=.dict es ep/\Inv X pins σ H2 s/\Frz H a o kvs H2:=by
 rcases e with e|⟨o,e⟩
 ·obtain ⟨o,es,ep,hda,ho,I2⟩:=I.frzD e
  exact ⟨o,es,ep,_,hda,I2,yaa,λb h=>qaf h⟩
 ·obtain ⟨ho,z,hd,vs,r,ob,es',ep',ho',hx,hda',rest⟩:=(show qat X.prog X.w H s.heap a (.frz o (.dK kvs)) from I.hok a _ e)
  rw[ho]at ho';cases ho'
  exact ⟨o,es',ep',H,hda',I,e,λb h=>rfl⟩
noncomputable def iDictR(tl:TE):TI:=λσ H R=>tl σ H λx H1=>∃a kvs,x=.ref a/\Rd H1 a (.dK kvs)/\∀o H2,Frz H1 a o kvs H2->R (Itd a o kvs) H2
theorem pi_dictR{tg l:Expr}{tl:TE}(hl:PE X l tl):PI X tg l (iDictR tl):=by
 intro pins s σ H R I h
 refine thn (hl pins s σ H _ I h) λv s1 ⟨x,H1,I1,r1,q1⟩=>?_
 obtain ⟨a,kvs,e,hq,q⟩:=q1
 subst e
 cases r1
 obtain ⟨o,es,ep,H2,hda,I2,fz⟩:=I1.frzR hq
 obtain ⟨z,hd,vs,r,dd⟩:=I2.frzAt fz.at_ hda
 refine wpAny_pyIter_dict hd dd ?_
 refine ⟨s1.heap.objs.size,[s1.heap.objs.size],_,_,_,rfl,I2.kept (t':=s1.toks) λb o e=>get?_push_of_some _ e,ygn a _ o hda,⟨_,get?_push_size _ rfl,rfl,by rw[r.length];rfl⟩,λb hb=>?_,q o H2 fz⟩
 have e:b=s1.heap.objs.size:=by simpa using hb
 subst e
 exact I2.fpOk (le_refl _) (I2.hok.fresh (le_refl _))
end
section
variable {X:Cx}{pins:List (Addr×Obj)}{σ:St}{H:Hp}{s:Shared}{a:Addr}{o:Obj}{kvs:List (Key×V)}
theorem Inv.thaw(I:Inv X pins σ H s)(e:H a=some (.frz o (.dK kvs)))(h0:∀o u,X.H₀ a≠some (.frz o u)):Inv X pins σ (upd H a (.dK kvs)) s:=by
 have na:∀{b:Addr}{u:HO},H b=some u->u≠.frz o (.dK kvs)->b≠a:=λq n z=>by subst z;rw[e]at q;exact n (Option.some.inj q).symm
 have nn:∀{b:Addr},H b=none->upd H a (.dK kvs) b=none:=λq=>by rw[qaf (qae e q).symm];exact q
 refine ⟨I.ok,I.os,I.bare,⟨I.base.keep,I.base.slot,λb ob q n x=>nn (I.base.free b ob q n x),I.base.there,λb xs q=>?_,λb ob u q=>?_,λb ps q=>?_⟩,I.loc,I.cell,nn I.free,λx c q=>nn (I.freeC x c q),λp hp=>?_,λb u q=>?_,I.len⟩
 ·have:=I.base.tups b xs q
  rw[qaf (na this (λz=>by cases z))];exact this
 ·have:=I.base.frzs b ob u q
  by_cases hb:b=a
  ·subst hb;exact absurd q (h0 _ _)
  ·rw[qaf hb];exact this
 ·obtain ⟨m,this⟩:=I.base.tbls b ps q
  exact ⟨m,by rw[qaf (na this (λz=>by cases z))];exact this⟩
 ·obtain ⟨a1,a2,a3⟩:=I.pin p hp
  exact ⟨a1,nn a2,a3⟩
 ·by_cases hb:b=a
  ·subst hb
   rw[yaa]at q
   cases q
   exact (I.hok b _ e).2
  ·rw[qaf hb]at q
   exact (I.hok b u q).stay (λc v _ r=>r) (λc r=>by rw[qaf (na r (λz=>by cases z))];exact r) λc xs r=>by rw[qaf (na r (λz=>by cases z))];exact r
noncomputable def tThaw(H₀:Hp)(t:TS):TS:=λD σ H=>t { D with nx:=λσ' H'=>∃a o kvs,H' a=some (.frz o (.dK kvs))/\H₀ a=some (.dK kvs)/\D.nx σ' (upd H' a (.dK kvs)) } σ H
theorem ps_thaw{st:Stmt}{t:TS}(h:PS X st t):PS X st (tThaw X.H₀ t):=by
 intro pins s σ H D I q
 refine thn (h pins s σ H _ I q) λf s1 r=>?_
 cases f with
 |next=>
  obtain ⟨σ',H',I',a,o,kvs,e,e0,q'⟩:=r
  exact ⟨σ',_,I'.thaw e (λo u z=>by rw[e0]at z;cases z),q'⟩
 |brk=>exact r
 |cont=>exact r
 |ret u=>exact r
end
section
open PySem.W
variable {X:Cx}
noncomputable def rSortDS:List V->Hp->VK->Prop:=λxs H Q=>∃(a:Addr) (kvs:List (Key×V)) (ns:List Str),xs=[.ref a]/\Rd H a (.dK kvs)/\kvs.map (·.1)=ns.map Sum.inr/\ns.length<64/\
 ∀(p:Addr) (ns':List Str),H p=none->ns'.Perm ns->PyProof.Rows.sortedS ns'=true->Q (.ref p) (upd H p (.lst (ns'.map V.str)))
theorem yct{P:Program}{w:World}:∀{vs:List Value}{ns:List Str},vs.length=ns.length->(∀(j:Nat) v n,vs[j]?=some v->ns[j]?=some n->(yas P w).is (Sum.inr n) v=true)->StrsAre vs ns
 |[],[],_,_=>.nil
 |[],_::_,h,_=>by simp at h
 |_::_,[],h,_=>by simp at h
 |v::vs,n::ns,h,k=>by
  have h0:=k 0 v n rfl rfl
  rcases yan (k:=Sum.inr n) (v:=v) h0 with ⟨i,t,e,rfl⟩|⟨x,t,e,rfl⟩
  ·cases e
  ·cases e
   exact .cons _ t (yct (by simpa using h) λj v n a b=>k (j+1) v n (by simpa using a) (by simpa using b))
theorem yb3(hc:X.calm=true):qca X (.builtin "sorted") rSortDS:=by
 intro pins s σ H xs us Q I r h
 obtain ⟨a,kvs,ns,rfl,hH,hk,h64,q⟩:=h
 cases r with
 |cons r rr=>
  cases rr
  cases r
  obtain ⟨z1,m1,vs1,r1,dd1⟩:=qe3 I.hok hH
  obtain ⟨ep,dat⟩:=dd1.dictAt
  have hl:=r1.length
  have hl2:kvs.length=ns.length:=by have:=congrArg List.length hk;simpa using this
  refine yg3 (collectK (kdl_dict (knd:=yas X.prog X.w) (kvs:=vs1) (ep:=ep) m1) (by simpa using I.ok.hd hc) dat (ybd (by omega)) λvs h' tk hvl hP hz kp=>⟨by omega,λs2 hs=>?_⟩)
  subst hs
  have i1:StrsAre vs ns:=yct (P:=X.prog) (w:=X.w) (by omega) λj v n e1 e2=>by
   obtain ⟨k,x,e3,e4⟩:=hP j v e1
   obtain ⟨k',v',u',e5,e6,_⟩:=r1.at_ (i:=j) (by rw[hl2];exact (List.getElem?_eq_some_iff.mp e2).1)
   rw[e6]at e3;cases e3
   have:=congrArg (·[j]?) hk
   simp only[getElem?_map,e5,e2,Option.map_some,Option.some.injEq]at this
   rw[this]at e4
   exact e4
  have gL:(h'.push (seqObj "list" vs.toArray 0)).get? h'.objs.size=some (seqObj "list" vs.toArray 0):=get?_push_size _ rfl
  refine list_sort_treeK strKind_oneLt gL i1.keysOf (λv₁ v₂ rest e=>keyKind_strs (by rw[<-e];exact i1)) (by omega) λst' hp hs=>⟨rfl,?_⟩
  obtain ⟨n2,a1,a2,a3⟩:=sorted_out_str i1 hp hs
  revert a1
  generalize (arrOf st').map (·.2)=out
  intro a1
  obtain ⟨ep,ge⟩:=sortedHeap_at (out:=out) gL
  have hf:H h'.objs.size=none:=I.hok.fresh (le_of_lt hz)
  refine ⟨.ref h'.objs.size,_,I.laid (o:=.lst (n2.map V.str)) (t':=tk) (λb o g=>?_) (le_of_lt hz) ?_,rfl,q _ n2 hf a2 a3⟩
  ·have hb:b<h'.objs.size:=lt_size (kp b o g)
   rw[sortedHeap_old (ne_of_lt hb) (by rw[show (h'.push (seqObj "list" vs.toArray 0)).objs.size=h'.objs.size+1 from size_push ..];exact Nat.lt_succ_of_lt hb)]
   exact get?_push_of_some _ (kp b o g)
  ·exact ⟨ybd (by rw[length_map,a2.length_eq];omega),out.toList,ep,qes a1,by simpa using ge⟩
noncomputable def ItSg(y:Str):It:=⟨λi _=>i<y.cps.size,λi H x H'=>H'=H/\∃c,y.cps[i]?=some c/\x=.str ⟨#[c]⟩,λi _=>y.cps.size<=i⟩
theorem turn_str{P:Program}{w:World}{K:W.Frag}{tg:Expr}{y:Str}(it:Addr)(t:Tok):Turn P w K tg (ItSg y) [it] it (λi h=>h.IsStrIter it "str_ascii_iterator" y t i) where
 mem:=by simp
 obj:=λi h st b hb=>by
  have e:b=it:=by simpa using hb
  subst e
  obtain ⟨o,e,c,d⟩:=st
  exact ⟨o,e,λv z=>by rw[d]at z;cases z⟩
 keep:=λi h h' st k=>let ⟨o,ho,r⟩:=st;⟨o,k it (by simp) o ho,r⟩
 item:=by
  intro X hP hw hK hc i pins s σ H E I hf st hg
  subst hP hw hK
  obtain ⟨f0,f1,f2,f3,f4,f5⟩:=hf it (by simp)
  have hg':i<y.cps.size:=hg
  refine wpAny_pyNext_ascii_item st (c:=y.cps[i]) (by simp[hg']) λh' st' sb=>?_
  have I1:Inv X pins σ H { s with heap:=h',toks:=s.toks+1 }:=I.turned (t':=s.toks+1) (λb o hb e=>sb.extBut b o hb e) f0 f1 f3 f4 f5
  obtain ⟨o,e,c,d⟩:=id st'
  exact ⟨_,rfl,go_of (s:={ s with heap:=h',toks:=s.toks+1 }) e c d (by decide) ⟨.str ⟨#[y.cps[i]]⟩,H,I1,⟨_,rfl⟩,⟨rfl,_,by simp[hg'],rfl⟩,st',λb hb=>(hf b hb).1⟩⟩
 done:=by
  intro X hP hw hK hc i pins s σ H E I hf st hg
  subst hP hw hK
  obtain ⟨f0,f1,f2,f3,f4,f5⟩:=hf it (by simp)
  have hg':y.cps.size<=i:=hg
  exact wpAny_pyNext_ascii_end (I.ok.hd hc) st (by simp[hg']) λh' eb=>⟨rfl,I.turned (t':=s.toks) (λb o hb e=>eb b o hb e) f0 f1 f3 f4 f5⟩
 self:=λ_ _ _ _ _ st h=>wpAny_pyIter_striter_ascii st h
noncomputable def iStr(tl:TE):TI:=λσ H R=>tl σ H λx H1=>∃y,x=.str y/\y.cps.all (· < 128)=true/\R (ItSg y) H1
theorem pi_str{tg l:Expr}{tl:TE}(hl:PE X l tl):PI X tg l (iStr tl):=by
 intro pins s σ H R I h
 refine thn (hl pins s σ H _ I h) λv s1 ⟨x,H1,I1,r1,q1⟩=>?_
 obtain ⟨y,e,ha,q⟩:=q1
 subst e
 obtain ⟨t,rfl⟩:=r1
 refine wpAny_pyIter_ascii ha ?_
 refine ⟨s1.heap.objs.size,[s1.heap.objs.size],_,_,H1,rfl,I1.kept (t':=s1.toks) λb o e=>get?_push_of_some _ e,turn_str _ t,⟨_,get?_push_size _ rfl,rfl,rfl⟩,λb hb=>?_,q⟩
 have e:b=s1.heap.objs.size:=by simpa using hb
 subst e
 exact I1.fpOk (le_refl _) (I1.hok.fresh (le_refl _))
noncomputable def rInS:R2:=λx y H Q=>∃a b:Str,x=.str a/\y=.str b/\Q (.bl (Txt.contains b a)) H
theorem op_inS:OpR X (compareOp .In) rInS:=by
 intro pins s σ H x y v u Q I rx ry h
 obtain ⟨a,b,rfl,rfl,q⟩:=h
 obtain ⟨t,rfl⟩:=rx
 obtain ⟨t2,rfl⟩:=ry
 exact SB.contains ⟨.bl _,H,I,rfl,q⟩
noncomputable def rMulS:R2:=λx y H Q=>∃(a:Str) (n:Int),x=.str a/\y=.int n/\PySem.MulOk a n/\Q (.str (Txt.mul a n)) H
theorem op_mulS:OpR X (binaryOp .Mult) rMulS:=by
 intro pins s σ H x y v u Q I rx ry h
 obtain ⟨a,n,rfl,rfl,ok,q⟩:=h
 obtain ⟨t,rfl⟩:=rx
 obtain ⟨t2,rfl⟩:=ry
 exact SB.mul ok λt' k=>⟨.str _,H,I.tok _,⟨_,rfl⟩,q⟩
end
end L2
namespace Mw
open PySem L2 PyProof.Rows Mx
noncomputable def top(i:Nat):Stmt:=PySem.Challenge.pw_marchmend_k69_twenty_tests.main.body.getD i (.Pass ⟨0,0,0,0⟩)
noncomputable abbrev Stp:=Bool×Bool
noncomputable abbrev Elm:=Str×List Stp
noncomputable def b2i(b:Bool):Int:=if b then 1 else 0
noncomputable def qdm(w:Bool):Str:=if w then "w" else "r"
noncomputable def yfc(s:Stp):PyData:=.tuple [.str (qdm s.1),.int (b2i s.2)]
noncomputable def qfa(e:Elm):PyData:=.tuple [.str e.1,.list (e.2.map yfc)]
noncomputable def ybo(T:List Elm):PyData:=.list (T.map qfa)
noncomputable def okO(o:Str):Prop:=o="up"\/o="down"\/o="any"
noncomputable def okE(e:Elm):Prop:=okO e.1/\1<=e.2.length/\e.2.length<=6
noncomputable def okT(T:List Elm):Prop:=1<=T.length/\T.length<=8/\∀e∈T,okE e
theorem iteB{b:Bool}{A B:Prop}(hb:b=true)(h:A):if b=true then A else B:=by
 rw[if_pos hb];exact h
theorem iteN{b:Bool}{A B:Prop}(hb:b=false)(h:B):if b=true then A else B:=by
 rw[if_neg (by rw[hb];exact Bool.false_ne_true)];exact h
theorem iteD{c:Prop}[Decidable c]{A B:Prop}(hc:c)(h:A):if decide c=true then A else B:=iteB (decide_eq_true hc) h
theorem qe7(b:Bool):inV (.str (qdm b)) [.str "r",.str "w"]=true:=by cases b<;>decide +kernel
theorem qdt{o:Str}(h:okO o):inV (.str o) [.str "up",.str "down",.str "any"]=true:=by
 rcases h with rfl|rfl|rfl<;>decide +kernel
theorem iteDN{c:Prop}[Decidable c]{A B:Prop}(hc:¬ c)(h:B):if decide c=true then A else B:=iteN (decide_eq_false hc) h
section
variable {P:Program}{w:World}{K:W.Frag}{mg:Str->Option Value}{base:Heap}
noncomputable def ya7:Sp:=λvs H Q _=>∃a xs n,vs=[.ref a,.int n]/\H a=some (.lst xs)/\Q (.bl (decide (0<xs.length/\(xs.length:Int)<=n))) H
noncomputable abbrev qb9:Stmt:=top 24
theorem ycu:FnScope ["thing","most"] ["thing","most"] (yac qb9):=fsc
theorem yeh(B:Bl mg)(F:FnAt K mg "is_filled" qb9 ["thing","most"]):Has P w K mg base 1 "is_filled" ["thing","most"] ya7:=by
 refine Has.ofQ F ycu (λvs H Q E h=>?_) (λ_ _ _ _ _ H vs Q E hr h=>?_)
 ·obtain ⟨a,xs,n,rfl,_⟩:=h
  rfl
 ·obtain ⟨a,xs,n,rfl,ha,k⟩:=h
  have sc:=ycu
  refine ⟨_,qac rfl (yae (yag (qaa (qa2 (qas qbu rfl (B.of rfl) boot_isinstance (yab (pv 0) (yab (qbr (v:=.ty "list") rfl (B.of rfl) boot_list rfl) qag))) (qa2 (yax qfj (qas qav rfl (B.of rfl) boot_len (yab (pv 0) qag)) yad (qak _)) (ybe (yax op_le (qas qav rfl (B.of rfl) boot_len (yab (pv 0) qag)) (pv 1) (qak _)))))))),?_⟩
  refine ⟨_,rfl,_,_,_,_,rfl,.lst ha,rfl,_,rfl,iteT ?_⟩
  refine ⟨_,rfl,a,_,rfl,.inl (sqlO ha),_,_,rfl,rfl,_,rfl,?_⟩
  by_cases h0:0<xs.length
  ·refine iteD (by omega) ?_
   refine ⟨_,rfl,a,_,rfl,.inl (sqlO ha),_,rfl,_,_,rfl,rfl,?_⟩
   have e:decide (0<xs.length/\(xs.length:Int)<=n)=decide ((xs.length:Int)<=n):=by simp[h0]
   rw[e]at k
   exact k
  ·refine iteDN (by omega) ?_
   rw[decide_eq_false (λz=>h0 z.1)]at k
   exact k
end
end Mw
namespace L2
open PySem PySem.Spec PyProof.Rows
section
variable {X:Cx}
noncomputable def rIsiT(K:W.Frag):List V->Hp->VK->Prop:=λvs H Q=>∃a xs c b,vs=[.ref a,.ty c]/\SqT K H a xs/\W.kitOne K (.type "tuple") (.type c)=some b/\Q (.bl b) H
theorem yhf:qca X (.builtin "isinstance") (rIsiT X.K):=by
 intro pins s σ H xs us Q I r h
 obtain ⟨a,ys,c,b,rfl,hq,hk,q⟩:=h
 cases r with
 |cons r rr=>
  cases rr with
  |cons r2 rr=>
   cases rr
   cases r
   cases r2
   obtain ⟨its,_,⟨o,h1,h2,_⟩,_⟩:=I.tuple hq
   exact W.kia_one W.kitx_tuple I.kIn ⟨o,h1,h2⟩ hk (λz=>nomatch z) λtk=>⟨.bl b,H,I.tok _,rfl,q⟩
theorem AtK.tupEq{K:W.Frag}{H:Hp}{v:V}{ds:List PyData}(h:AtK K H v (.tuple ds)):∃a vs,v=.ref a/\SqT K H a vs/\AtKAll K H vs ds:=by
 cases h with
 |tup e t=>exact ⟨_,_,rfl,e,t⟩
theorem AtK.lstEq{K:W.Frag}{H:Hp}{v:V}{ds:List PyData}(h:AtK K H v (.list ds)):∃a vs,v=.ref a/\H a=some (.lst vs)/\AtKAll K H vs ds:=by
 cases h with
 |lst e t=>exact ⟨_,_,rfl,e,t⟩
theorem AtK.strEq{K:W.Frag}{H:Hp}{v:V}{x:Str}(h:AtK K H v (.str x)):v=.str x:=by cases h;rfl
theorem AtK.intEq{K:W.Frag}{H:Hp}{v:V}{x:Int}(h:AtK K H v (.int x)):v=.int x:=by cases h;rfl
theorem AtKAll.length{K:W.Frag}{H:Hp}:∀{vs:List V}{ds:List PyData},AtKAll K H vs ds->vs.length=ds.length
 |_,_,.nil=>rfl
 |_,_,.cons _ r=>by simp[AtKAll.length r]
theorem AtKAll.get{K:W.Frag}{H:Hp}:∀{vs:List V}{ds:List PyData}{i:Nat}{v:V},AtKAll K H vs ds->vs[i]?=some v->∃d,ds[i]?=some d/\AtK K H v d
 |_,_,0,_,.cons a _,h=>by cases h;exact ⟨_,rfl,a⟩
 |_,_,i+1,_,.cons _ r,h=>by simpa using AtKAll.get r (by simpa using h)
 |_,_,_,_,.nil,h=>by simp at h
noncomputable def LT(H H':Hp):Prop:=(∀a xs,H a=some (.lst xs)->H' a=some (.lst xs))/\∀a xs,Rd H a (.tup xs)->Rd H' a (.tup xs)
theorem LT.of{H H':Hp}(s:Same H H'):LT H H':=⟨λa xs e=>s _ _ e,λa xs e=>e.elim (λz=>.inl (s _ _ z)) λ⟨o,z⟩=>.inr ⟨o,s _ _ z⟩⟩
mutual
theorem AtK.lt{K:W.Frag}{H H':Hp}(s:LT H H'):∀{v:V}{d:PyData},AtK K H v d->AtK K H' v d
 |_,_,.non=>.non
 |_,_,.bl b=>.bl b
 |_,_,.int i=>.int i
 |_,_,.str x=>.str x
 |_,_,.lst e t=>.lst (s.1 _ _ e) (AtKAll.lt s t)
 |_,_,.tup e t=>.tup (e.elim (λz=>.inl (s.2 _ _ z)) .inr) (AtKAll.lt s t)
theorem AtKAll.lt{K:W.Frag}{H H':Hp}(s:LT H H'):∀{vs:List V}{ds:List PyData},AtKAll K H vs ds->AtKAll K H' vs ds
 |_,_,.nil=>.nil
 |_,_,.cons a b=>.cons (AtK.lt s a) (AtKAll.lt s b)
end
end
end L2
namespace Mw
open PySem L2 PyProof.Rows Mx
theorem stepK{K:W.Frag}{H:Hp}{v:V}{s:Stp}(h:AtK K H v (yfc s)):∃a,v=.ref a/\SqT K H a [.str (qdm s.1),.int (b2i s.2)]:=by
 obtain ⟨a,vs,rfl,h1,h2⟩:=h.tupEq
 cases h2 with
 |cons x r=>
  cases r with
  |cons y r=>
   cases r
   rw[x.strEq,y.intEq]at h1
   exact ⟨a,rfl,h1⟩
theorem elemK{K:W.Frag}{H:Hp}{v:V}{e:Elm}(h:AtK K H v (qfa e)):∃a l ws,v=.ref a/\SqT K H a [.str e.1,.ref l]/\H l=some (.lst ws)/\AtKAll K H ws (e.2.map yfc):=by
 obtain ⟨a,vs,rfl,h1,h2⟩:=h.tupEq
 cases h2 with
 |cons x r=>
  cases r with
  |cons y r=>
   cases r
   obtain ⟨l,ws,rfl,h3,h4⟩:=y.lstEq
   rw[x.strEq]at h1
   exact ⟨a,l,ws,rfl,h1,h3,h4⟩
section
variable {P:Program}{w:World}{K:W.Frag}{mg:Str->Option Value}{base:Heap}
noncomputable def ydk:Sp:=λvs H Q _=>∃i,vs=[.int i]/\Q (.bl true) H
noncomputable abbrev ycn:Stmt:=top 20
theorem qc7:FnScope ["thing"] ["thing"] (yac ycn):=fsc
theorem qe0(B:Bl mg)(F:FnAt K mg "is_whole" ycn ["thing"]):Has P w K mg base 1 "is_whole" ["thing"] ydk:=by
 refine Has.ofQ F qc7 (λvs H Q E h=>?_) (λ_ _ _ _ _ H vs Q E hr h=>?_)
 ·obtain ⟨i,rfl,_⟩:=h
  rfl
 ·obtain ⟨i,rfl,k⟩:=h
  have sc:=qc7
  refine ⟨_,qac rfl (yae (yag (qaa (qa2 (qas qbu rfl (B.of rfl) boot_isinstance (yab (pv 0) (yab (qbr (v:=.ty "int") rfl (B.of rfl) boot_int rfl) qag))) (ybe (pe_not (qas qbu rfl (B.of rfl) boot_isinstance (yab (pv 0) (yab (qbr (v:=.ty "bool") rfl (B.of rfl) boot_bool rfl) qag))))))))),?_⟩
  refine ⟨_,rfl,_,_,_,_,rfl,.int i,rfl,_,rfl,iteT ?_⟩
  refine ⟨_,rfl,_,_,_,_,rfl,.int i,rfl,_,rfl,?_⟩
  exact k
noncomputable def yeg:Sp:=λvs H Q _=>∃b,vs=[.int (b2i b)]/\∀H',Same H H'->Q (.bl true) H'
noncomputable abbrev qd9:Stmt:=top 21
theorem yet:FnScope ["thing"] ["thing"] (yac qd9):=fsc
theorem qg3(qf3:Has P w K mg base 1 "is_whole" ["thing"] ydk)(F:FnAt K mg "is_bit" qd9 ["thing"]):Has P w K mg base 2 "is_bit" ["thing"] yeg:=by
 refine Has.ofQ F yet (λvs H Q E h=>?_) (λ_ _ _ _ _ H vs Q E hr h=>?_)
 ·obtain ⟨i,rfl,_⟩:=h
  rfl
 ·obtain ⟨b,rfl,k⟩:=h
  have sc:=yet
  refine ⟨_,qac rfl (yae (yag (qaa (qa2 (qaw qf3 hr (yab (pv 0) qag)) (ybe (yax yck (pv 0) (qct (yab yad (yab yad qag))) (by with_unfolding_all rfl))))))),?_⟩
  refine ⟨_,rfl,_,rfl,_,rfl,iteT ?_⟩
  refine ⟨_,rfl,zl,λp hp=>⟨p,_,rfl,.inr (sqtO yaa),rfl,rfl,?_⟩⟩
  cases b<;>exact k _ (Same.upd (smR _) hp)
noncomputable def ybq(K:W.Frag):Sp:=λvs H Q _=>∃x a xs,vs=[.str x,.ref a]/\(∀H',SqT K H' a xs)/\xs.all qd4=true/\Q (.bl (inV (.str x) xs)) H
noncomputable abbrev yb4:Stmt:=top 22
theorem ycv:FnScope ["thing","words"] ["thing","words"] (yac yb4):=fsc
theorem yel(B:Bl mg)(F:FnAt K mg "is_one_of" yb4 ["thing","words"]):Has P w K mg base 1 "is_one_of" ["thing","words"] (ybq K):=by
 refine Has.ofQ F ycv (λvs H Q E h=>?_) (λ_ _ _ _ _ H vs Q E hr h=>?_)
 ·obtain ⟨x,a,xs,rfl,_⟩:=h
  rfl
 ·obtain ⟨x,a,xs,rfl,hq,hf,k⟩:=h
  have sc:=ycv
  refine ⟨_,qac rfl (yae (yag (qaa (qa2 (qas qbu rfl (B.of rfl) boot_isinstance (yab (pv 0) (yab (qbr (v:=.ty "str") rfl (B.of rfl) boot_str rfl) qag))) (ybe (yax yck (pv 0) (pv 1) (by with_unfolding_all rfl))))))),?_⟩
  refine ⟨_,rfl,_,_,_,_,rfl,.str x,rfl,_,rfl,iteT ?_⟩
  exact ⟨_,rfl,_,rfl,a,xs,rfl,.inr (hq _),rfl,hf,k⟩
noncomputable def ycs(K:W.Frag):Sp:=λvs H Q _=>∃a u v,vs=[.ref a]/\SqT K H a [u,v]/\Q (.bl true) H
noncomputable abbrev yde:Stmt:=top 23
theorem ydr:FnScope ["thing"] ["thing"] (yac yde):=fsc
theorem qfz(B:Bl mg)(F:FnAt K mg "is_pair" yde ["thing"]):Has P w K mg base 1 "is_pair" ["thing"] (ycs K):=by
 refine Has.ofQ F ydr (λvs H Q E h=>?_) (λ_ _ _ _ _ H vs Q E hr h=>?_)
 ·obtain ⟨a,u,v,rfl,_⟩:=h
  rfl
 ·obtain ⟨a,u,v,rfl,ha,k⟩:=h
  have sc:=ydr
  refine ⟨_,qac rfl (yae (yag (qaa (qa2 (qas yhf rfl (B.of rfl) boot_isinstance (yab (pv 0) (yab (qbr (v:=.ty "tuple") rfl (B.of rfl) boot_tuple rfl) qag))) (ybe (yax yc1 (qas qav rfl (B.of rfl) boot_len (yab (pv 0) qag)) yad (qak _))))))),?_⟩
  refine ⟨_,rfl,a,_,_,_,rfl,ha,rfl,_,rfl,iteT ?_⟩
  exact ⟨_,rfl,a,_,rfl,.inr ha,rfl,k⟩
noncomputable def qdw(K:W.Frag):Sp:=λvs H Q _=>∃v s,vs=[v]/\AtK K H v (yfc s)/\∀H',Same H H'->Q (.bl true) H'
noncomputable abbrev qdj:Stmt:=top 25
theorem ydq:FnScope ["thing"] ["thing"] (yac qdj):=fsc
theorem yf0(ycr:GTup K mg "LETTERS_marches" [.str "r",.str "w"])(qdn:Has P w K mg base 1 "is_pair" ["thing"] (ycs K))(qb7:Has P w K mg base 1 "is_one_of" ["thing","words"] (ybq K))
  (h_is_bit:Has P w K mg base 2 "is_bit" ["thing"] yeg) (F:FnAt K mg "is_step" qdj ["thing"]):Has P w K mg base 3 "is_step" ["thing"] (qdw K):=by
 refine Has.ofQ F ydq (λvs H Q E h=>?_) (λ_ _ _ _ _ H vs Q E hr h=>?_)
 ·obtain ⟨v,s,rfl,_⟩:=h
  rfl
 ·obtain ⟨v,⟨sw,sb⟩,rfl,hv,k⟩:=h
  obtain ⟨a,rfl,ha⟩:=stepK hv
  have sc:=ydq
  refine ⟨_,qac rfl (yae (yag (qaa (qa2 (qaw qdn hr (yab (pv 0) qag)) (qa2 (qaw qb7 hr (yab (ycd ycl (pv 0) yad) (yab (qd6 ycr) qag))) (ybe (qaw h_is_bit hr (yab (ycd ycl (pv 0) yad) qag)))))))),?_⟩
  refine ⟨_,rfl,a,_,_,rfl,ha,_,rfl,iteT ?_⟩
  refine ⟨_,rfl,a,_,_,_,rfl,rfl,ha,rfl,λaL hL=>⟨qdm sw,aL,_,rfl,hL,rfl,_,rfl,iteB (qe7 sw) ?_⟩⟩
  exact ⟨_,rfl,a,_,_,_,rfl,rfl,ha,rfl,sb,rfl,k⟩
noncomputable def qcy(K:W.Frag):Sp:=λvs H Q _=>∃v e,vs=[v]/\AtK K H v (qfa e)/\okE e/\Q (.bl true) H
noncomputable abbrev yb5:Stmt:=top 26
theorem qc1:FnScope ["thing"] ["thing"] (yac yb5):=fsc
theorem qej(qbx:GTup K mg "ORDERS" [.str "up",.str "down",.str "any"])(yaz:∃t,mg "MOST_IN_ELEMENT"=some (.int 6 t))(qdn:Has P w K mg base 1 "is_pair" ["thing"] (ycs K))
  (qb7:Has P w K mg base 1 "is_one_of" ["thing","words"] (ybq K)) (ya3:Has P w K mg base 1 "is_filled" ["thing","most"] ya7) (F:FnAt K mg "is_framed" yb5 ["thing"]):Has P w K mg base 2 "is_framed" ["thing"] (qcy K):=by
 refine Has.ofQ F qc1 (λvs H Q E h=>?_) (λ_ _ _ _ _ H vs Q E hr h=>?_)
 ·obtain ⟨v,s,rfl,_⟩:=h
  rfl
 ·obtain ⟨v,e,rfl,hv,⟨h1,h2,h3⟩,k⟩:=h
  obtain ⟨a,l,ws,rfl,ha,hl,hw⟩:=elemK hv
  have hlen:=hw.length
  rw[length_map]at hlen
  have sc:=qc1
  refine ⟨_,qac rfl (yae (yag (qaa (qa2 (qaw qdn hr (yab (pv 0) qag)) (qa2 (qaw qb7 hr (yab (ycd ycl (pv 0) yad) (yab (qd6 qbx) qag))) (ybe (qaw ya3 hr (yab (ycd ycl (pv 0) yad) (yab (qb4 yaz) qag))))))))),?_⟩
  refine ⟨_,rfl,a,_,_,rfl,ha,_,rfl,iteT ?_⟩
  refine ⟨_,rfl,a,_,_,_,rfl,rfl,ha,rfl,λaL hL=>⟨e.1,aL,_,rfl,hL,rfl,_,rfl,iteB (qdt h1) ?_⟩⟩
  refine ⟨_,rfl,a,_,_,_,rfl,rfl,ha,rfl,l,ws,6,rfl,hl,?_⟩
  rw[decide_eq_true (show 0<ws.length/\(ws.length:Int)<=6 by omega)]
  exact k
noncomputable def qa7(K:W.Frag):Sp:=λvs H Q _=>∃n v e,vs=[.int n,v]/\AtK K H v (qfa e)/\okE e/\∀H',Same H H'->Q .non H'
noncomputable abbrev qay:Stmt:=top 27
theorem qa8:FnScope ["number","thing","place","step"] ["number","thing"] (yac qay):=fsc
theorem ycj(B:Bl mg)(yfi:Has P w K mg base 2 "is_framed" ["thing"] (qcy K))(yg2:Has P w K mg base 3 "is_step" ["thing"] (qdw K))(F:FnAt K mg "look_at_element" qay ["number","thing"]) :
  Has P w K mg base 4 "look_at_element" ["number","thing"] (qa7 K):=by
 refine Has.ofQ F qa8 (λvs H Q E h=>?_) (λ_ _ _ _ _ H vs Q E hr h=>?_)
 ·obtain ⟨n,v,s,rfl,_⟩:=h
  rfl
 ·obtain ⟨n,v,e,rfl,hv,he,k⟩:=h
  obtain ⟨a,l,ws,rfl,ha,hl,hw⟩:=elemK hv
  have sc:=qa8
  refine ⟨_,qac rfl (qab (qao (qcz (ybb (yaf yfi hr (yah (qaa (pv 1)) qad))))
    (yae (qby yci))
    yaj)
   (yae (qb0 PassesOwn.never rfl (yec (qda rfl (B.of rfl) (yab (ycd ycl (pv 1) yad) qag))) (qds rfl (qau (pgn 2 sc.nd) (qau (pgn 3 sc.nd) yb7)))
    (yae (qao (qcz (ybb (yaf yg2 hr (yah (qaa (pv 3)) qad))))
     (yae (qby yci))
     yaj))))),?_⟩
  refine ⟨_,rfl,_,e,rfl,hv,he,true,rfl,iteF ?_⟩
  refine ⟨_,rfl,a,_,_,_,rfl,rfl,ha,rfl,l,ws,rfl,sqlO hl,qcg (xs:=ws) (λi σ H2=>∃p q,σ=[some (.int n),some (.ref a),p,q]/\Same H H2) ⟨none,none,rfl,smR _⟩
   (λi σ H2 _ ⟨_,_,_,s2⟩=>sqlO (s2 _ _ hl)) ?_ (λσ H2 ⟨_,_,_,s2⟩=>k H2 s2)⟩
  rintro i x p σ H2 hx ⟨_,_,rfl,s2⟩ hp
  obtain ⟨d,hd,hat⟩:=hw.get hx
  rw[getElem?_map]at hd
  cases es:e.2[i]? with
  |none=>rw[es]at hd;cases hd
  |some st=>
   rw[es]at hd
   cases hd
   have s3:Same H (upd H2 p (.tup [.int i,x])):=s2.upd hp
   refine ⟨p,_,rfl,sqtO yaa,rfl,_,_,rfl,_,_,rfl,rfl,?_⟩
   refine ⟨_,rfl,x,st,rfl,hat.same s3,λH3 s4=>⟨true,rfl,iteF ⟨_,_,rfl,s3.trans s4⟩⟩⟩
noncomputable def ybp(K:W.Frag):Sp:=λvs H Q _=>∃v T,vs=[v]/\AtK K H v (ybo T)/\okT T/\∀H',Same H H'->Q .non H'
noncomputable abbrev ybc:Stmt:=top 28
theorem ybn:FnScope ["thing","number","element"] ["thing"] (yac ybc):=fsc
theorem yc7(B:Bl mg)(qbb:∃t,mg "MOST_IN_TEST"=some (.int 8 t))(ya3:Has P w K mg base 1 "is_filled" ["thing","most"] ya7)(qcp:Has P w K mg base 4 "look_at_element" ["number","thing"] (qa7 K))
  (F:FnAt K mg "look_at_test" ybc ["thing"]):Has P w K mg base 5 "look_at_test" ["thing"] (ybp K):=by
 refine Has.ofQ F ybn (λvs H Q E h=>?_) (λ_ _ _ _ _ H vs Q E hr h=>?_)
 ·obtain ⟨v,s,rfl,_⟩:=h
  rfl
 ·obtain ⟨v,T,rfl,hv,⟨h1,h2,h3⟩,k⟩:=h
  obtain ⟨l,ws,rfl,hl,hw⟩:=hv.lstEq
  have hlen:=hw.length
  rw[length_map]at hlen
  have sc:=ybn
  refine ⟨_,qac rfl (qab (qao (qcz (ybb (yaf ya3 hr (yah (qaa (pv 0)) (yah (qaa (qb4 qbb)) qad)))))
    (yae (qby yci))
    yaj)
   (yae (qb0 PassesOwn.never rfl (yec (qda rfl (B.of rfl) (yab (pv 0) qag))) (qds rfl (qau (pgn 1 sc.nd) (qau (pgn 2 sc.nd) yb7)))
    (yae (yav (yaf qcp hr (yah (qaa (pv 1)) (yah (qaa (pv 2)) qad)))))))),?_⟩
  refine ⟨_,rfl,l,ws,8,rfl,hl,_,rfl,?_⟩
  rw[decide_eq_true (show 0<ws.length/\(ws.length:Int)<=8 by omega)]
  refine iteF ?_
  refine ⟨_,rfl,l,ws,rfl,sqlO hl,qcg (xs:=ws) (λi σ H2=>∃p q,σ=[some (.ref l),p,q]/\Same H H2) ⟨none,none,rfl,smR _⟩
   (λi σ H2 _ ⟨_,_,_,s2⟩=>sqlO (s2 _ _ hl)) ?_ (λσ H2 ⟨_,_,_,s2⟩=>k H2 s2)⟩
  rintro i x p σ H2 hx ⟨_,_,rfl,s2⟩ hp
  obtain ⟨d,hd,hat⟩:=hw.get hx
  rw[getElem?_map]at hd
  cases es:T[i]? with
  |none=>rw[es]at hd;cases hd
  |some e=>
   rw[es]at hd
   cases hd
   have s3:Same H (upd H2 p (.tup [.int i,x])):=s2.upd hp
   refine ⟨p,_,rfl,sqtO yaa,rfl,_,_,rfl,_,_,rfl,rfl,?_⟩
   exact ⟨_,rfl,_,rfl,_,x,e,rfl,hat.same s3,h3 e (mem_of_getElem? es),λH3 s4=>⟨_,_,rfl,s3.trans s4⟩⟩
end
end Mw
namespace Mw
open PySem L2 PyProof.Rows Mx
noncomputable def kv:Option Bool->V
 |none=>.non
 |some b=>.int (b2i b)
theorem qbh{α β:Type}{f:α->β}{l:List α}{i:Nat}{d:β}(h:(l.map f)[i]?=some d):∃x,l[i]?=some x/\d=f x:=by
 rw[getElem?_map]at h
 cases e:l[i]? with
 |none=>rw[e]at h;cases h
 |some x=>rw[e]at h;exact ⟨x,rfl,(Option.some.inj h).symm⟩
noncomputable def Dig(ds zs:List Int):Prop:=ds.length=zs.length/\∀(i:Nat) d z,ds[i]?=some d->zs[i]?=some z->0<=d/\d<z
theorem Dig.get{ds zs:List Int}(h:Dig ds zs){i:Nat}{z:Int}(hz:zs[i]?=some z):∃d,ds[i]?=some d/\0<=d/\d<z:=by
 have hi:i<ds.length:=by rw[h.1];exact (List.getElem?_eq_some_iff.mp hz).1
 exact ⟨ds[i],by simp[hi],h.2 i _ z (by simp[hi]) hz⟩
theorem ye0{ds:List Int}{i:Nat}{v:V}(h:(ds.map V.int)[i]?=some v):∃d,ds[i]?=some d/\v=.int d:=qbh h
theorem ybk{ds:List Int}{i:Nat}{d:Int}(h:ds[i]?=some d):(ds.map V.int)[i]?=some (.int d):=by rw[getElem?_map,h];rfl
section
variable {P:Program}{w:World}{K:W.Frag}{mg:Str->Option Value}{base:Heap}
noncomputable def qc8:Sp:=λvs H Q _=>∃c t a zs,vs=[.int c,.int t,.ref a]/\H a=some (.lst (zs.map V.int))/\zs.length<=64/\(∀z∈zs,0<z/\z<=1000)/\0<=t/\t<=1000000/\
 ∀p ds H',Same H H'->H p=none->H' p=some (.lst (ds.map V.int))->Dig ds zs->Q (.ref p) H'
noncomputable abbrev ybg:Stmt:=top 148
theorem qb3:FnScope ["_law_cell","_law_turn","_law_sizes","_law_number","_law_wide","_law_seed","_law_found","_law_k","_law_size"] ["_law_cell","_law_turn","_law_sizes"] (yac ybg):=fsc
theorem ygl(B:Bl mg)(F:FnAt K mg "_law_digits" ybg ["_law_cell","_law_turn","_law_sizes"]):Has P w K mg base 1 "_law_digits" ["_law_cell","_law_turn","_law_sizes"] qc8:=by
 refine Has.ofQ F qb3 (λvs H Q E h=>?_) (λ_ _ _ _ _ H vs Q E hr h=>?_)
 ·obtain ⟨c,t,a,zs,rfl,_⟩:=h
  rfl
 ·obtain ⟨c,t,a,zs,rfl,ha,hl,hz,ht0,ht1,k⟩:=h
  have sc:=qb3
  refine cutA [4] ⟨_,qac rfl (qab (qb0 PassesOwn.never rfl (yec (qda rfl (B.of rfl) (yab (pv 2) qag))) (qds rfl (qau (pgn 7 sc.nd) (qau (pgn 8 sc.nd) yb7)))
    (yae (qao (QW.pt (qet (ygk (qaa (pv 4))) (ydz (qan qfj (qaa (pv 3)) (qaa yad) (qak _)))))
     (qab (yav (qaa (ybj PySem.F.plainAttrs_list PySem.F.slot_list_append PySem.F.type_list_append qa1 (pv 6) (yab (qbd qa5 (pv 3) (pv 8)) qag))))
     (yae (qsE 3 sc.nd (qam ycc (qaa (pv 3)) (qaa (pv 8))))))
     (qab (qsE 5 sc.nd (qam qa5 (qam op_pow (qam qbe (qaa (pv 5)) (qam qdk (qaa yad) (qam qbe (qaa (pv 7)) (qaa yad)))) (qaa yad)) (qaa yad)))
     (yae (yav (qaa (ybj PySem.F.plainAttrs_list PySem.F.slot_list_append PySem.F.type_list_append qa1 (pv 6) (yab (qbd qa5 (qbd ycc (pv 5) yad) (pv 8)) qag))))))))) (yae (yag (qaa (pv 6)))))⟩ ?_
  intro c1
  refine cutA [2] ⟨_,qac rfl (qab (qsE 5 sc.nd (qam qbe (qam qa5 (qaa (pv 3)) (qaa yad)) (qam qdk (qaa yad) (qaa (pv 1))))) (qab (qsE 6 sc.nd (yaw qad)) c1.2))⟩ ?_
  intro c2
  refine ⟨_,qac rfl (qab (qsE 3 sc.nd (qai call_abs rfl (B.of rfl) boot_abs (yah (qaa (pv 0)) qad))) (qab (qsE 4 sc.nd (qeb op_ge (qaa (pv 3)) (qam op_pow (qaa yad) (qaa yad)) (qak _))) c2.2)),?_⟩
  refine ⟨_,rfl,c,rfl,?_⟩
  refine ⟨_,rfl,10,18,rfl,rfl,⟨by decide,by decide,by decide⟩,_,_,rfl,rfl,?_⟩
  refine ⟨_,rfl,_,_,rfl,rfl,(by show (0:Int)<2147483647;decide),_,rfl,_,_,rfl,rfl,.inl ⟨by decide,by decide⟩,_,_,rfl,rfl,?_⟩
  refine ⟨zero_le _,λp hp=>?_⟩
  generalize hnum:(if c<0 then -c else c)=num
  generalize hwd:decide ((10:Int) ^ (18:Int).toNat<=num)=wd
  have hs0:0<=num % 2147483647+7919*t:=by have:=emod_nonneg num (show (2147483647:Int)≠0 by decide);omega
  have hs1:num % 2147483647+7919*t<2 ^ 40:=by have:=emod_lt_of_pos num (show (0:Int)<2147483647 by decide);omega
  refine ⟨_,rfl,a,_,rfl,sqlO (by rw[qaf (qae ha hp)];exact ha),qcg (xs:=zs.map V.int) (λi σ H2=>∃(nu seed:Int) (ds:List Int) (q1 q2:Option V),σ=[some (.int c),some (.int t),some (.ref a),some (.int nu),some (.bl wd),some (.int seed),some (.ref p),q1,q2]/\
   Same H H2/\H2 p=some (.lst (ds.map V.int))/\ds.length=i/\(∀(j:Nat) d z,ds[j]?=some d->zs[j]?=some z->0<=d/\d<z)/\0<=seed/\seed<2 ^ 40) ?_ (λi σ H2 _ ⟨_,_,_,_,_,_,s2,_⟩=>sqlO (s2 _ _ ha)) ?_ ?_⟩
  ·exact ⟨num,_,[],none,none,by rw[<-hwd];rfl,(smR H).upd hp,yaa,rfl,λj d z h=>by simp at h,hs0,hs1⟩
  ·rintro i x pp σ H2 hx ⟨nu,seed,ds,q1,q2,rfl,s2,hp2,hln,hds,hse0,hse1⟩ hpp
   obtain ⟨z,hzi,rfl⟩:=ye0 hx
   obtain ⟨hz0,hz1⟩:=hz z (mem_of_getElem? hzi)
   have hil:i<zs.length:=(List.getElem?_eq_some_iff.mp hzi).1
   have s3:Same H (upd H2 pp (.tup [.int i,.int z])):=s2.upd hpp
   have hp3:upd H2 pp (.tup [.int i,.int z]) p=some (.lst (ds.map V.int)):=by rw[qaf (qae hp2 hpp)];exact hp2
   have fin:∀(d:Int),0<=d->d<z->∀(j:Nat) d' z',(ds++[d])[j]?=some d'->zs[j]?=some z'->0<=d'/\d' < z':=λd h0 h1 j d' z' hj hj2=>by
    by_cases hlt:j<ds.length
    ·rw[List.getElem?_append_left hlt]at hj
     exact hds j d' z' hj hj2
    ·rw[List.getElem?_append_right (by omega)]at hj
     have hj0:j-ds.length=0:=by
      cases q:j-ds.length with
      |zero=>rfl
      |succ n=>rw[q]at hj;simp at hj
     rw[hj0]at hj
     have e1:d=d':=by simpa using hj
     have e2:j=i:=by omega
     subst e1 e2
     rw[hzi]at hj2;cases hj2
     exact ⟨h0,h1⟩
   refine ⟨pp,_,rfl,sqtO yaa,rfl,_,_,rfl,_,_,rfl,rfl,?_⟩
   refine ⟨_,rfl,wd,rfl,?_⟩
   cases wd with
   |true=>
    refine iteT ⟨_,rfl,_,_,rfl,rfl,_,rfl,?_⟩
    by_cases hn:0<nu
    ·refine iteD hn ?_
     refine ⟨_,rfl,.inl ⟨rfl,_,sqlO hp3⟩,_,rfl,_,rfl,_,_,rfl,rfl,hz0,p,_,_,rfl,rfl,hp3,qcm (by rw[length_map];omega),?_⟩
     refine ⟨_,rfl,_,rfl,_,_,rfl,rfl,⟨hz0,by omega⟩,?_⟩
     exact ⟨_,seed,ds++[nu % z],_,_,rfl,s3.at hp,by rw[map_append];exact yaa,by simp[hln],fin _ (emod_nonneg _ (by omega)) (emod_lt_of_pos _ hz0),hse0,hse1⟩
    ·refine iteN (decide_eq_false hn) ?_
     refine ⟨_,rfl,_,rfl,_,_,rfl,rfl,_,_,rfl,rfl,.inl ⟨by decide,by decide⟩,_,_,rfl,rfl,_,_,rfl,rfl,⟨by decide,by decide,by omega⟩,_,_,rfl,rfl,(by show (0:Int)<2147483587;decide),?_⟩
     have g0:=emod_nonneg ((seed+104729*((i:Int)+1)) ^ (2:Int).toNat) (show (2147483587:Int)≠0 by decide)
     have g1:=emod_lt_of_pos ((seed+104729*((i:Int)+1)) ^ (2:Int).toNat) (show (0:Int)<2147483587 by decide)
     generalize hse':(seed+104729*((i:Int)+1)) ^ (2:Int).toNat % 2147483587=seed' at g0 g1
     refine ⟨_,rfl,.inl ⟨rfl,_,sqlO hp3⟩,_,rfl,_,_,rfl,rfl,⟨by decide,by decide⟩,_,rfl,_,_,rfl,rfl,hz0,p,_,_,rfl,rfl,hp3,qcm (by rw[length_map];omega),?_⟩
     exact ⟨nu,seed',ds++[seed' / 16 % z],_,_,by rw[<-hse'];rfl,s3.at hp,by rw[map_append,<-hse'];exact yaa,by simp[hln],fin _ (emod_nonneg _ (by omega)) (emod_lt_of_pos _ hz0),g0,by omega⟩
   |false=>
    refine iteF (iteF ?_)
    refine ⟨_,rfl,_,rfl,_,_,rfl,rfl,_,_,rfl,rfl,.inl ⟨by decide,by decide⟩,_,_,rfl,rfl,_,_,rfl,rfl,⟨by decide,by decide,by omega⟩,_,_,rfl,rfl,(by show (0:Int)<2147483587;decide),?_⟩
    have g0:=emod_nonneg ((seed+104729*((i:Int)+1)) ^ (2:Int).toNat) (show (2147483587:Int)≠0 by decide)
    have g1:=emod_lt_of_pos ((seed+104729*((i:Int)+1)) ^ (2:Int).toNat) (show (0:Int)<2147483587 by decide)
    generalize hse':(seed+104729*((i:Int)+1)) ^ (2:Int).toNat % 2147483587=seed' at g0 g1
    refine ⟨_,rfl,.inl ⟨rfl,_,sqlO hp3⟩,_,rfl,_,_,rfl,rfl,⟨by decide,by decide⟩,_,rfl,_,_,rfl,rfl,hz0,p,_,_,rfl,rfl,hp3,qcm (by rw[length_map];omega),?_⟩
    exact ⟨nu,seed',ds++[seed' / 16 % z],_,_,by rw[<-hse'];rfl,s3.at hp,by rw[map_append,<-hse'];exact yaa,by simp[hln],fin _ (emod_nonneg _ (by omega)) (emod_lt_of_pos _ hz0),g0,by omega⟩
  ·rintro σ H2 ⟨nu,seed,ds,q1,q2,rfl,s2,hp2,hln,hds,_,_⟩
   rw[length_map]at hln
   exact ⟨_,rfl,k p ds H2 s2 hp hp2 ⟨hln,hds⟩⟩
end
theorem qea(n:Int):n % 2=b2i (decide (n % 2=1)):=by
 by_cases h:n % 2=1
 ·simp[b2i,h]
 ·have h0:=emod_nonneg n (show (2:Int)≠0 by decide)
  have h1:=emod_lt_of_pos n (show (0:Int)<2 by decide)
  simp only[b2i,h,decide_false]
  show n % 2=0
  omega
theorem order_of{d:Int}(h0:0<=d)(h1:d<3):∃o,okO o/\atI [V.str "up",.str "down",.str "any"] d=some (.str o):=by
 have h:d=0\/d=1\/d=2:=by omega
 rcases h with rfl|rfl|rfl
 ·exact ⟨_,.inl rfl,rfl⟩
 ·exact ⟨_,.inr (.inl rfl),rfl⟩
 ·exact ⟨_,.inr (.inr rfl),rfl⟩
end Mw
namespace Mw
open PySem L2 PyProof.Rows Mx
noncomputable def chB(b:Bool):Str:=if b then "1" else "0"
noncomputable def stxt(s:Stp):Str:=qdm s.1++chB s.2
noncomputable def etxt(e:Elm):Str:=Str.join " " (e.1::e.2.map stxt)
noncomputable def ttxt(T:List Elm):Str:=Str.join "; " (T.map etxt)
theorem yef(y:Str)(c:Nat)(hy:c∉y.cps.toList):∀(ps:List Str),(∀p∈ps,c∉p.cps.toList)->c∉(Str.join y ps).cps.toList
 |[],_=>by show c∉(Str.empty).cps.toList;simp[Str.empty]
 |[p],h=>h p (mem_singleton.mpr rfl)
 |p::q::r,h=>by
  rw[qd5]
  intro hm
  rcases mem_append.mp hm with hm|hm
  ·exact h p (mem_cons_self ..) hm
  ·rcases mem_append.mp hm with hm|hm
   ·exact hy hm
   ·exact yef y c hy (q::r) (λz hz=>h z (mem_cons_of_mem _ hz)) hm
theorem yc3(y:Str){B:Nat}:∀(ps:List Str),(∀p∈ps,p.length<=B)->(Str.join y ps).length<=ps.length*(B+y.length)
 |[],_=>by show (Str.empty).length<=_;simp[Str.empty,Str.length]
 |[p],h=>by have:=h p (mem_singleton.mpr rfl);show p.length<=1*_;omega
 |p::q::r,h=>by
  have ih:=yc3 y (q::r) (λz hz=>h z (mem_cons_of_mem _ hz))
  have h1:=h p (mem_cons_self ..)
  show (p++y++Str.join y (q::r)).length<=_
  rw[Str.length_append,Str.length_append]
  have e:(p::q::r).length=(q::r).length+1:=rfl
  rw[e,Nat.add_mul]
  omega
theorem ycm{B:Nat}:∀(ps:List Str),(∀p∈ps,p.length<=B)->(ps.map (·.length)).sum<=ps.length*B
 |[],_=>by simp
 |p::r,h=>by
  have ih:=ycm r (λz hz=>h z (mem_cons_of_mem _ hz))
  have h1:=h p (mem_cons_self ..)
  simp only[map_cons,List.sum_cons,length_cons,Nat.add_mul]
  omega
theorem stxt_is:∀s:Stp,32∉(stxt s).cps.toList/\59∉(stxt s).cps.toList/\(stxt s).length<=2:=by
 rintro ⟨w,b⟩
 cases w<;>cases b<;>exact ⟨by decide +kernel,by decide +kernel,by decide +kernel⟩
theorem order_is{o:Str}(h:okO o):32∉o.cps.toList/\59∉o.cps.toList/\o.length<=4:=by
 rcases h with rfl|rfl|rfl<;>exact ⟨by decide +kernel,by decide +kernel,by decide +kernel⟩
theorem qcl{e:Elm}(h:okE e):∀p∈e.1::e.2.map stxt,32∉p.cps.toList/\59∉p.cps.toList/\p.length<=4:=by
 intro p hp
 rcases mem_cons.mp hp with rfl|hp
 ·exact order_is h.1
 ·obtain ⟨s,_,rfl⟩:=mem_map.mp hp
  obtain ⟨h1,h2,h3⟩:=stxt_is s
  exact ⟨h1,h2,by omega⟩
theorem qdz{e:Elm}(h:okE e):59∉(etxt e).cps.toList/\(etxt e).length<=35:=by
 refine ⟨yef _ _ (by decide +kernel) _ λp hp=>(qcl h p hp).2.1,?_⟩
 have:=yc3 " " (B:=4) _ λp hp=>(qcl h p hp).2.2
 have h2:=h.2.2
 have e1:(" " : Str).length=1:=by decide +kernel
 rw[e1]at this
 simp only[length_cons,length_map]at this
 show (Str.join " " _).length<=35
 omega
theorem qfu{T:List Elm}(h:okT T):(ttxt T).length<=296:=by
 have:=yc3 "; " (B:=35) (T.map etxt) λp hp=>by
  obtain ⟨e,he,rfl⟩:=mem_map.mp hp
  exact (qdz (h.2.2 e he)).2
 have e1:("; " : Str).length=2:=by decide +kernel
 have h2:=h.2.1
 rw[e1,length_map]at this
 show (Str.join "; " _).length<=296
 omega
theorem qf0{e:Elm}(h:okE e):Txt.split (etxt e) " "=e.1::e.2.map stxt:=
 ybv " " 32 [] (by decide +kernel) (by decide +kernel) _ (by simp) λp hp=>(qcl h p hp).1
theorem qf1{T:List Elm}(h:okT T):Txt.split (ttxt T) "; "=T.map etxt:=
 ybv "; " 59 [32] (by decide +kernel) (by decide +kernel) _ (by intro e;have h1:=h.1;rw[List.map_eq_nil_iff.mp e]at h1;simp at h1) λp hp=>by
  obtain ⟨e,he,rfl⟩:=mem_map.mp hp
  exact (qdz (h.2.2 e he)).1
theorem yhc(b:Bool):Str.ofString (toString (b2i b))=chB b:=by cases b<;>decide +kernel
section
variable {P:Program}{w:World}{K:W.Frag}{mg:Str->Option Value}{base:Heap}
noncomputable def qa9(K:W.Frag):Sp:=λvs H Q _=>∃v e,vs=[v]/\AtK K H v (qfa e)/\okE e/\∀H',Same H H'->Q (.str (etxt e)) H'
noncomputable abbrev yay:Stmt:=top 117
theorem ya6:FnScope ["element","words","step"] ["element"] (yac yay):=fsc
theorem qcf(B:Bl mg)(F:FnAt K mg "written_element" yay ["element"]):Has P w K mg base 1 "written_element" ["element"] (qa9 K):=by
 refine Has.ofQ F ya6 (λvs H Q E h=>?_) (λ_ _ _ _ _ H vs Q E hr h=>?_)
 ·obtain ⟨v,e,rfl,_⟩:=h
  rfl
 ·obtain ⟨v,e,rfl,hv,he,k⟩:=h
  obtain ⟨a,l,ws,rfl,ha,hl,hws⟩:=elemK hv
  have sc:=ya6
  refine cutA [1] ⟨_,qac rfl (qab (qb0 PassesOwn.never rfl (qgh (ya1 ycl (qaa (pv 0)) (qaa yad))) (pgn 2 sc.nd)
    (yae (yav (qaa (ybj PySem.F.plainAttrs_list PySem.F.slot_list_append PySem.F.type_list_append qa1 (pv 1) (yab (qbd qap (ycd ycl (pv 2) yad) (yda qcx rfl (B.of rfl) boot_str (yab (ycd ycl (pv 2) yad) qag))) qag)))))) (yae (yag (qaa (ybj PySem.F.plainAttrs_str PySem.F.slot_str_join PySem.F.type_str_join qb6 qah (yab (pv 1) qag))))))⟩ ?_
  intro c1
  refine ⟨_,qac rfl (qab (qsE 1 sc.nd (yaw (qdq (ya1 ycl (qaa (pv 0)) (qaa yad)) qad))) c1.2),?_⟩
  have hlw:ws.length=e.2.length:=by have:=hws.length;rw[length_map]at this;exact this
  have he6:=he.2.2
  refine ⟨_,rfl,a,_,_,_,rfl,rfl,ha,yai 0 rfl,zl,λp hp=>?_⟩
  have s1:Same H (upd H p (.lst [.str e.1])):=(smR H).upd hp
  refine ⟨_,rfl,a,_,_,_,rfl,rfl,(SqT.same s1 ha),yai 1 rfl,l,rfl,⟨_,sqlO (s1 _ _ hl)⟩,yfl (xs:=ws) (λi σ H2=>∃q2,σ=[some (.ref a),some (.ref p),q2]/\Same H H2/\H2 p=some (.lst ((e.1::(e.2.take i).map stxt).map V.str))) ⟨none,rfl,s1,yaa⟩ (λi σ H2 _ ⟨_,_,s2,_⟩=>sqlO (s2 _ _ hl)) ?_ ?_⟩
  ·rintro i x σ H2 hx ⟨q2,rfl,s2,hp2⟩
   obtain ⟨d,hd,hat⟩:=hws.get hx
   obtain ⟨st,hst,rfl⟩:=qbh hd
   obtain ⟨b,rfl,hb⟩:=stepK (hat.same s2)
   have hil:i<e.2.length:=(List.getElem?_eq_some_iff.mp hst).1
   refine ⟨_,rfl,.inl ⟨rfl,_,sqlO hp2⟩,_,rfl,b,_,_,_,rfl,rfl,hb,yai 0 rfl,_,rfl,b,_,_,_,rfl,rfl,hb,yai 1 rfl,b2i st.2,rfl,?_,_,_,rfl,rfl,?_,p,_,_,rfl,rfl,hp2,qcm (by rw[length_map,length_cons,length_map,length_take];omega),?_⟩
   ·cases st.2<;>decide +kernel
   ·obtain ⟨w,b⟩:=st
    cases w<;>cases b<;>decide +kernel
   ·refine ⟨_,rfl,s2.at hp,?_⟩
    rw[yaa,yhc st.2,List.take_add_one,hst]
    simp[stxt]
  ·rintro σ H2 ⟨q2,rfl,s2,hp2⟩
   rw[hlw,take_length]at hp2
   refine ⟨rfl,_,rfl," ",p,_,rfl,rfl,hp2,?_,k H2 s2⟩
   have h1:=ycm (B:=4) _ λp hp=>(qcl he p hp).2.2
   have e1:(" " : Str).length=1:=by decide +kernel
   rw[e1]
   simp only[length_cons,length_map]at h1 ⊢
   omega
noncomputable def qdr(K:W.Frag):Sp:=λvs H Q _=>∃v T,vs=[v]/\AtK K H v (ybo T)/\okT T/\∀H',Same H H'->Q (.str (ttxt T)) H'
noncomputable abbrev ydn:Stmt:=top 118
theorem ydt:FnScope ["test"] ["test"] (yac ydn):=fsc
theorem yf4(yc6:∃t,mg "PARTING"=some (.str "; " t))(qdp:Has P w K mg base 5 "look_at_test" ["thing"] (ybp K))(qcs:Has P w K mg base 1 "written_element" ["element"] (qa9 K))(F:FnAt K mg "written" ydn ["test"]):Has P w K mg base 6 "written" ["test"] (qdr K):=by
 obtain ⟨tP,gP⟩:=yc6
 refine Has.ofQ F ydt (λvs H Q E h=>?_) (λ_ _ _ _ _ H vs Q E hr h=>?_)
 ·obtain ⟨v,T,rfl,_⟩:=h
  rfl
 ·obtain ⟨v,T,rfl,hv,hT,k⟩:=h
  have sc:=ydt
  refine ⟨_,qac rfl (qab (yav (yaf qdp hr (yah (qaa (pv 0)) qad)))
   (yae (yag (qaa (ybj PySem.F.plainAttrs_str PySem.F.slot_str_join PySem.F.type_str_join qb6 (yaq (v:=.str "; ") rfl gP ⟨tP,rfl⟩) (yab (ydl rfl (ya4 rfl) (M:=["element"]) (ix:=[none]) (yce (pv 0)) (λ_ _ _ _=>(qba (i:=0) (show List.Nodup (["element"]:List Str) by decide +kernel) rfl (Or.inl rfl))) (λ_ _ _ _=>qb5) (λ_ _ _ _=>(qaw qcs hr (yab (pv 0) qag)))) qag)))))),?_⟩
  refine ⟨_,rfl,v,T,rfl,hv,hT,λH1 s1=>?_⟩
  obtain ⟨l,ws,rfl,hl,hws⟩:=(hv.same s1).lstEq
  have hlw:ws.length=T.length:=by have:=hws.length;rw[length_map]at this;exact this
  have hT8:=hT.2.1
  refine ⟨rfl,_,rfl,l,rfl,⟨_,sqlO hl⟩,λD hD=>qcb (n:=ws.length) (λi H'=>Same H1 H'/\H' D=some (.lst (((T.take i).map etxt).map V.str))) ⟨(smR H1).upd hD,yaa⟩ ?_ ?_⟩
  ·rintro H2 ⟨s2,e2⟩
   rw[hlw,take_length]at e2
   refine ⟨⟨_,sqlO (s2 _ _ hl),le_refl _⟩,"; ",D,_,rfl,rfl,e2,?_,k H2 (s1.trans s2)⟩
   have h1:=ycm (B:=35) (T.map etxt) λp hp=>by
    obtain ⟨e,he,rfl⟩:=mem_map.mp hp
    exact (qdz (hT.2.2 e he)).2
   have e1:("; " : Str).length=2:=by decide +kernel
   rw[e1]
   simp only[length_map]at h1 ⊢
   omega
  ·rintro i H2 hi ⟨s2,e2⟩
   refine ⟨⟨_,_,sqlO (s2 _ _ hl),getElem?_eq_getElem hi⟩,?_⟩
   rintro x H3 ⟨rfl,hx⟩
   have hxi:=hx _ (sqlO (s2 _ _ hl))
   obtain ⟨d,hd,hat⟩:=hws.get hxi
   obtain ⟨e,he,rfl⟩:=qbh hd
   refine ⟨ya5.set (ya5.refl _) rfl,yes ?_⟩
   refine ⟨_,rfl,_,e,rfl,hat.same s2,hT.2.2 e (mem_of_getElem? he),λH4 s4=>?_⟩
   refine ⟨_,s4 _ _ e2,qcm (by rw[length_map,length_map,length_take];omega),(s2.trans s4).at hD,?_⟩
   rw[yaa,List.take_add_one,he]
   simp
end
end Mw
namespace L2
open PySem PySem.Spec PyProof.Rows
section
variable {X:Cx}
noncomputable def ygw(K:W.Frag):R2:=λx y H Q=>∃p xs,x=.non/\y=.ref p/\SqL K H p xs/\(∀v∈xs,v=.non\/∃q ys,v=.ref q/\SqT K H q ys)/\Q (.bl (decide (V.non∉xs))) H
theorem Vals.fore:∀{xs:List V}{us:List Value},Vals xs us->∀v∈xs,∃u∈us,RelV v u
 |_,_,.nil,u,h=>nomatch h
 |x::xs,_,.cons (b:=u) r t,v,h=>by
  rcases mem_cons.mp h with rfl|h
  ·exact ⟨_,mem_cons_self ..,r⟩
  ·obtain ⟨u,hu,ru⟩:=Vals.fore t v h
   exact ⟨u,mem_cons_of_mem _ hu,ru⟩
theorem ye5{k:Nat}(hr:Room k X.A):OpR X (compareOp .NotIn) (ygw X.K):=by
 intro pins s σ H x y v u Q I rx ry h
 obtain ⟨p,xs,rfl,rfl,hq,hx,q⟩:=h
 cases rx
 cases ry
 obtain ⟨its,r,pl,hz⟩:=I.list hq
 have hu:=yd0 hr
 refine SeqAt.notIn_listAt (λy=>y == Value.none) pl.isList (λw hw=>?_) ⟨.bl (decide (V.non∉xs)),H,I,?_,q⟩
 ·obtain ⟨v,hv,rv⟩:=r.back w (by simpa using hw)
  rcases hx v hv with rfl|⟨q,ys,rfl,ht⟩
  ·cases rv
   exact SeqAt.EqAt.same _
  ·cases rv
   obtain ⟨its2,_,⟨o,ho,hc,n,hd⟩,_⟩:=I.tuple ht
   exact SeqAt.EqAt.tuple_none ⟨o,ho,hc,n,hd⟩ hu
 ·show Value.bool _=Value.bool _
  congr 1
  have e:(its.toArray.any λy=>y == Value.none)=decide (V.non∈xs):=by
   by_cases hm:V.non∈xs
   ·obtain ⟨u,hu,ru⟩:=r.fore _ hm
    cases ru
    rw[decide_eq_true hm]
    simp
    exact hu
   ·rw[decide_eq_false hm]
    simp
    intro un hn en
    subst en
    obtain ⟨v,hv,rv⟩:=r.back _ hn
    have:v=.non:=by
     rcases hx v hv with rfl|⟨q,ys,rfl,_⟩
     ·rfl
     ·cases rv
    subst this
    exact hm hv
  simp only[e]
  by_cases hm:V.non∈xs<;>simp[hm]
end
end L2
namespace Mw
open PySem L2 PyProof.Rows Mx
noncomputable def KStep(K:W.Frag)(s:Stp)(v:V):Prop:=∃p,v=.ref p/\∀H,SqT K H p [.str (qdm s.1),.int (b2i s.2)]
noncomputable def qfv(K:W.Frag)(ss:List Stp)(ws:List V):Prop:=ws.length=ss.length/\∀(i:Nat) s v,ss[i]?=some s->ws[i]?=some v->KStep K s v
noncomputable def tabS:List (Str×List V):=[("r0",[.str "r",.int 0]),("r1",[.str "r",.int 1]),("w0",[.str "w",.int 0]),("w1",[.str "w",.int 1])]
noncomputable def ElF(K:W.Frag)(H:Hp)(l:Addr)(e:Elm)(v:V):Prop:=∃a ws,v=.ref a/\H a=some (.tup [.str e.1,.ref l])/\H l=some (.lst ws)/\qfv K e.2 ws
noncomputable def TsF(K:W.Frag)(H:Hp)(p:Addr)(T:List Elm)(L:List Addr):Prop:=∃vs,H p=some (.lst vs)/\vs.length=T.length/\L.length=T.length/\∀(i:Nat) e l v,T[i]?=some e->L[i]?=some l->vs[i]?=some v->ElF K H l e v
theorem ElF.same{K:W.Frag}{H H':Hp}{l:Addr}{e:Elm}{v:V}(s:Same H H')(h:ElF K H l e v):ElF K H' l e v:=by
 obtain ⟨a,ws,rfl,h1,h2,h3⟩:=h
 exact ⟨a,ws,rfl,s _ _ h1,s _ _ h2,h3⟩
theorem ElF.put{K:W.Frag}{H:Hp}{l p:Addr}{e:Elm}{v:V}{xs:List V}{o:HO}(hp:H p=some (.lst xs))(n:l≠p)(h:ElF K H l e v):ElF K (upd H p o) l e v:=by
 obtain ⟨a,ws,rfl,h1,h2,h3⟩:=h
 have na:a≠p:=λz=>by subst z;rw[h1]at hp;cases hp
 exact ⟨a,ws,rfl,by rw[qaf na];exact h1,by rw[qaf n];exact h2,h3⟩
theorem TsF.same{K:W.Frag}{H H':Hp}{p:Addr}{T:List Elm}{L:List Addr}(s:Same H H')(h:TsF K H p T L):TsF K H' p T L:=by
 obtain ⟨vs,h1,h2,h3,h4⟩:=h
 exact ⟨vs,s _ _ h1,h2,h3,λi e l v a b c=>(h4 i e l v a b c).same s⟩
theorem ybw{α:Type}{xs:List α}{x y:α}{i:Nat}(h:(xs++[x])[i]?=some y):(i<xs.length/\xs[i]?=some y)\/(i=xs.length/\y=x):=by
 by_cases hi:i<xs.length
 ·rw[List.getElem?_append_left hi]at h
  exact .inl ⟨hi,h⟩
 ·rw[List.getElem?_append_right (by omega)]at h
  cases hj:i-xs.length with
  |zero=>rw[hj]at h;cases h;exact .inr ⟨by omega,rfl⟩
  |succ n=>rw[hj]at h;simp at h
theorem qde{K:W.Frag}{H:Hp}:∀{vs:List V}{ds:List PyData},vs.length=ds.length->(∀(i:Nat) v d,vs[i]?=some v->ds[i]?=some d->AtK K H v d)->AtKAll K H vs ds
 |[],[],_,_=>.nil
 |[],_::_,h,_=>by simp at h
 |_::_,[],h,_=>by simp at h
 |v::vs,d::ds,h,f=>.cons (f 0 v d rfl rfl) (qde (by simpa using h) λi v' d' h1 h2=>f (i+1) v' d' (by simpa using h1) (by simpa using h2))
theorem qfv.at{K:W.Frag}{H:Hp}{ss:List Stp}{ws:List V}(h:qfv K ss ws):AtKAll K H ws (ss.map yfc):=
 qde (by rw[length_map];exact h.1) λi v d h1 h2=>by
  obtain ⟨s,hs,rfl⟩:=qbh h2
  obtain ⟨p,rfl,hp⟩:=h.2 i s v hs h1
  exact .tup (hp H) (.cons (.str _) (.cons (.int _) .nil))
theorem ElF.at{K:W.Frag}{H:Hp}{l:Addr}{e:Elm}{v:V}(h:ElF K H l e v):AtK K H v (qfa e):=by
 obtain ⟨a,ws,rfl,h1,h2,h3⟩:=h
 exact .tup (sqtO h1) (.cons (.str _) (.cons (.lst h2 h3.at) .nil))
theorem TsF.at{K:W.Frag}{H:Hp}{p:Addr}{T:List Elm}{L:List Addr}(h:TsF K H p T L):AtK K H (.ref p) (ybo T):=by
 obtain ⟨vs,h1,h2,h3,h4⟩:=h
 refine .lst h1 (qde (by rw[length_map];exact h2) λi v d g1 g2=>?_)
 obtain ⟨e,he,rfl⟩:=qbh g2
 have hi:=(List.getElem?_eq_some_iff.mp he).1
 exact (h4 i e _ v he (getElem?_eq_getElem (by omega)) g1).at
noncomputable def ya0(x:Str):Option Stp:=if x="r0" then some (false,false) else if x="r1" then some (false,true) else if x="w0" then some (true,false) else if x="w1" then some (true,true) else none
theorem ygd(x:Str):KTD.datumAt x tabS=(ya0 x).map λs=>[.str (qdm s.1),.int (b2i s.2)]:=by
 unfold ya0 tabS
 unfold KTD.datumAt
 by_cases h0:x="r0"
 ·subst h0;decide +kernel
 rw[decide_eq_false h0,if_neg Bool.false_ne_true,if_neg h0]
 unfold KTD.datumAt
 by_cases h1:x="r1"
 ·subst h1;decide +kernel
 rw[decide_eq_false h1,if_neg Bool.false_ne_true,if_neg h1]
 unfold KTD.datumAt
 by_cases h2:x="w0"
 ·subst h2;decide +kernel
 rw[decide_eq_false h2,if_neg Bool.false_ne_true,if_neg h2]
 unfold KTD.datumAt
 by_cases h3:x="w1"
 ·subst h3;decide +kernel
 rw[decide_eq_false h3,if_neg Bool.false_ne_true,if_neg h3]
 unfold KTD.datumAt
 rfl
theorem parts_ne(x:Str)(n a:Nat)(cs:List Nat):PySem.StrLaws.partsFrom x n a cs≠[]:=by
 cases cs<;>(unfold PySem.StrLaws.partsFrom;simp)
theorem qc5(x y:Str):Txt.split x y≠[]:=by
 unfold Txt.split
 split
 ·simp
 ·split
  ·simp
  ·rw[PySem.StrLaws.partsBetween_eq]
   exact parts_ne _ _ _ _
noncomputable def wd(p:Str):List Str:=Txt.split p " "
noncomputable def okOb(o:Str):Bool:=inV (.str o) [.str "up",.str "down",.str "any"]
noncomputable def qdh(ws:List Str):Bool:=okOb (ws.headD "")&&(decide (1<=ws.tail.length/\ws.tail.length<=6)&&ws.tail.all λx=>(ya0 x).isSome)
noncomputable def elOf(p:Str):Option Elm:=if qdh (wd p)=true then some ((wd p).headD "",(wd p).tail.filterMap ya0) else none
theorem okOb_is{o:Str}(h:okOb o=true):okO o:=by
 unfold okOb at h
 by_cases h0:o="up"
 ·exact .inl h0
 by_cases h1:o="down"
 ·exact .inr (.inl h1)
 by_cases h2:o="any"
 ·exact .inr (.inr h2)
 exfalso
 revert h
 have e:∀{a b:Str},¬ b=a->eqV (V.str a) (V.str b)=false:=λ{a b} h=>by simp[eqV];exact λz=>h z.symm
 simp[inV,e h0,e h1,e h2]
end Mw
namespace Mw
open PySem L2 PyProof.Rows Mx
theorem ygx{α β:Type}{f:α->Option β}:∀{l:List α},(l.all λx=>(f x).isSome)=true->(l.filterMap f).length=l.length/\∀j:Nat,(l.filterMap f)[j]?=l[j]?.bind f
 |[],_=>⟨rfl,λj=>by simp⟩
 |x::l,h=>by
  rw[List.all_cons,Bool.and_eq_true]at h
  obtain ⟨h1,h2⟩:=ygx (f:=f) h.2
  obtain ⟨y,hy⟩:=Option.isSome_iff_exists.mp h.1
  rw[List.filterMap_cons,hy]
  refine ⟨by simp[h1],λj=>?_⟩
  cases j with
  |zero=>simp[hy]
  |succ j=>simpa using h2 j
noncomputable def GotW(K:W.Frag)(x:Str)(v:V):Prop:=match ya0 x with
 |some s=>KStep K s v
 |none=>v=.non
section
variable {P:Program}{w:World}{K:W.Frag}{mg:Str->Option Value}{base:Heap}
noncomputable def ygq(K:W.Frag):Sp:=λvs H Q _=>∃p:Str,vs=[.str p]/\p.length<=90000/\(elOf p=none->∀H',Same H H'->Q .non H')/\
 (∀e,elOf p=some e->∀a l ws H',Same H H'->H a=none->H l=none->a≠l->H' a=some (.tup [.str e.1,.ref l])->H' l=some (.lst ws)->qfv K e.2 ws->Q (.ref a) H')
noncomputable abbrev qbp:Stmt:=top 119
theorem qcj:FnScope ["part","words","steps"] ["part"] (yac qbp):=fsc
theorem ok_elin(qbx:GTup K mg "ORDERS" [.str "up",.str "down",.str "any"])(yaz:∃t,mg "MOST_IN_ELEMENT"=some (.int 6 t)){aS:Addr}(gS:mg "STEPS"=some (.ref aS))(TS:TabK K aS tabS)
  (ya3:Has P w K mg base 1 "is_filled" ["thing","most"] ya7) (F:FnAt K mg "element_in" qbp ["part"]):Has P w K mg base 2 "element_in" ["part"] (ygq K):=by
 refine Has.ofQ F qcj (λvs H Q E h=>?_) (λ_ _ _ _ _ H vs Q E hr h=>?_)
 ·obtain ⟨p,rfl,_⟩:=h
  rfl
 ·obtain ⟨p,rfl,hpl,q1,q2⟩:=h
  have sc:=qcj
  refine cutA [2] ⟨_,qac rfl (qab (qao (QW.pt (qet (qan yck (ya1 qaj (qaa (pv 1)) (qaa yad)) (qaa (qd6 qbx)) (by with_unfolding_all rfl)) (qet (ybb (yaf ya3 hr (yah (qaa (pv 2)) (yah (qaa (qb4 yaz)) qad)))) (ydz (qan (ye5 hr) (qaa qcv) (qaa (pv 2)) (by with_unfolding_all rfl))))))
    (yae (yag (ya8 (qdq (ya1 qaj (qaa (pv 1)) (qaa yad)) (yah (qaa (pv 2)) qad)))))
    yaj) (yae (yag (qaa qcv))))⟩ ?_
  intro c1
  refine ⟨_,qac rfl (qab (qsE 1 sc.nd (qaa (ybj PySem.F.plainAttrs_str PySem.F.slot_str_split PySem.F.type_str_split qd8 (pv 0) (yab qah qag)))) (qab (qby (qgu (i:=2) rfl sc.nd rfl (Or.inl rfl) rfl (ya4 rfl) (M:=["word"]) (ix:=[none]) (yce (ybi ybm (pv 1) (qbc yad) yco)) (λ_ _ _ _=>(qba (i:=0) (show List.Nodup (["word"]:List Str) by decide +kernel) rfl (Or.inl rfl))) (λ_ _ _ _=>qb5) (λ_ _ _ _=>(pe_getT rfl TS (yaq (v:=.ref aS) rfl gS rfl) (yab (pv 0) qag))))) c1.2)),?_⟩
  have hsl:(sizeLine:Nat)=16777216:=sizeLine_eq
  refine ⟨_,rfl,rfl,p," ",rfl,rfl,(by decide +kernel),by omega,λp1 f1=>?_⟩
  have hwt:=split_weight p " " (by decide +kernel)
  have hne:=qc5 p " "
  have hel:elOf p=(if qdh (wd p)=true then some ((wd p).headD "",(wd p).tail.filterMap ya0) else none):=rfl
  rw[show Txt.split p " "=wd p from rfl]at hwt hne ⊢
  rw[hel]at q1 q2
  revert hwt hne q1 q2
  generalize wd p=wl
  intro q1 q2 hwt hne
  cases wl with
  |nil=>exact absurd rfl hne
  |cons o tl=>
  have s1:Same H (upd H p1 (.lst ((o::tl).map V.str))):=(smR H).upd f1
  have a1:=@yaa H p1 (.lst ((o::tl).map V.str))
  revert s1 a1
  generalize upd H p1 _=H1
  intro s1 a1
  have htl:tl.length<=90000:=by simp at hwt;omega
  refine ⟨_,rfl,1,rfl,p1,_,rfl,sqlO a1,λp2 f2=>?_⟩
  rw[show cutV ((o::tl).map V.str) (some 1) none=tl.map V.str from cut_drop 1]
  have s2:Same H (upd H1 p2 (.lst (tl.map V.str))):=s1.upd f2
  have a2:upd H1 p2 (.lst (tl.map V.str)) p1=some (.lst ((o::tl).map V.str)):=by rw[qaf (qae a1 f2)];exact a1
  have b2:=@yaa H1 p2 (.lst (tl.map V.str))
  revert s2 a2 b2
  generalize upd H1 p2 _=H2
  intro s2 a2 b2
  refine ⟨p2,rfl,⟨_,sqlO b2⟩,λD hD=>qcb (n:=tl.length) (λi H'=>∃ws,Same H2 H'/\H' D=some (.lst ws)/\ws.length=i/\∀(j:Nat) x v,tl[j]?=some x->ws[j]?=some v->GotW K x v) ⟨[],(smR H2).upd hD,yaa,rfl,λi s v _ h=>by simp at h⟩ ?_ ?_⟩
  ·rintro H3 ⟨ws,s3,e3,hwl,hk⟩
   refine ⟨⟨_,sqlO (s3 _ _ b2),by simp⟩,?_⟩
   have no:∀H4,Same H3 H4->qdh (o::tl)=false->Q .non H4:=λH4 s4 hg=>q1 (by rw[if_neg (by rw[hg];exact Bool.false_ne_true)]) H4 ((s2.trans s3).trans s4)
   refine ⟨_,rfl,p1,_,_,_,rfl,rfl,sqlO (s3 _ _ a2),yai 0 rfl,λoa ho=>⟨oa,_,rfl,.inr (ho _),rfl,by decide,_,rfl,?_⟩⟩
   show if okOb o=true then _ else _
   cases hob:okOb o with
   |false=>exact iteF (iteF (no H3 (smR H3) (by unfold qdh;simp[hob])))
   |true=>
    refine iteT ⟨_,rfl,D,ws,6,rfl,e3,_,rfl,?_⟩
    by_cases hl6:0<ws.length/\(ws.length:Int)<=6
    rotate_left
    ·rw[decide_eq_false hl6]
     exact iteF (iteF (no H3 (smR H3) (by
      unfold qdh
      have:decide (1<=(o::tl).tail.length/\(o::tl).tail.length<=6)=false:=decide_eq_false (λz=>hl6 (by simp at z;omega))
      rw[this];simp)))
    rw[decide_eq_true hl6]
    refine iteT ⟨_,rfl,D,ws,rfl,rfl,sqlO e3,λv hv=>?_,_,rfl,?_⟩
    ·obtain ⟨i,hi⟩:=getElem?_of_mem hv
     have hil:i<tl.length:=by have:=(List.getElem?_eq_some_iff.mp hi).1;omega
     have:=hk i _ v (getElem?_eq_getElem hil) hi
     unfold GotW at this
     split at this
     ·obtain ⟨p,rfl,hp⟩:=this
      exact .inr ⟨p,_,rfl,hp _⟩
     ·exact .inl this
    by_cases hall:(tl.all λx=>(ya0 x).isSome)=true
    ·have hnn:V.non∉ws:=λhm=>by
      obtain ⟨i,hi⟩:=getElem?_of_mem hm
      have hil:i<tl.length:=by have:=(List.getElem?_eq_some_iff.mp hi).1;omega
      have:=hk i _ _ (getElem?_eq_getElem hil) hi
      obtain ⟨s,hs⟩:=Option.isSome_iff_exists.mp (all_eq_true.mp hall _ (getElem_mem hil))
      unfold GotW at this
      rw[hs]at this
      obtain ⟨p,z,_⟩:=this
      cases z
     refine iteB (decide_eq_true hnn) ?_
     have hg:qdh (o::tl)=true:=by
      unfold qdh
      have:decide (1<=(o::tl).tail.length/\(o::tl).tail.length<=6)=true:=decide_eq_true (by simp;omega)
      rw[this]
      show (okOb o&&(true&&tl.all λx=>(ya0 x).isSome))=true
      rw[hob,hall];rfl
     refine ⟨_,rfl,p1,_,_,_,rfl,rfl,sqlO (s3 _ _ a2),yai 0 rfl,_,rfl,zl,λa fa=>?_⟩
     have nDa:D≠a:=qae e3 fa
     refine q2 _ (if_pos hg) a D ws _ ((s2.trans s3).upd fa) ((s2.trans s3).free fa) (s2.free hD) (λz=>nDa z.symm) yaa (by rw[qaf nDa];exact e3) ?_
     obtain ⟨g1,g2⟩:=ygx hall
     refine ⟨by show ws.length=(tl.filterMap ya0).length;omega,λi s v h1 h2=>?_⟩
     have h1':(tl.filterMap ya0)[i]?=some s:=h1
     rw[g2]at h1'
     obtain ⟨x,hx,hs⟩:=Option.bind_eq_some_iff.mp h1'
     have:=hk i x v hx h2
     unfold GotW at this
     rw[hs]at this
     exact this
    ·have hex:V.non∈ws:=by
      rw[Bool.not_eq_true,List.all_eq_false]at hall
      obtain ⟨x,hx,hn⟩:=hall
      obtain ⟨i,hi⟩:=getElem?_of_mem hx
      have hil:i<ws.length:=by have:=(List.getElem?_eq_some_iff.mp hi).1;omega
      have:=hk i x _ hi (getElem?_eq_getElem hil)
      unfold GotW at this
      cases hs:ya0 x with
      |some s=>rw[hs]at hn;simp at hn
      |none=>rw[hs]at this;rw[<-this];exact getElem_mem hil
     refine iteN (decide_eq_false (λz=>z hex)) (no H3 (smR H3) ?_)
     unfold qdh
     rw[show (o::tl).tail=tl from rfl,Bool.eq_false_iff.mpr hall]
     simp
  ·rintro i H3 hi ⟨ws,s3,e3,hwl,hk⟩
   refine ⟨⟨_,_,sqlO (s3 _ _ b2),by rw[getElem?_map,getElem?_eq_getElem hi];rfl⟩,?_⟩
   rintro x H4 ⟨rfl,hx⟩
   have hxi:=hx _ (sqlO (s3 _ _ b2))
   obtain ⟨y,hy,rfl⟩:=qbh hxi
   refine ⟨ya5.set (ya5.refl _) rfl,yes ?_⟩
   have fin:∀v,GotW K y v->∃ys,H4 D=some (.lst ys)/\ys.length<sizeLine/\∃ws,Same H2 (upd H4 D (.lst (ys++[v])))/\upd H4 D (.lst (ys++[v])) D=some (.lst ws)/\ws.length=i+1/\∀(j:Nat) x v,tl[j]?=some x->ws[j]?=some v->GotW K x v:=λv hv=>by
    refine ⟨ws,e3,by omega,ws++[v],s3.at hD,yaa,by simp[hwl],λj x v' h1 h2=>?_⟩
    rcases ybw h2 with ⟨hj,g2⟩|⟨hj,rfl⟩
    ·exact hk j x v' h1 g2
    ·rw[hj,hwl,hy]at h1
     cases h1
     exact hv
   refine ⟨_,rfl,aS,y,rfl,rfl,TS,λxs p hd hp=>?_,λhn=>?_⟩
   ·rw[ygd]at hd
    cases hs:ya0 y with
    |none=>rw[hs]at hd;cases hd
    |some s=>
     rw[hs]at hd
     cases hd
     exact fin _ (by unfold GotW;rw[hs];exact ⟨p,rfl,hp⟩)
   ·rw[ygd]at hn
    cases hs:ya0 y with
    |some s=>rw[hs]at hn;cases hn
    |none=>exact fin _ (by unfold GotW;rw[hs])
end
end Mw
namespace Mw
open PySem L2 PyProof.Rows Mx
noncomputable def rdF:Nat->List Str->Sum Nat (List Elm)
 |_,[]=>.inr []
 |i,p::r=>match elOf p with
  |none=>.inl i
  |some e=>if i=8 then .inl i else match rdF (i+1) r with
   |.inl j=>.inl j
   |.inr T=>.inr (e::T)
theorem yc5(i:Nat)(p:Str)(r:List Str):rdF i (p::r)=(match elOf p with
  |none=>.inl i
  |some e=>if i=8 then .inl i else match rdF (i+1) r with
   |.inl j=>.inl j
   |.inr T=>.inr (e::T)):=by rw[rdF]
theorem qg6:∀{l:List Str}{x:Str},x∈l->x.length<=(l.map (·.length)).sum
 |y::l,x,h=>by
  rw[map_cons,List.sum_cons]
  rcases mem_cons.mp h with rfl|h
  ·omega
  ·have:=qg6 h
   omega
theorem elOf_ok{p:Str}{e:Elm}(h:elOf p=some e):okE e:=by
 unfold elOf at h
 split at h
 ·rename_i hg
  cases h
  unfold qdh at hg
  rw[Bool.and_eq_true,Bool.and_eq_true,decide_eq_true_eq]at hg
  obtain ⟨h1,h2,h3⟩:=hg
  obtain ⟨f1,_⟩:=ygx h3
  exact ⟨okOb_is h1,by rw[f1];exact h2.1,by rw[f1];exact h2.2⟩
 ·cases h
section
variable {P:Program}{w:World}{K:W.Frag}{mg:Str->Option Value}{base:Heap}
noncomputable def yfm(K:W.Frag)(C:Addr):Sp:=λvs H Q E=>∃v,vs=[v]/\((∃t:Str,v=.str t/\t.length<=90000/\(∀n,rdF 0 (Txt.split t "; ")=.inl n->∀a H',Same H H'->XAt H' a C [("element",.int n)]->E (.ref a) none H')/\
  (∀T,rdF 0 (Txt.split t "; ")=.inr T->∀p H',Same H H'->AtK K H' (.ref p) (ybo T)->okT T->Q (.ref p) H'))\/
 (∃ty,TyOf K H v ty/\W.kitOne K ty (.type "str")=some false/\∀a H',Same H H'->XAt H' a C [("element",.int 0)]->E (.ref a) none H'))
noncomputable abbrev yhd:Stmt:=top 120
theorem ygt:FnScope ["text","test","number","part","element"] ["text"] (yac yhd):=fsc
theorem ok_readx{C:Addr}(B:Bl mg)(xT:XInit P w K mg base "NoText" C ["self","element"] (sp_x1 C "element"))(yc6:∃t,mg "PARTING"=some (.str "; " t))(qbb:∃t,mg "MOST_IN_TEST"=some (.int 8 t))(qem:Has P w K mg base 2 "element_in" ["part"] (ygq K))(F:FnAt K mg "read" yhd ["text"]):HasX P w K mg base 3 "read" ["text"] (yfm K C):=by
 obtain ⟨tP,gP⟩:=yc6
 refine HasX.of F ygt (λvs H Q E h=>?_) (λ_ _ _ _ _ H vs Q E hr h=>?_)
 ·obtain ⟨v,rfl,_⟩:=h
  rfl
 ·obtain ⟨v,rfl,hv⟩:=h
  have hsl:(sizeLine:Nat)=16777216:=sizeLine_eq
  have z1:1<=sizeLine:=by decide
  have sc:=ygt
  refine cutA [2,1] ⟨_,qac rfl (qab (qao (QW.pt (qw_or (qg1 (qev (pc_isN (pv 4)))) (yfn (qan yc1 (qaa (pv 2)) (qaa (qb4 qbb)) (qak _)))))
    (yae (qby (yd6 (pe_xI xT hr (yab (pv 2) qag)))))
    yaj) (yae (yav (qaa (ybj PySem.F.plainAttrs_list PySem.F.slot_list_append PySem.F.type_list_append qa1 (pv 1) (yab (pv 4) qag))))))⟩ ?_
  intro c1
  refine cutA [2,0] ⟨_,qac rfl (qab (qsE 4 sc.nd (yaf qem hr (yah (qaa (pv 3)) qad))) c1.2)⟩ ?_
  intro c2
  refine cutA [2] ⟨_,qac rfl (qab (qb0 passOwnX rfl (yec (qda rfl (B.of rfl) (yab (ybj PySem.F.plainAttrs_str PySem.F.slot_str_split PySem.F.type_str_split qd8 (pv 0) (yab (yaq (v:=.str "; ") rfl gP ⟨tP,rfl⟩) qag)) qag))) (qds rfl (qau (pgn 2 sc.nd) (qau (pgn 3 sc.nd) yb7)))
    c2.2) (yae (yag (qaa (pv 1)))))⟩ ?_
  intro c3
  refine ⟨_,qac rfl (qab (qao (qcz (ybb (qai qbu rfl (B.of rfl) boot_isinstance (yah (qaa (pv 0)) (yah (qaa (qbr (v:=.ty "str") rfl (B.of rfl) boot_str rfl)) qad)))))
    (yae (qby (yd6 (pe_xI xT hr (yab yad qag)))))
    yaj) (qab (qsE 1 sc.nd (yaw qad)) c3.2)),?_⟩
  rcases hv with ⟨t,rfl,hl,q1,q2⟩|⟨ty,hty,hk,q⟩
  rotate_left
  ·refine ⟨_,rfl,_,_,_,_,rfl,hty,hk,_,rfl,iteT ?_⟩
   refine ⟨z1,λa ha=>⟨a,_,rfl,.inl ⟨rfl,rfl,yaa⟩,λd H1 x1 s1=>⟨rfl,?_⟩⟩⟩
   obtain ⟨r1,r2,r3⟩:=yfr ha x1 s1
   exact ⟨a,C,some d,rfl,xT.2.2.1.toXTy,r1,q a _ r2 r3⟩
  refine ⟨_,rfl,_,_,_,_,rfl,.str _,rfl,_,rfl,iteF ?_⟩
  refine ⟨zero_le _,λp hp=>?_⟩
  refine ⟨_,rfl,rfl,t,"; ",rfl,rfl,(by decide +kernel),by omega,λqa hq=>?_⟩
  have hwt:=split_weight t "; " (by decide +kernel)
  have hne:=qc5 t "; "
  have hpl:∀x∈Txt.split t "; ",x.length<=90000:=λx hx=>by
   have h1:=qg6 hx
   have h2:=List.length_pos_iff.mpr hne
   omega
  revert hwt hne hpl q1 q2
  generalize Txt.split t "; "=ps
  intro q1 q2 hwt hne hpl
  have npq:p≠qa:=qae (o:=.lst []) yaa hq
  have s1:Same H (upd (upd H p (.lst [])) qa (.lst (ps.map V.str))):=((smR H).upd hp).upd hq
  have p1:upd (upd H p (.lst [])) qa (.lst (ps.map V.str)) p=some (.lst []):=by rw[qaf npq];exact yaa
  have e1:upd (upd H p (.lst [])) qa (.lst (ps.map V.str)) qa=some (.lst (ps.map V.str)):=yaa
  revert s1 p1 e1
  generalize upd (upd H p (.lst [])) qa (.lst (ps.map V.str))=H1
  intro s1 p1 e1
  refine ⟨qa,_,rfl,sqlO e1,qcg (xs:=ps.map V.str) (λi σ H2=>∃(L:List Addr) (T:List Elm) (o2 o3 o4:Option V),σ=[some (.str t),some (.ref p),o2,o3,o4]/\Same H H2/\H2 qa=some (.lst (ps.map V.str))/\TsF K H2 p T L/\(p::L).Nodup/\T.length=i/\i<=8/\(∀e∈T,okE e)/\
    rdF 0 ps=(match rdF i (ps.drop i) with|.inl n=>.inl n|.inr T'=>.inr (T++T')))
   ⟨[],[],none,none,none,rfl,s1,e1,⟨[],p1,rfl,rfl,λi e l v h=>by simp at h⟩,by simp,rfl,zero_le _,(λe h=>by simp at h),?_⟩ (λi σ H2 _ ⟨_,_,_,_,_,_,_,h,_⟩=>sqlO h) ?_ ?_⟩
  ·rw[List.drop_zero]
   cases rdF 0 ps<;>rfl
  ·rintro i x pp σ H2 hx ⟨L,T,o2,o3,o4,rfl,s2,e2,ts,hnd,hTl,hi8,hTo,hrd⟩ hpp
   obtain ⟨y,hy,rfl⟩:=qbh hx
   have hyl:=hpl y (mem_of_getElem? hy)
   have hdr:ps.drop i=y::ps.drop (i+1):=by
    obtain ⟨hi,e⟩:=List.getElem?_eq_some_iff.mp hy
    rw[List.drop_eq_getElem_cons hi,e]
   rw[hdr]at hrd
   refine ⟨pp,_,rfl,sqtO yaa,rfl,_,_,rfl,_,_,rfl,rfl,?_⟩
   have sP:Same H2 (upd H2 pp (.tup [.int i,.str y])):=(smR H2).upd hpp
   have raise:∀{H3:Hp}{a:Addr},rdF 0 ps=.inl i->Same H H3->H3 a=none->∀d H4,XD H4 a C (some d) [("element",.int i)]->SetX a d none (upd H3 a (.ext (qa6 a C none))) H4->(∃a' C' dx,V.ref a=V.ref a'/\XTy K C'/\H4 a'=some (.ext (qa6 a' C' dx))/\E (.ref a') none (upd H4 a' (.ext (qbf a' C' dx)))):=λ{H3 a} hr s3 ha d H4 x4 s4=>by
    obtain ⟨r1,r2,r3⟩:=yfr ha x4 s4
    exact ⟨a,C,some d,rfl,xT.2.2.1.toXTy,r1,q1 i hr a _ (s3.trans r2) r3⟩
   refine ⟨_,rfl,y,rfl,hyl,λhel H3 s3=>?_,λe hel a l ws H3 s3 na nl nal ha hl hk=>?_⟩
   ·have hr0:rdF 0 ps=.inl i:=by rw[hrd];unfold rdF;rw[hel]
    refine ⟨_,rfl,_,rfl,iteB (by decide) (iteT ?_)⟩
    exact ⟨_,rfl,z1,λa ha=>⟨a,_,rfl,.inl ⟨rfl,rfl,yaa⟩,λd H4 x4 s4=>⟨rfl,raise hr0 ((s2.trans sP).trans s3) ha d H4 x4 s4⟩⟩⟩
   refine ⟨_,rfl,_,rfl,iteN (decide_eq_false (by intro z;cases z)) ?_⟩
   refine ⟨_,rfl,rfl,_,rfl,?_⟩
   by_cases h8:i=8
   ·have hr0:rdF 0 ps=.inl i:=by rw[hrd];unfold rdF;rw[hel];simp[h8]
    refine iteB (decide_eq_true (by rw[h8];rfl)) ?_
    exact ⟨_,rfl,z1,λa ha=>⟨a,_,rfl,.inl ⟨rfl,rfl,yaa⟩,λd H4 x4 s4=>⟨rfl,raise hr0 ((s2.trans sP).trans s3) ha d H4 x4 s4⟩⟩⟩
   refine iteN (decide_eq_false (by intro z;injection z with z;omega)) ?_
   have sA:Same H2 H3:=sP.trans s3
   have nl2:H2 l=none:=sP.free nl
   obtain ⟨vs,hp3,l1,l2,hold⟩:=ts.same sA
   obtain ⟨vs0,hp20,_⟩:=id ts
   have nlp:l≠p:=λz=>by subst z;rw[hp20]at nl2;cases nl2
   have nap:a≠p:=λz=>by subst z;rw[ha]at hp3;cases hp3
   have hlL:l∉L:=λhm=>by
    obtain ⟨j,hj⟩:=getElem?_of_mem hm
    have hjl:=(List.getElem?_eq_some_iff.mp hj).1
    obtain ⟨vs2,_,m1,m2,m3⟩:=ts
    obtain ⟨_,_,_,_,h2,_⟩:=m3 j _ l _ (getElem?_eq_getElem (by omega)) hj (getElem?_eq_getElem (by omega))
    rw[h2]at nl2;cases nl2
   refine ⟨_,rfl,.inl ⟨rfl,_,sqlO hp3⟩,_,rfl,p,vs,_,rfl,rfl,hp3,by omega,?_⟩
   refine ⟨L++[l],T++[e],_,_,_,rfl,(s2.trans sA).at hp,by rw[qaf (λz=>npq z.symm)];exact sA _ _ e2,⟨vs++[.ref a],yaa,by simp[l1],by simp[l2],?_⟩,?_,by simp[hTl],by omega,?_,?_⟩
   ·intro j e' l' v' h1 h2 h3
    rcases ybw h1 with ⟨hj,g1⟩|⟨hj,rfl⟩
    ·rcases ybw h2 with ⟨_,g2⟩|⟨hj2,_⟩
     ·rcases ybw h3 with ⟨_,g3⟩|⟨hj3,_⟩
      ·refine (hold j e' l' v' g1 g2 g3).put hp3 (λz=>?_)
       subst z
       exact (nodup_cons.mp hnd).1 (mem_of_getElem? g2)
      ·omega
     ·omega
    ·rcases ybw h2 with ⟨hj2,_⟩|⟨_,rfl⟩
     ·omega
     ·rcases ybw h3 with ⟨hj3,_⟩|⟨_,rfl⟩
      ·omega
      ·exact ⟨a,ws,rfl,by rw[qaf nap];exact ha,by rw[qaf nlp];exact hl,hk⟩
   ·rw[nodup_cons]at hnd ⊢
    refine ⟨λhz=>?_,?_⟩
    ·rcases mem_append.mp hz with hz|hz
     ·exact hnd.1 hz
     ·exact nlp (mem_singleton.mp hz).symm
    ·rw[List.nodup_append]
     exact ⟨hnd.2,by simp,λx hx y hy z=>hlL (by rw[mem_singleton.mp hy]at z;exact z ▸ hx)⟩
   ·intro x hx
    rcases mem_append.mp hx with hx|hx
    ·exact hTo x hx
    ·rw[mem_singleton.mp hx];exact elOf_ok hel
   ·rw[hrd,yc5,hel]
    simp only[if_neg h8]
    cases rdF (i+1) (ps.drop (i+1)) with
    |inl n=>rfl
    |inr T'=>simp
  ·rintro σ H2 ⟨L,T,o2,o3,o4,rfl,s2,e2,ts,hnd,hTl,hi8,hTo,hrd⟩
   rw[length_map]at hTl hi8 hrd
   rw[List.drop_length]at hrd
   have hrd':rdF 0 ps=.inr T:=by rw[hrd];unfold rdF;simp
   refine ⟨_,rfl,q2 T hrd' p H2 s2 ts.at ⟨?_,by omega,hTo⟩⟩
   rw[hTl]
   cases ps with
   |nil=>exact absurd rfl hne
   |cons _ _=>simp
end
end Mw
namespace Mw
open PySem L2 PyProof.Rows Mx
noncomputable def mkS(l:List Nat):Str:=⟨l.toArray⟩
theorem qfe(a b:List Nat):mkS a++mkS b=mkS (a++b):=by
 apply Str.ext'
 rw[Str.cps_append]
 simp[mkS]
noncomputable def yg1(n k:Nat):Nat:=97+(n+7*k) % 26
noncomputable def yfe(n:Nat):List Nat:=if n / 26 % 4=0 then [] else if n / 26 % 4=1 then [120] else if n / 26 % 4=2 then [122,122] else [113,113,113,113,113,113,113]
noncomputable def qfd(n k:Nat):List Nat:=if n / 104 % 2=0 then yfe n++[yg1 n k] else [yg1 n k]++yfe n
noncomputable def qf8(n k:Nat):List Nat:=if k % 3=1/\n / 26 % 4<3 then [97] else []
noncomputable def ybs(n k:Nat):List Nat:=qfd n k++qf8 n k
noncomputable def qa4(l:List Nat):Bool:=decide (0<l.length/\l.length<=8)&&l.all λc=>decide (97<=c/\c<123)
theorem qdd:∀n,n<208->∀k,k<21->qa4 (ybs n k)=true:=by decide +kernel
theorem qgr:∀n,n<208->((List.range 21).map (ybs n)).Nodup:=by decide +kernel
theorem abc_at:∀i,i<26->atI (Str.ofString "abcdefghijklmnopqrstuvwxyz").cps.toList (i:Nat)=some (97+i):=by decide +kernel
theorem more_at{n:Nat}:atI [V.str "",.str "x",.str "zz",.str "qqqqqqq"] ((n:Int) / 26 % 4)=some (.str (mkS (yfe n))):=by
 have e:((n:Int) / 26 % 4)=((n / 26 % 4:Nat):Int):=by omega
 rw[e]
 unfold yfe
 have h:n / 26 % 4=0\/n / 26 % 4=1\/n / 26 % 4=2\/n / 26 % 4=3:=by omega
 rcases h with h|h|h|h<;>rw[h]<;>decide +kernel
theorem qeg(n:Nat):(yfe n).length<=7:=by
 unfold yfe
 split
 ·decide
 ·split
  ·decide
  ·split<;>decide
theorem qaz(l:List Nat):(mkS l).length=l.length:=by simp[mkS,Str.length]
theorem qg5(n k:Nat):(qfd n k).length<=8:=by
 have:=qeg n
 unfold qfd
 split<;>simp<;>omega
section
variable {P:Program}{w:World}{K:W.Frag}{mg:Str->Option Value}{base:Heap}
noncomputable def qgm:Sp:=λvs H Q _=>∃n k:Nat,vs=[.int n,.int k]/\n<208/\k<21/\∀H',Same H H'->Q (.str (mkS (qfd n k))) H'
noncomputable abbrev qce:Stmt:=top 149
theorem qcw:FnScope ["_law_number","_law_k","_law_stem","_law_more"] ["_law_number","_law_k"] (yac qce):=fsc
theorem ok_name(B:Bl mg)(F:FnAt K mg "_law_name" qce ["_law_number","_law_k"]):Has P w K mg base 1 "_law_name" ["_law_number","_law_k"] qgm:=by
 refine Has.ofQ F qcw (λvs H Q E h=>?_) (λ_ _ _ _ _ H vs Q E hr h=>?_)
 ·obtain ⟨n,k,rfl,_⟩:=h
  rfl
 ·obtain ⟨n,k,rfl,hn,hk,q⟩:=h
  have sc:=qcw
  refine cutA [2] ⟨_,qac rfl (yae (yag (ya1 qaj (yaw (ydy (qam qap (qaa (pv 3)) (qaa (pv 2))) (ydy (qam qap (qaa (pv 2)) (qaa (pv 3))) qad))) (qam qa5 (qam ycc (qaa (pv 0)) (qaa yad)) (qaa yad)))))⟩ ?_
  intro c1
  refine cutA [1] ⟨_,qac rfl (qab (qsE 3 sc.nd (ya1 qaj (yaw (qar (qaa qah) (qar (qaa qah) (qar (qaa qah) (qar (qaa qah) qad))))) (qam qa5 (qam ycc (qaa (pv 0)) (qaa yad)) (qaa yad)))) c1.2)⟩ ?_
  intro c2
  refine ⟨_,qac rfl (qab (qsE 2 sc.nd (ya1 ix_str (qaa qah) (qam qa5 (qam qbe (qaa (pv 0)) (qam qdk (qaa yad) (qaa (pv 1)))) (qaa yad)))) c2.2),?_⟩
  have e1:((n:Int)+7*(k:Int)) % 26=(((n+7*k) % 26:Nat):Int):=by omega
  refine ⟨_,rfl,_,rfl,_,_,rfl,rfl,.inl (by omega),_,_,rfl,rfl,_,_,rfl,rfl,(by show (0:Int)<26;decide),_,_,97+(n+7*k) % 26,rfl,rfl,by decide +kernel,by rw[e1];exact abc_at _ (by omega),?_⟩
  refine ⟨zl,λp hp=>?_⟩
  refine ⟨_,rfl,_,_,rfl,rfl,⟨by decide,by decide⟩,_,_,rfl,rfl,(by show (0:Int)<4;decide),p,_,_,_,rfl,rfl,sqlO yaa,more_at,?_⟩
  have hm:=qeg n
  have hs:=qaz (yfe n)
  have h1:(⟨#[97+(n+7*k) % 26]⟩:Str)=mkS [yg1 n k]:=rfl
  rw[h1]
  have h2:=qaz [yg1 n k]
  have h3:[yg1 n k].length=1:=rfl
  refine ⟨_,rfl,_,rfl,_,_,rfl,rfl,ybd (by omega),_,rfl,_,rfl,_,_,rfl,rfl,ybd (by omega),zl,λp2 hp2=>?_⟩
  refine ⟨_,rfl,_,_,rfl,rfl,⟨by decide,by decide⟩,_,_,rfl,rfl,(by show (0:Int)<2;decide),p2,_,_,.str (mkS (qfd n k)),rfl,rfl,sqlO yaa,?_,q _ (((smR H).upd hp).upd hp2)⟩
  rw[qfe,qfe]
  have e:((n:Int) / 104 % 2)=((n / 104 % 2:Nat):Int):=by omega
  show atI _ ((n:Int) / 104 % 2)=_
  rw[e]
  unfold qfd
  have h:n / 104 % 2=0\/n / 104 % 2=1:=by omega
  rcases h with h|h<;>rw[h]<;>rfl
noncomputable def qex:Sp:=λvs H Q _=>∃n k:Nat,vs=[.int n,.int k]/\n<208/\k<21/\∀H',Same H H'->Q (.str (mkS (ybs n k))) H'
noncomputable abbrev qbi:Stmt:=top 154
theorem qb2:FnScope ["_law_number","_law_k"] ["_law_number","_law_k"] (yac qbi):=fsc
theorem yg6(B:Bl mg)(qfc:Has P w K mg base 1 "_law_name" ["_law_number","_law_k"] qgm)(F:FnAt K mg "_law_called" qbi ["_law_number","_law_k"]):Has P w K mg base 2 "_law_called" ["_law_number","_law_k"] qex:=by
 refine Has.ofQ F qb2 (λvs H Q E h=>?_) (λ_ _ _ _ _ H vs Q E hr h=>?_)
 ·obtain ⟨n,k,rfl,_⟩:=h
  rfl
 ·obtain ⟨n,k,rfl,hn,hk,q⟩:=h
  have sc:=qb2
  refine ⟨_,qac rfl (yae (yag (qam qap (yaf qfc hr (yah (qaa (pv 0)) (yah (qaa (pv 1)) qad))) (qam op_mulS (ya1 qaj (yaw (qar (qaa qah) (qar (qaa qah) (qar (qaa qah) qad)))) (qam qa5 (qaa (pv 1)) (qaa yad))) (yha qgb rfl (B.of rfl) boot_int (qa_cp (qeb op_lt (qam qa5 (qam ycc (qaa (pv 0)) (qaa yad)) (qaa yad)) (qaa yad) (qak _)) qad)))))),?_⟩
  refine ⟨_,rfl,_,rfl,n,k,rfl,hn,hk,λH1 s1=>?_⟩
  refine ⟨zl,λp hp=>?_⟩
  have h3:k % 3=0\/k % 3=1\/k % 3=2:=by omega
  have e3:((k:Int) % 3)=((k % 3:Nat):Int):=by omega
  refine ⟨_,rfl,_,_,rfl,rfl,(by show (0:Int)<3;decide),p,_,_,.str (if k % 3=1 then "a" else ""),rfl,rfl,sqlO yaa,?_,_,rfl,_,_,rfl,rfl,⟨by decide,by decide⟩,_,_,rfl,rfl,(by show (0:Int)<4;decide),_,_,rfl,rfl,.inr ⟨_,rfl,_,_,rfl,rfl,?_,?_⟩⟩
  ·show atI _ ((k:Int) % 3)=_
   rw[e3]
   rcases h3 with h|h|h<;>rw[h]<;>rfl
  ·have a1:decide ((n:Int) / 26 % 4<3)=decide (n / 26 % 4<3):=by congr 1;apply propext;omega
   show PySem.MulOk _ (if decide ((n:Int) / 26 % 4<3)=true then 1 else 0)
   rcases h3 with h|h|h<;>(rw[h];cases decide ((n:Int) / 26 % 4<3)<;>exact ⟨by decide +kernel,by decide +kernel,by decide +kernel⟩)
  ·have e:Txt.mul (if k % 3=1 then "a" else "") (if decide ((n:Int) / 26 % 4<3)=true then 1 else 0)=mkS (qf8 n k):=by
    unfold qf8
    have a1:((n:Int) / 26 % 4<3)↔(n / 26 % 4<3):=by omega
    by_cases hb:n / 26 % 4<3
    ·rw[if_pos (decide_eq_true (a1.mpr hb))]
     by_cases hk1:k % 3=1
     ·rw[if_pos hk1,if_pos ⟨hk1,hb⟩];decide +kernel
     ·rw[if_neg hk1,if_neg (λz=>hk1 z.1)];decide +kernel
    ·rw[show decide ((n:Int) / 26 % 4<3)=false from decide_eq_false (λz=>hb (a1.mp z)),if_neg (c:=k % 3=1/\n / 26 % 4<3) (λz=>hb z.2)]
     by_cases hk1:k % 3=1
     ·rw[if_pos hk1];decide +kernel
     ·rw[if_neg hk1];decide +kernel
   have hl:=qaz (qfd n k)
   have hl2:=qg5 n k
   have hl3:=qaz (qf8 n k)
   have hl4:(qf8 n k).length<=1:=by unfold qf8;split<;>simp
   rw[e]
   refine ⟨_,_,rfl,rfl,ybd (by omega),?_⟩
   rw[qfe]
   exact q _ (s1.upd hp)
end
end Mw
namespace Mw
open PySem L2 PyProof.Rows Mx
structure D7(ds:List Int)(m:Nat):Prop where
 m1:1<=m
 m4:m<=4
 len:ds.length=7*m+1
 pos:∀d∈ds,0<=d
 ord:∀k,k<m->∃d,ds[7*k+1]?=some d/\d<18
theorem D7.get{ds:List Int}{m:Nat}(h:D7 ds m){i:Nat}(hi:i<7*m+1):∃d,ds[i]?=some d/\0<=d:=by
 have hl:i<ds.length:=by rw[h.len];exact hi
 exact ⟨ds[i],getElem?_eq_getElem hl,h.pos _ (getElem_mem hl)⟩
theorem D7.cut{ds:List Int}{m:Nat}(h:D7 ds m){k:Nat}(hk:k<m){r:Int}(r0:0<=r)(r3:r<3):∃ps:List Int,cutV (ds.map V.int) (some (7*(k:Int)+2)) (some (7*(k:Int)+3+r))=ps.map V.int/\1<=ps.length/\ps.length<=3/\∀p∈ps,0<=p:=by
 have hl:=h.len
 refine ⟨(ds.drop (7*k+2)).take (1+r.toNat),?_,?_,?_,λp hp=>h.pos p (List.mem_of_mem_drop (List.mem_of_mem_take hp))⟩
 ·unfold cutV
  have e1:HT.sIx (ds.map V.int).length 0 (some (7*(k:Int)+2))=7*k+2:=by
   rw[length_map,hl]
   unfold HT.sIx
   dsimp only
   rw[if_neg (by omega)]
   omega
  have e2:HT.sIx (ds.map V.int).length (ds.map V.int).length (some (7*(k:Int)+3+r))=7*k+3+r.toNat:=by
   rw[length_map,hl]
   unfold HT.sIx
   dsimp only
   rw[if_neg (by omega)]
   omega
  rw[e1,e2,show 7*k+3+r.toNat-(7*k+2)=1+r.toNat by omega,<-List.map_drop,<-List.map_take]
 ·rw[length_take,length_drop];omega
 ·rw[length_take,length_drop];omega
section
variable {P:Program}{w:World}{K:W.Frag}{mg:Str->Option Value}{base:Heap}
noncomputable def ok3(T:List Elm):Prop:=∀e∈T,e.2.length<=3
noncomputable def yfk:Sp:=λvs H Q _=>∃(a:Addr) (ds:List Int) (m:Nat),vs=[.ref a,.int m]/\H a=some (.lst (ds.map V.int))/\D7 ds m/\
 ∀p T H',Same H H'->H p=none->At H' (.ref p) (ybo T)->okT T->ok3 T->T.length<=m->Q (.ref p) H'
noncomputable abbrev yca:Stmt:=top 150
theorem qc0:FnScope ["_law_d","_law_most","_law_known","_law_test_here","_law_k","_law_steps","_law_step"] ["_law_d","_law_most"] (yac yca):=fsc
theorem ok_test7(B:Bl mg)(F:FnAt K mg "_law_test" yca ["_law_d","_law_most"]):Has P w K mg base 1 "_law_test" ["_law_d","_law_most"] yfk:=by
 refine Has.ofQ F qc0 (λvs H Q E h=>?_) (λ_ _ _ _ _ H vs Q E hr h=>?_)
 ·obtain ⟨a,ds,m,rfl,_⟩:=h
  rfl
 ·obtain ⟨a,ds,m,rfl,ha,d7,k⟩:=h
  have sc:=qc0
  refine cutA [2,2] ⟨_,qac rfl (yae (yav (qaa (ybj PySem.F.plainAttrs_list PySem.F.slot_list_append PySem.F.type_list_append qa1 (pv 3) (yab (qct (yab (ycd qaj (qdb (yab qah (yab qah (yab qah qag)))) (qbd ycc (ycd qaj (pv 0) (qbd qbe (qbd qdk yad (pv 4)) yad)) yad)) (yab (pv 5) qag))) qag)))))⟩ ?_
  intro c1
  refine cutA [2,1] ⟨_,qac rfl (qab (qb0 PassesOwn.never rfl (qgh (qaa (ybi ybm (pv 0) (qbc (qbd qbe (qbd qdk yad (pv 4)) yad)) (qbc (qbd qbe (qbd qbe (qbd qdk yad (pv 4)) yad) (qbd qa5 (ycd qaj (pv 0) (qbd qbe (qbd qdk yad (pv 4)) yad)) yad)))))) (pgn 6 sc.nd)
    (yae (qao (QW.pt (qet (qg1 (qev (pc_notN (pv 2)))) (ydz (qan yc1 (qam qa5 (qaa (pv 6)) (qaa yad)) (qaa yad) (qak _)))))
     (yae (yav (qaa (ybj PySem.F.plainAttrs_list PySem.F.slot_list_append PySem.F.type_list_append qa1 (pv 5) (yab (qct (yab qah (yab (pv 2) qag))) qag)))))
     (qab (qsE 2 sc.nd (qam qa5 (qam ycc (qaa (pv 6)) (qaa yad)) (qaa yad)))
     (yae (yav (qaa (ybj PySem.F.plainAttrs_list PySem.F.slot_list_append PySem.F.type_list_append qa1 (pv 5) (yab (qct (yab qah (yab (pv 2) qag))) qag))))))))) c1.2)⟩ ?_
  intro c2
  refine cutA [2,0] ⟨_,qac rfl (qab (qsE 5 sc.nd (yaw qad)) c2.2)⟩ ?_
  intro c3
  refine cutA [2] ⟨_,qac rfl (qab (qb0 PassesOwn.never rfl (yec (qen rfl (B.of rfl) (yab (qbd qbe yad (qbd qa5 (ycd qaj (pv 0) yad) (pv 1))) qag))) (pgn 4 sc.nd)
    c3.2) (yae (yag (qaa (pv 3)))))⟩ ?_
  intro c4
  refine ⟨_,qac rfl (qab (qsE 2 sc.nd (qaa qcv)) (qab (qsE 3 sc.nd (yaw qad)) c4.2)),?_⟩
  have m1:=d7.m1
  have m4:=d7.m4
  obtain ⟨d0,g0,p0⟩:=d7.get (i:=0) (by omega)
  refine ⟨zero_le _,λp hp=>?_⟩
  have ha1:upd H p (.lst []) a=some (.lst (ds.map V.int)):=by rw[qaf (qae ha hp)];exact ha
  have hn:∃n:Nat,(1:Int)+d0 % (m:Int)=(n:Int)/\n<=m/\1<=n:=⟨1+(d0 % (m:Int)).toNat,by have:=emod_nonneg d0 (b:=(m:Int)) (by omega);omega,by have:=emod_lt_of_pos d0 (b:=(m:Int)) (by omega);omega,by omega⟩
  obtain ⟨n,en,nm,n1⟩:=hn
  refine ⟨_,rfl,a,_,_,_,rfl,rfl,sqlO ha1,yai 0 (ybk g0),_,rfl,_,_,rfl,rfl,(by show (0:Int)<(m:Int);omega),_,_,rfl,rfl,n,(by show [V.int (1+d0 % (m:Int))]=_;rw[en]),by omega,by omega,?_⟩
  refine yei (n:=n) (λi σ H2=>∃(kn:Option Bool) (T:List Elm) (q4 q5 q6:Option V),σ=[some (.ref a),some (.int m),some (kv kn),some (.ref p),q4,q5,q6]/\Same H H2/\Bld [] H2 p (T.map qfa)/\(∀e∈T,okE e/\e.2.length<=3)/\T.length=i)
   ⟨none,[],none,none,none,rfl,(smR H).upd hp,Bld.new,(by intro e he;cases he),rfl⟩ ?_ ?_
  ·rintro i σ H2 hi ⟨kn,T,q4,q5,q6,rfl,s2,bT,okT',hTl⟩
   rw[Int.zero_add]
   obtain ⟨d1,g1,l18⟩:=d7.ord i (by omega)
   have p1:0<=d1:=d7.pos d1 (mem_of_getElem? g1)
   refine ⟨zero_le _,λl hl=>?_⟩
   have ha2:H2 a=some (.lst (ds.map V.int)):=s2 _ _ ha
   have ha3:upd H2 l (.lst []) a=some (.lst (ds.map V.int)):=by rw[qaf (qae ha2 hl)];exact ha2
   obtain ⟨ps,eps,pl0,pl1,hps⟩:=d7.cut (k:=i) (by omega) (r:=d1 % 3) (by omega) (by omega)
   refine ⟨_,rfl,_,rfl,_,_,rfl,rfl,.inl (by omega),_,_,rfl,rfl,_,rfl,_,rfl,_,_,rfl,rfl,.inl (by omega),_,_,rfl,rfl,_,rfl,_,rfl,_,_,rfl,rfl,.inl (by omega),_,_,rfl,rfl,a,_,_,_,rfl,rfl,sqlO ha3,yai (7*i+1) (ybk g1) (by omega),_,_,rfl,rfl,(by show (0:Int)<3;decide),_,_,rfl,rfl,_,rfl,a,_,rfl,sqlO ha3,λsp hsp=>?_⟩
   generalize hE:upd (upd H2 l (.lst [])) sp _=HE
   have sE:Same H2 HE:=by rw[<-hE];exact ((smR H2).upd hl).upd hsp
   have hEsp:HE sp=some (.lst (ps.map V.int)):=by rw[<-hE];exact yaa.trans (congrArg (λz=>some (HO.lst z)) eps)
   have hEl:HE l=some (.lst []):=by rw[<-hE,qaf (qae yaa hsp)];exact yaa
   have nlp:l≠p:=(qae bT.choose_spec.1 hl).symm
   have nlsp:l≠sp:=qae (o:=.lst []) yaa hsp
   have nsp:H2 sp=none:=by
    have:=hsp;rw[qaf nlsp.symm]at this;exact this
   refine ⟨sp,rfl,⟨_,sqlO hEsp⟩,yfl (xs:=ps.map V.int) (λj σ H3=>∃(kn:Option Bool) (ss:List Stp) (q6:Option V),σ=[some (.ref a),some (.int m),some (kv kn),some (.ref p),some (.int i),some (.ref l),q6]/\
    Same H2 H3/\H3 sp=some (.lst (ps.map V.int))/\Bld [p] H3 l (ss.map yfc)/\ss.length=j) ⟨kn,[],q6,rfl,sE,hEsp,⟨[],hEl,.nil⟩,rfl⟩ (λj σ H3 _ ⟨_,_,_,_,_,h,_⟩=>sqlO h) ?_ ?_⟩
   ·rintro j x σ H3 hx ⟨kn,ss,q6,rfl,s3,hsp3,bS,hsl⟩
    obtain ⟨pk,hpk,rfl⟩:=ye0 hx
    have hjl:j<ps.length:=(List.getElem?_eq_some_iff.mp hpk).1
    have put:∀{q:Addr} (sw sb:Bool) (kn':Option Bool) {o:HO}{vk:V},H3 q=none->vk=kv kn'->o=.tup [.str (qdm sw),.int (b2i sb)]->∃ys,upd H3 q o l=some (.lst ys)/\ys.length<sizeLine/\∃(kn2:Option Bool) (ss2:List Stp) (q6:Option V),[some (V.ref a),some (.int m),some vk,some (.ref p),some (.int i),some (.ref l),some (.int pk)]=[some (.ref a),some (.int m),some (kv kn2),some (.ref p),some (.int i),some (.ref l),q6]/\
     Same H2 (upd (upd H3 q o) l (.lst (ys++[.ref q])))/\upd (upd H3 q o) l (.lst (ys++[.ref q])) sp=some (.lst (ps.map V.int))/\Bld [p] (upd (upd H3 q o) l (.lst (ys++[.ref q]))) l (ss2.map yfc)/\ss2.length=j+1:=λ{q} sw sb kn' {o vk} hq hvk ho=>by
     subst hvk
     have s4:Same H3 (upd H3 q o):=(smR H3).upd hq
     have hq':upd H3 q o q=some (.tup [.str (qdm sw),.int (b2i sb)]):=by rw[yaa,ho]
     revert s4 hq'
     generalize upd H3 q o=H4
     intro s4 hq'
     have bS4:=bS.grow s4
     obtain ⟨us,hus,_⟩:=id bS4
     have hul:=bS4.len hus
     rw[length_map]at hul
     have nql:q≠l:=ne_of hq' hus (by intro z;cases z)
     have nqp:q≠p:=ne_of hq' ((bT.grow (s3.trans s4)).choose_spec.1) (by intro z;cases z)
     refine ⟨us,hus,qcm (by omega),kn',ss++[(sw,sb)],_,rfl,(s3.trans s4).at hl,?_,?_,by simp[hsl]⟩
     ·rw[qaf nlsp.symm]
      exact s4 _ _ hsp3
     ·rw[map_append]
      exact bS4.push hus (.tup (by rw[ydc (by simp[nql,nqp])];exact hq') (.cons (.str _) (.cons (.int _) .nil)))
    obtain ⟨us0,hus0,_⟩:=id bS
    have z2:(2:Nat)<=sizeLine:=by decide
    have e2:V.int (pk / 2 % 2)=kv (some (decide (pk / 2 % 2=1))):=congrArg V.int (qea _)
    refine ⟨_,rfl,_,rfl,?_⟩
    cases kn with
    |none=>
     refine iteN (by simp[kv]) (iteF ?_)
     refine ⟨_,rfl,_,_,rfl,rfl,⟨by decide,by decide⟩,_,_,rfl,rfl,(by show (0:Int)<2;decide),?_⟩
     refine ⟨_,rfl,.inl ⟨rfl,_,sqlO hus0⟩,_,rfl,z2,λq hq=>?_⟩
     obtain ⟨ys,h1,h2,h3⟩:=put true (decide (pk / 2 % 2=1)) _ hq e2 (by rw[<-qea])
     exact ⟨l,ys,.ref q,rfl,rfl,h1,h2,h3⟩
    |some kb=>
     refine iteB (by simp[kv]) ⟨_,rfl,_,_,rfl,rfl,(by show (0:Int)<2;decide),rfl,_,rfl,?_⟩
     by_cases h0:pk % 2=0
     ·refine iteB (by show decide (V.int (pk % 2)=.int 0)=true;rw[h0];rfl) ?_
      refine ⟨_,rfl,.inl ⟨rfl,_,sqlO hus0⟩,_,rfl,z2,λq hq=>?_⟩
      obtain ⟨ys,h1,h2,h3⟩:=put false kb (some kb) hq rfl rfl
      exact ⟨l,ys,.ref q,rfl,rfl,h1,h2,h3⟩
     ·refine iteN (decide_eq_false (λz=>h0 (V.int.inj z))) ?_
      refine ⟨_,rfl,_,_,rfl,rfl,⟨by decide,by decide⟩,_,_,rfl,rfl,(by show (0:Int)<2;decide),?_⟩
      refine ⟨_,rfl,.inl ⟨rfl,_,sqlO hus0⟩,_,rfl,z2,λq hq=>?_⟩
      obtain ⟨ys,h1,h2,h3⟩:=put true (decide (pk / 2 % 2=1)) _ hq e2 (by rw[<-qea])
      exact ⟨l,ys,.ref q,rfl,rfl,h1,h2,h3⟩
   ·rintro σ H3 ⟨kn3,ss,q6,rfl,s3,hsp3,bS,hsl⟩
    rw[length_map]at hsl
    have bT3:=bT.grow s3
    obtain ⟨ws,hws,_⟩:=id bT3
    have hwl:=bT3.len hws
    rw[length_map]at hwl
    obtain ⟨o,ho,hat⟩:=order_of (show 0<=d1 / 6 by omega) (show d1 / 6<3 by omega)
    refine ⟨_,rfl,.inl ⟨rfl,_,sqlO hws⟩,zl,λr hr=>?_⟩
    have hd3:upd H3 r (.lst [.str "up",.str "down",.str "any"]) a=some (.lst (ds.map V.int)):=by rw[qaf (qae (s3 _ _ ha2) hr)];exact s3 _ _ ha2
    refine ⟨_,rfl,_,rfl,_,_,rfl,rfl,.inl (by omega),_,_,rfl,rfl,a,_,_,_,rfl,rfl,sqlO hd3,yai (7*i+1) (ybk g1) (by omega),_,_,rfl,rfl,⟨by decide,by decide⟩,r,_,_,_,rfl,rfl,sqlO yaa,hat,_,rfl,zl,λe he=>?_⟩
    generalize hF:upd H3 r (.lst [.str "up",.str "down",.str "any"])=HF at he hd3
    have sF:Same H3 HF:=by rw[<-hF];exact (smR H3).upd hr
    have sG:Same H3 (upd HF e (.tup [.str o,.ref l])):=sF.upd he
    have hws2:=sG _ _ hws
    have nep:e≠p:=(qae (sF _ _ hws) he).symm
    refine ⟨p,ws,.ref e,rfl,rfl,hws2,qcm (by omega),?_⟩
    refine ⟨kn3,T++[(o,ss)],_,_,_,rfl,(s2.trans (s3.trans sG)).at hp,?_,?_,by simp[hTl]⟩
    ·rw[map_append]
     refine (bT3.grow sG).push hws2 (.tup (by rw[ydc (by simp[nep])];exact yaa) (.cons (.str _) (.cons ?_ .nil)))
     exact (bS.at (by simp[nlp])).same (qdx sG _)
    ·intro e2 he2
     rcases mem_append.mp he2 with h|h
     ·exact okT' e2 h
     ·have:e2=(o,ss):=by simpa using h
      subst this
      exact ⟨⟨ho,by show 1<=ss.length;omega,by show ss.length<=6;omega⟩,by show ss.length<=3;omega⟩
  ·rintro σ H2 ⟨kn,T,q4,q5,q6,rfl,s2,bT,okT',hTl⟩
   exact ⟨_,rfl,k p T H2 s2 hp bT.out ⟨by omega,by omega,λe he=>(okT' e he).1⟩ (λe he=>(okT' e he).2) (by omega)⟩
end
end Mw
namespace Mw
open PySem L2 PyProof.Rows Mx
theorem okT_tail{T:List Elm}(h:okT T)(h2:2<=T.length):okT T.tail:=by
 refine ⟨by rw[List.length_tail];omega,by have:=h.2.1;rw[List.length_tail];omega,λe he=>h.2.2 e (List.mem_of_mem_tail he)⟩
theorem cut1{xs:List V}:cutV xs (some 1) none=xs.tail:=by
 unfold cutV
 cases xs with
 |nil=>rfl
 |cons x r=>
  have e1:HT.sIx (x::r).length 0 (some 1)=1:=by
   unfold HT.sIx
   simp
  have e2:HT.sIx (x::r).length (x::r).length none=(x::r).length:=rfl
  rw[e1,e2]
  simp
theorem AtAll.tl{H:Hp}{vs:List V}{ds:List PyData}(h:AtAll H vs ds):AtAll H vs.tail ds.tail:=by
 cases h with
 |nil=>exact .nil
 |cons a b=>exact b
section
variable {P:Program}{w:World}{K:W.Frag}{mg:Str->Option Value}{base:Heap}
noncomputable def qfx:Sp:=λvs H Q _=>∃(a:Addr) (ds:List Int) (m:Nat),vs=[.ref a,.int m]/\H a=some (.lst (ds.map V.int))/\D7 ds m/\
 ∀p T H',Same H H'->H p=none->At H' (.ref p) (ybo T)->okT T->T.length<=4->Q (.ref p) H'
noncomputable abbrev ybr:Stmt:=top 151
theorem ych:FnScope ["_law_d","_law_most","_law_test_here"] ["_law_d","_law_most"] (yac ybr):=fsc
theorem ok_drawn(B:Bl mg)(qff:Has P w K mg base 1 "_law_test" ["_law_d","_law_most"] yfk)(F:FnAt K mg "_law_drawn" ybr ["_law_d","_law_most"]):Has P w K mg base 2 "_law_drawn" ["_law_d","_law_most"] qfx:=by
 refine Has.ofQ F ych (λvs H Q E h=>?_) (λ_ _ _ _ _ H vs Q E hr h=>?_)
 ·obtain ⟨a,ds,m,rfl,_⟩:=h
  rfl
 ·obtain ⟨a,ds,m,rfl,ha,d7,k⟩:=h
  have sc:=ych
  refine cutA [1] ⟨_,qac rfl (qab (qao (qan yc1 (qam qa5 (ya1 qaj (qaa (pv 0)) (qaa yad)) (qaa yad)) (qaa yad) (qak _))
    (yae (yag (qaa (pe_orL (ybi ybm (pv 2) (qbc yad) yco) (qdb (yab (qct (yab qah (yab (qdb (yab (qct (yab qah (yab yad qag))) qag)) qag))) qag))))))
    yaj) (yae (yag (qaa (pv 2)))))⟩ ?_
  intro c1
  refine ⟨_,qac rfl (qab (qsE 2 sc.nd (yaf qff hr (yah (qaa (pv 0)) (yah (qaa (pv 1)) qad)))) c1.2),?_⟩
  have m1:=d7.m1
  have m4:=d7.m4
  obtain ⟨d1,g1,p1⟩:=d7.get (i:=1) (by omega)
  refine ⟨_,rfl,_,rfl,a,ds,m,rfl,ha,d7,λp T H1 s1 np hT okt ok3 lm=>?_⟩
  refine ⟨_,rfl,a,_,_,_,rfl,rfl,sqlO (s1 _ _ ha),yai 1 (ybk g1),_,_,rfl,rfl,(by show (0:Int)<4;decide),rfl,_,rfl,?_⟩
  by_cases h0:d1 % 4=0
  ·refine iteB (by show decide (V.int (d1 % 4)=.int 0)=true;rw[h0];rfl) ?_
   obtain ⟨l,ws,e,hl,hw⟩:=hT.lstEq
   cases e
   have hlw:ws.length=T.length:=by have:=hw.length;rw[length_map]at this;exact this
   refine ⟨_,rfl,_,rfl,p,_,rfl,sqlO hl,λq hq=>?_⟩
   generalize hE:upd H1 q _=H2
   have s2:Same H1 H2:=by rw[<-hE];exact (smR H1).upd hq
   have f2:H2 q=some (.lst ws.tail):=by rw[<-hE];exact yaa.trans (congrArg (λz=>some (HO.lst z)) cut1)
   by_cases h2:2<=T.length
   ·refine ⟨true,.inl ⟨_,sqlO f2,?_⟩,iteT ?_⟩
    ·match ws,hlw with
     |[],h=>simp at h;omega
     |[_],h=>simp at h;omega
     |_::_::_,_=>rfl
    ·refine k q T.tail H2 (s1.trans s2) (s1.free hq) (.lst f2 ?_) (okT_tail okt h2) (by rw[List.length_tail];omega)
     rw[List.map_tail]
     exact (AtAll.tl hw).same s2
   ·refine ⟨false,.inl ⟨_,sqlO f2,?_⟩,iteF ?_⟩
    ·have:=okt.1
     match ws,hlw with
     |[],h=>rfl
     |[_],h=>rfl
     |_::_::_,h=>simp at h;omega
    ·refine ⟨zl,λb1 n1=>⟨zl,λb2 n2=>⟨zl,λb3 n3=>⟨zl,λb4 n4=>?_⟩⟩⟩⟩
     have s3:=((((s1.trans s2).upd (o:=.tup [.str "r",.int 1]) n1).upd (o:=.lst [.ref b1]) n2).upd (o:=.tup [.str "up",.ref b2]) n3).upd (o:=.lst [.ref b3]) n4
     have x1:=Same.upd (o:=.lst [.ref b1]) (smR (upd H2 b1 (.tup [.str "r",.int 1]))) n2
     have x2:=Same.upd (o:=.tup [.str "up",.ref b2]) (smR (upd (upd H2 b1 (.tup [.str "r",.int 1])) b2 (.lst [.ref b1]))) n3
     have x3:=Same.upd (o:=.lst [.ref b3]) (smR (upd (upd (upd H2 b1 (.tup [.str "r",.int 1])) b2 (.lst [.ref b1])) b3 (.tup [.str "up",.ref b2]))) n4
     refine k b4 [("up",[(false,true)])] _ s3 ?_ ?_ ⟨by decide,by decide,?_⟩ (by decide)
     ·exact ((((s1.trans s2).upd (o:=.tup [.str "r",.int 1]) n1).upd (o:=.lst [.ref b1]) n2).upd (o:=.tup [.str "up",.ref b2]) n3).free n4
     ·exact .lst yaa (.cons (.tup (x3 _ _ yaa) (.cons (.str _) (.cons (.lst (x3 _ _ (x2 _ _ yaa)) (.cons (.tup (x3 _ _ (x2 _ _ (x1 _ _ yaa))) (.cons (.str _) (.cons (.int _) .nil))) .nil)) .nil))) .nil)
     ·intro e he
      rw[mem_singleton.mp he]
      exact ⟨.inl rfl,by decide,by decide⟩
  ·refine iteN (decide_eq_false (λz=>h0 (V.int.inj z))) ?_
   exact ⟨_,rfl,k p T H1 s1 np hT okt (by omega)⟩
noncomputable def ye2(K:W.Frag):Sp:=λvs H Q _=>∃v T,vs=[v]/\AtK K H v (ybo T)/\okT T/\∀H',Same H H'->Q (.str (ttxt T)) H'
noncomputable abbrev yb9:Stmt:=top 152
theorem ycy:FnScope ["_law_test_here"] ["_law_test_here"] (yac yb9):=fsc
theorem ok_text(B:Bl mg)(F:FnAt K mg "_law_text" yb9 ["_law_test_here"]):Has P w K mg base 1 "_law_text" ["_law_test_here"] (ye2 K):=by
 refine Has.ofQ F ycy (λvs H Q E h=>?_) (λ_ _ _ _ _ H vs Q E hr h=>?_)
 ·obtain ⟨v,T,rfl,_⟩:=h
  rfl
 ·obtain ⟨v,T,rfl,hv,hT,q⟩:=h
  have hsl:(sizeLine:Nat)=16777216:=sizeLine_eq
  obtain ⟨l,ws,rfl,hl,hw⟩:=hv.lstEq
  have hln:=hw.length
  rw[length_map]at hln
  obtain ⟨t1,t8,te⟩:=id hT
  have z1:1<=sizeLine:=by decide
  have l1:(" " : Str).length=1:=by decide +kernel
  have l2:("; " : Str).length=2:=by decide +kernel
  have sc:=ycy
  refine ⟨_,qac rfl (yae (yag (qaa (ybj PySem.F.plainAttrs_str PySem.F.slot_str_join PySem.F.type_str_join qb6 qah (yab (ydl rfl (ya4 rfl) (M:=["_law_order","_law_steps"]) (ix:=[none,none]) (yce (pv 0)) (λ_ _ _ _=>(yhe (K:=K) (n:=2) rfl rfl (qau (qba (i:=0) (show List.Nodup (["_law_order","_law_steps"]:List Str) by decide +kernel) rfl (Or.inl rfl)) (qau (qba (i:=1) (show List.Nodup (["_law_order","_law_steps"]:List Str) by decide +kernel) rfl (Or.inl rfl)) yb7)))) (λ_ _ _ _=>qb5) (λ_ _ _ _=>(pe_bmK (K:=K) rfl PySem.F.plainAttrs_str PySem.F.slot_str_join PySem.F.type_str_join qb6 qah (yab (qbd ycx (qdb (yab (pv 0) qag)) (ydl rfl (ya4 rfl) (M:=["_law_word","_law_bit"]) (ix:=[none,none]) (pi_listK (K:=K) rfl (pv 1)) (λ_ _ _ _=>(yhe (K:=K) (n:=2) rfl rfl (qau (qba (i:=0) (show List.Nodup (["_law_word","_law_bit"]:List Str) by decide +kernel) rfl (Or.inl rfl)) (qau (qba (i:=1) (show List.Nodup (["_law_word","_law_bit"]:List Str) by decide +kernel) rfl (Or.inl rfl)) yb7)))) (λ_ _ _ _=>qb5) (λ_ _ _ _=>(qbd qap (pv 0) (yda qcx rfl (B.of rfl) boot_str (yab (pv 1) qag)))))) qag)))) qag))))),?_⟩
  refine ⟨rfl,_,rfl,l,rfl,⟨_,sqlO hl⟩,λD hD=>qcb (n:=ws.length) (λi H'=>Same H H'/\H' D=some (.lst (((T.take i).map etxt).map V.str))) ⟨(smR H).upd hD,yaa⟩ ?_ ?_⟩
  ·rintro H3 ⟨s3,e3⟩
   rw[hln,take_length]at e3
   have h1:=ycm (B:=35) (T.map etxt) λp hp=>by
    obtain ⟨e,he,rfl⟩:=mem_map.mp hp
    exact (qdz (te e he)).2
   refine ⟨⟨_,sqlO (s3 _ _ hl),le_refl _⟩,"; ",D,_,rfl,rfl,e3,?_,q H3 s3⟩
   rw[l2]
   simp only[length_map]at h1 ⊢
   omega
  ·rintro i H3 hi ⟨s3,e3⟩
   refine ⟨⟨_,_,sqlO (s3 _ _ hl),getElem?_eq_getElem hi⟩,?_⟩
   rintro x H4 ⟨rfl,hx⟩
   obtain ⟨d,hd,hat⟩:=hw.get (hx _ (sqlO (s3 _ _ hl)))
   obtain ⟨e,he,rfl⟩:=qbh hd
   obtain ⟨a,le,we,rfl,ha,hle,hwe⟩:=elemK (hat.same s3)
   have hwel:=hwe.length
   rw[length_map]at hwel
   have oke:=te e (mem_of_getElem? he)
   have ok6:=oke.2.2
   refine ⟨a,_,rfl,ha,rfl,_,_,rfl,_,_,rfl,rfl,?_⟩
   refine ⟨ya5.set (ya5.set (ya5.refl _) rfl) rfl,yes ?_⟩
   refine ⟨rfl,_,rfl,z1,λlo hlo=>?_⟩
   have s5:Same H4 (upd H4 lo (.lst [.str e.1])):=(smR H4).upd hlo
   have f5:=@yaa H4 lo (.lst [.str e.1])
   revert s5 f5
   generalize upd H4 lo _=H5
   intro s5 f5
   refine ⟨_,rfl,le,rfl,⟨_,sqlO (s5 _ _ hle)⟩,λD2 hD2=>qcb (n:=we.length) (λj H'=>Same H5 H'/\H' D2=some (.lst (((e.2.take j).map stxt).map V.str))) ⟨(smR H5).upd hD2,yaa⟩ ?_ ?_⟩
   ·rintro H6 ⟨s6,e6⟩
    rw[hwel,take_length]at e6
    refine ⟨⟨_,sqlO (s6 _ _ (s5 _ _ hle)),le_refl _⟩,lo,D2,_,_,rfl,rfl,s6 _ _ f5,e6,by simp;omega,λp hp=>?_⟩
    have j2:=ycm (B:=4) (e.1::e.2.map stxt) λp hp=>(qcl oke p hp).2.2
    simp only[length_cons,length_map]at j2
    have s7:Same H6 (upd H6 p (.lst ([.str e.1]++(e.2.map stxt).map V.str))):=(smR H6).upd hp
    have f7:upd H6 p (.lst ([.str e.1]++(e.2.map stxt).map V.str)) p=some (.lst ((e.1::e.2.map stxt).map V.str)):=yaa
    refine ⟨" ",p,e.1::e.2.map stxt,rfl,rfl,f7,by rw[l1,length_cons,length_map];omega,?_⟩
    have s47:=(s5.trans s6).trans s7
    refine ⟨_,s47 _ _ e3,qcm (by rw[length_map,length_map,length_take];omega),(s3.trans s47).at hD,?_⟩
    rw[yaa,List.take_add_one,he]
    simp[etxt]
   ·rintro j H6 hj ⟨s6,e6⟩
    refine ⟨⟨_,_,sqlO (s6 _ _ (s5 _ _ hle)),getElem?_eq_getElem hj⟩,?_⟩
    rintro y H7 ⟨rfl,hy⟩
    obtain ⟨d,hd,hat2⟩:=hwe.get (hy _ (sqlO (s6 _ _ (s5 _ _ hle))))
    obtain ⟨⟨sw,sb⟩,hs,rfl⟩:=qbh hd
    obtain ⟨b,rfl,hb⟩:=stepK (hat2.same (s5.trans s6))
    refine ⟨b,_,rfl,hb,rfl,_,_,rfl,_,_,rfl,rfl,?_⟩
    refine ⟨ya5.set (ya5.set (ya5.refl _) rfl) rfl,yes ?_⟩
    have w1:(qdm sw).length<=1:=by cases sw<;>decide +kernel
    have w2:(Str.ofString (toString (b2i sb))).length<=1:=by cases sb<;>decide +kernel
    refine ⟨_,rfl,_,rfl,b2i sb,rfl,by cases sb<;>decide +kernel,_,_,rfl,rfl,?_,?_⟩
    ·show (qdm sw).length+(Str.ofString (toString (b2i sb))).length<=_
     omega
    refine ⟨_,e6,qcm (by rw[length_map,length_map,length_take];omega),s6.at hD2,?_⟩
    rw[yaa,List.take_add_one,hs,yhc sb]
    simp[stxt]
end
end Mw
namespace Mw
open PySem L2 PyProof.Rows Mx
theorem SqL.same{K:W.Frag}{H H':Hp}{a:Addr}{xs:List V}(s:Same H H')(h:SqL K H a xs):SqL K H' a xs:=by
 rcases h with (h|⟨o,h⟩)|h
 ·exact .inl (.inl (s _ _ h))
 ·exact .inl (.inr ⟨o,s _ _ h⟩)
 ·exact .inr h
noncomputable def zs29:List Int:=[4,18,4,4,4,4,4,4,18,4,4,4,4,4,4,18,4,4,4,4,4,4,18,4,4,4,4,4,4]
theorem d7_of{ds:List Int}(h:Dig ds zs29):D7 ds 4:=by
 refine ⟨by decide,by decide,h.1,λd hd=>?_,λk hk=>?_⟩
 ·obtain ⟨i,hi⟩:=getElem?_of_mem hd
  have hl:i<zs29.length:=by rw[<-h.1];exact (List.getElem?_eq_some_iff.mp hi).1
  exact (h.2 i d _ hi (getElem?_eq_getElem hl)).1
 ·have:k=0\/k=1\/k=2\/k=3:=by omega
  rcases this with rfl|rfl|rfl|rfl
  ·obtain ⟨d,g,_,l⟩:=h.get (i:=1) (z:=18) rfl;exact ⟨d,g,l⟩
  ·obtain ⟨d,g,_,l⟩:=h.get (i:=8) (z:=18) rfl;exact ⟨d,g,l⟩
  ·obtain ⟨d,g,_,l⟩:=h.get (i:=15) (z:=18) rfl;exact ⟨d,g,l⟩
  ·obtain ⟨d,g,_,l⟩:=h.get (i:=22) (z:=18) rfl;exact ⟨d,g,l⟩
section
variable {P:Program}{w:World}{K:W.Frag}{mg:Str->Option Value}{base:Heap}
noncomputable def qdy(K:W.Frag):Sp:=λvs H Q _=>∃(S:Addr) (ns:List Int) (k:Nat),vs=[.ref S,.int k]/\SqL K H S (ns.map V.int)/\ns.length<=63/\k<30/\
 ∀p T H',Same H H'->H p=none->At H' (.ref p) (ybo T)->okT T->Q (.ref p) H'
noncomputable abbrev ya9:Stmt:=top 155
theorem qbt:FnScope ["_law_script","_law_k"] ["_law_script","_law_k"] (yac ya9):=fsc
theorem qf4(B:Bl mg)(ya2:Has P w K mg base 1 "_law_digits" ["_law_cell","_law_turn","_law_sizes"] qc8)(qey:Has P w K mg base 2 "_law_drawn" ["_law_d","_law_most"] qfx)(F:FnAt K mg "_law_test_at" ya9 ["_law_script","_law_k"]):Has P w K mg base 3 "_law_test_at" ["_law_script","_law_k"] (qdy K):=by
 refine Has.ofQ F qbt (λvs H Q E h=>?_) (λ_ _ _ _ _ H vs Q E hr h=>?_)
 ·obtain ⟨S,ns,k,rfl,_⟩:=h
  rfl
 ·obtain ⟨S,ns,k,rfl,hS,h63,k30,q⟩:=h
  have sc:=qbt
  refine ⟨_,qac rfl (yae (yag (yaf qey hr (qa0 (yaf ya2 hr (qdq (ya1 qaj (qam qgl (qaa (pv 0)) (qam yfw (yaw (yah (qaa (pv 1)) qad)) (qaa yad))) (qaa (pv 1))) (qar (qaa yad) (ydy (qam ycx (yaw (qar (qaa yad) qad)) (qam yfw (qam ycx (yaw (qar (qaa yad) qad)) (qam yfw (yaw (qar (qaa yad) qad)) (qaa yad))) (qaa yad))) qad)))) (qar (qaa yad) qad))))),?_⟩
  have z1:1<=sizeLine:=by decide
  refine ⟨_,rfl,_,rfl,z1,λp1 n1=>⟨p1,30,_,rfl,rfl,yaa,by decide,by decide,(by show 1*30<=sizeLine;decide),λp2 n2=>?_⟩⟩
  generalize hE:upd (upd H p1 (.lst [.int k])) p2 _=H1
  have s1:Same H H1:=by rw[<-hE];exact ((smR H).upd n1).upd n2
  have f1:H1 p2=some (.lst ((List.replicate 30 (k:Int)).map V.int)):=by rw[<-hE,yaa];rfl
  refine ⟨S,p2,_,_,rfl,rfl,SqL.same s1 hS,sqlO f1,ybd (by rw[length_map,length_map,List.length_replicate];omega),λp3 n3=>?_⟩
  generalize hE2:upd H1 p3 _=H2
  have s2:Same H1 H2:=by rw[<-hE2];exact (smR H1).upd n3
  have f2:H2 p3=some (.lst ((ns++List.replicate 30 (k:Int)).map V.int)):=by rw[<-hE2,yaa,map_append]
  clear hE hE2
  have hk:k<(ns++List.replicate 30 (k:Int)).length:=by rw[length_append,List.length_replicate];omega
  refine ⟨_,rfl,p3,_,_,_,rfl,rfl,sqlO f2,qe2 (ybk (getElem?_eq_getElem hk)),?_⟩
  refine ⟨z1,λa1 m1=>⟨z1,λa2 m2=>⟨z1,λa3 m3=>⟨a3,6,_,rfl,rfl,yaa,by decide,by decide,(by show 1*6<=sizeLine;decide),λa4 m4=>?_⟩⟩⟩⟩
  generalize hE:upd (upd (upd (upd H2 a1 _) a2 _) a3 _) a4 _=H3
  have s3:Same H2 H3:=by rw[<-hE];exact ((((smR H2).upd m1).upd m2).upd m3).upd m4
  have f4:H3 a4=some (.lst [.int 4,.int 4,.int 4,.int 4,.int 4,.int 4]):=by rw[<-hE,yaa];rfl
  have x2:=Same.upd (o:=.lst (List.replicate (6:Int).toNat [V.int 4]).flatten) (smR (upd (upd (upd H2 a1 (.lst [V.int 4])) a2 (.lst [V.int 18])) a3 (.lst [V.int 4]))) m4
  have x3:=Same.upd (o:=.lst [V.int 4]) (smR (upd (upd H2 a1 (.lst [V.int 4])) a2 (.lst [V.int 18]))) m3
  have x4:=Same.upd (o:=.lst [V.int 18]) (smR (upd H2 a1 (.lst [V.int 4]))) m2
  have f3:H3 a2=some (.lst [.int 18]):=by rw[<-hE];exact x2 _ _ (x3 _ _ yaa)
  have f5:H3 a1=some (.lst [.int 4]):=by rw[<-hE];exact x2 _ _ (x3 _ _ (x4 _ _ yaa))
  clear hE x2 x3 x4
  refine ⟨a2,a4,_,_,rfl,rfl,f3,f4,(by show 1+6<=sizeLine;decide),λa5 m5=>⟨a5,4,_,rfl,rfl,yaa,by decide,by decide,(by show 7*4<=sizeLine;decide),λa6 m6=>?_⟩⟩
  generalize hE:upd (upd H3 a5 _) a6 _=H4
  have s4:Same H3 H4:=by rw[<-hE];exact ((smR H3).upd m5).upd m6
  have f6:H4 a6=some (.lst ((zs29.tail).map V.int)):=by rw[<-hE,yaa];rfl
  clear hE
  refine ⟨a1,a6,_,_,rfl,rfl,s4 _ _ f5,f6,(by show 1+28<=sizeLine;decide),λa7 m7=>?_⟩
  generalize hE:upd H4 a7 _=H5
  have s5:Same H4 H5:=by rw[<-hE];exact (smR H4).upd m7
  have f7:H5 a7=some (.lst (zs29.map V.int)):=by rw[<-hE,yaa];rfl
  clear hE
  have s05:=(((s1.trans s2).trans s3).trans s4).trans s5
  refine ⟨_,70,a7,zs29,rfl,f7,by decide,by decide,by decide,by decide,λdd ds H6 s6 nd fd hD=>?_⟩
  refine ⟨dd,ds,4,rfl,fd,d7_of hD,λp T H7 s7 np hT okt _=>q p T H7 ((s05.trans s6).trans s7) ((s05.trans s6).free np) hT okt⟩
noncomputable def rowT(nm:Str)(T:List Elm):Str:=(("test " : Str)++nm)++" "++ttxt T
noncomputable def sp_row(K:W.Frag):Sp:=λvs H Q _=>∃(nm:Str) (v:V) (T:List Elm),vs=[.str nm,v]/\nm.length<=8/\AtK K H v (ybo T)/\okT T/\∀H',Same H H'->Q (.str (rowT nm T)) H'
noncomputable abbrev qcr:Stmt:=top 156
theorem yc9:FnScope ["_law_name_here","_law_test_here"] ["_law_name_here","_law_test_here"] (yac qcr):=fsc
theorem ok_row(qcc:Has P w K mg base 1 "_law_text" ["_law_test_here"] (ye2 K))(F:FnAt K mg "_law_row" qcr ["_law_name_here","_law_test_here"]):Has P w K mg base 2 "_law_row" ["_law_name_here","_law_test_here"] (sp_row K):=by
 refine Has.ofQ F yc9 (λvs H Q E h=>?_) (λ_ _ _ _ _ H vs Q E hr h=>?_)
 ·obtain ⟨nm,v,T,rfl,_⟩:=h
  rfl
 ·obtain ⟨nm,v,T,rfl,h8,hv,okt,q⟩:=h
  have sc:=yc9
  refine ⟨_,qac rfl (yae (yag (qam qap (qam qap (qam qap (qaa qah) (qaa (pv 0))) (qaa qah)) (yaf qcc hr (yah (qaa (pv 1)) qad))))),?_⟩
  have e5:("test " : Str).length=5:=by decide +kernel
  have e1:(" " : Str).length=1:=by decide +kernel
  have et:=qfu okt
  refine ⟨_,rfl,_,_,rfl,rfl,ybd (by omega),_,_,rfl,rfl,ybd (by rw[Str.length_append];omega),_,rfl,v,T,rfl,hv,okt,λH1 s1=>⟨_,_,rfl,rfl,ybd (by rw[Str.length_append,Str.length_append];omega),q H1 s1⟩⟩
end
end Mw
namespace L2
open PySem PySem.Spec PyProof.Rows
noncomputable def tNevE:TE:=λ_ _ _=>False
theorem qfw{X:Cx}{e:Expr}:PE X e tNevE:=λ_ _ _ _ _ _ h=>False.elim h
end L2
namespace Mw
open PySem L2 PyProof.Rows Mx
theorem bl1:(" " : Str)=⟨#[32]⟩:=by decide +kernel
theorem yf2(t:Str):∀p∈Txt.split t " ",32∉p.cps.toList:=by
 rw[bl1]
 exact StrLaws.split_free t 32
theorem yfq(ps:List Str)(h0:ps≠[])(h:∀p∈ps,32∉p.cps.toList):Txt.split (Str.join " " ps) " "=ps:=ybv " " 32 [] (by decide +kernel) (by decide +kernel) ps h0 h
theorem qgs(y a:Str)(l:List Str)(h:l≠[]):Str.join y (a::l)=a++y++Str.join y l:=by
 cases l with
 |nil=>exact absurd rfl h
 |cons b r=>rfl
theorem ycq(a t:Str)(ha:32∉a.cps.toList):Txt.split (a++" "++t) " "=a::Txt.split t " ":=by
 have h:=yfq (a::Txt.split t " ") (by simp) λp hp=>by
  rcases mem_cons.mp hp with rfl|hp
  ·exact ha
  ·exact yf2 t p hp
 rw[qgs _ _ _ (qc5 t " "),StrLaws.join_split]at h
 exact h
theorem ydj(a:Str)(ha:32∉a.cps.toList):Txt.split a " "=[a]:=yfq [a] (by simp) λp hp=>by rw[mem_singleton.mp hp];exact ha
theorem yep{l:List Nat}(h:qa4 l=true):32∉(mkS l).cps.toList:=by
 unfold qa4 at h
 rw[Bool.and_eq_true,all_eq_true]at h
 intro hm
 have:=h.2 32 (by simpa [mkS] using hm)
 simp at this
theorem qa3{l:List Nat}(h:qa4 l=true):0<l.length/\l.length<=8:=by
 unfold qa4 at h
 rw[Bool.and_eq_true,decide_eq_true_eq]at h
 exact h.1
theorem good_abc:∀c,97<=c/\c<123->Txt.contains "abcdefghijklmnopqrstuvwxyz" ⟨#[c]⟩=true:=by
 intro c h
 obtain ⟨k,rfl⟩:∃k,c=97+k:=⟨c-97,by omega⟩
 have hk:k<26:=by omega
 have:∀k,k<26->Txt.contains "abcdefghijklmnopqrstuvwxyz" ⟨#[97+k]⟩=true:=by decide +kernel
 exact this k hk
theorem test_bl:("test " : Str)=("test" : Str)++(" " : Str):=by decide +kernel
theorem show_bl:("show " : Str)=("show" : Str)++(" " : Str):=by decide +kernel
theorem drop_bl:("drop " : Str)=("drop" : Str)++(" " : Str):=by decide +kernel
theorem qhe{l:List Nat}(h:qa4 l=true)(t:Str):Txt.split (("test " : Str)++mkS l++" "++t) " "=("test" : Str)::mkS l::Txt.split t " ":=by
 rw[test_bl,Str.append_assoc,Str.append_assoc,<-Str.append_assoc (mkS l)]
 rw[ycq _ _ (by decide +kernel),ycq _ _ (yep h)]
theorem ye8:Txt.split "names" " "=[("names" : Str)]:=ydj _ (by decide +kernel)
section
variable {P:Program}{w:World}{K:W.Frag}{mg:Str->Option Value}{base:Heap}
noncomputable def qd3:Sp:=λvs H Q _=>vs=[.bl true]/\Q .non H
noncomputable abbrev qbk:Stmt:=top 132
theorem yb1:FnScope ["is_one"] ["is_one"] (yac qbk):=fsc
theorem ok_lrow(F:FnAt K mg "look_at_row" qbk ["is_one"]):Has P w K mg base 1 "look_at_row" ["is_one"] qd3:=by
 refine Has.ofQ F yb1 (λvs H Q E h=>?_) (λ_ _ _ _ _ H vs Q E hr h=>?_)
 ·obtain ⟨rfl,_⟩:=h
  rfl
 ·obtain ⟨rfl,k⟩:=h
  have sc:=yb1
  refine ⟨_,qac rfl (yae (qao (qcz (ygk (qaa (pv 0))))
    (yae (qby yci))
    yaj)),?_⟩
  exact ⟨_,rfl,true,rfl,iteF k⟩
noncomputable def qcn:Sp:=λvs H Q _=>∃l,vs=[.str (mkS l)]/\qa4 l=true/\∀H',Same H H'->Q (.bl true) H'
noncomputable abbrev ydd:Stmt:=top 133
theorem ydw:FnScope ["word"] ["word"] (yac ydd):=fsc
theorem yf6(B:Bl mg)(yf7:mg "all"=none)(ydp:∃t,mg "MOST_LETTERS"=some (.int 8 t))(g_L:∃t,mg "LETTERS_desk"=some (.str "abcdefghijklmnopqrstuvwxyz" t))(F:FnAt K mg "is_name" ydd ["word"]):Has P w K mg base 1 "is_name" ["word"] qcn:=by
 obtain ⟨tL,gL⟩:=g_L
 refine Has.ofQ F ydw (λvs H Q E h=>?_) (λ_ _ _ _ _ H vs Q E hr h=>?_)
 ·obtain ⟨l,rfl,_⟩:=h
  rfl
 ·obtain ⟨l,rfl,hg,k⟩:=h
  have sc:=ydw
  refine ⟨_,qac rfl (yae (yag (qaa (qa2 (yax qfj (qas qcu rfl (B.of rfl) boot_len (yab (pv 0) qag)) yad (qak _)) (qa2 (yax op_le (qas qcu rfl (B.of rfl) boot_len (yab (pv 0) qag)) (qb4 ydp) (qak _)) (ybe (qas (yey rfl) rfl yf7 qed (yab (ydl rfl (ya4 rfl) (M:=["sign"]) (ix:=[none]) (pi_str (pv 0)) (λ_ _ _ _=>(qba (i:=0) (show List.Nodup (["sign"]:List Str) by decide +kernel) rfl (Or.inl rfl))) (λ_ _ _ _=>qb5) (λ_ _ _ _=>(yax op_inS (pv 0) (yaq (v:=.str "abcdefghijklmnopqrstuvwxyz") rfl gL ⟨tL,rfl⟩) (by with_unfolding_all rfl)))) qag)))))))),?_⟩
  obtain ⟨h1,h8⟩:=qa3 hg
  have hl:=qaz l
  have hsz:(mkS l).cps.size=l.length:=by simp[mkS]
  have hc:∀(i c:Nat),(mkS l).cps[i]?=some c->97<=c/\c<123:=λi c h=>by
   unfold qa4 at hg
   rw[Bool.and_eq_true,all_eq_true]at hg
   have h':l[i]?=some c:=by simpa [mkS] using h
   simpa using hg.2 c (mem_of_getElem? h')
  have hall:(mkS l).cps.all (· < 128)=true:=by
   rw[Array.all_eq_true]
   intro i hi
   have:=hc i _ (Array.getElem?_eq_getElem hi)
   simp
   omega
  refine ⟨_,rfl,_,rfl,ybd (by omega),_,_,rfl,rfl,_,rfl,iteD (by omega) ?_⟩
  refine ⟨_,rfl,_,rfl,ybd (by omega),_,_,rfl,rfl,_,rfl,iteD (by omega) ?_⟩
  refine ⟨_,rfl,_,rfl,hall,λD hD=>qcb (n:=(mkS l).cps.size) (λi H'=>Same H H'/\H' D=some (.lst ((List.replicate i true).map V.bl))) ⟨(smR H).upd hD,yaa⟩ ?_ ?_⟩
  ·rintro H3 ⟨s3,e3⟩
   refine ⟨le_refl _,D,_,rfl,e3,?_⟩
   have:(List.replicate (mkS l).cps.size true).all id=true:=by simp
   rw[this]
   exact k H3 s3
  ·rintro i H3 hi ⟨s3,e3⟩
   refine ⟨hi,?_⟩
   rintro x H4 ⟨rfl,c,hci,rfl⟩
   refine ⟨ya5.set (ya5.refl _) rfl,yes ⟨_,rfl,_,_,rfl,rfl,?_⟩⟩
   rw[good_abc c (hc i c hci)]
   refine ⟨_,e3,qcm (by rw[length_map,List.length_replicate];omega),s3.at hD,?_⟩
   rw[yaa,List.replicate_succ',map_append]
   rfl
noncomputable def qeh:Sp:=λvs H Q _=>∃(p:Addr) (ss:List Str),vs=[.ref p,.str " "]/\H p=some (.lst (ss.map V.str))/\(ss.map (·.length)).sum<=1000/\ss.length<=100/\Q (.str (if ss=[] then "-" else Str.join " " ss)) H
noncomputable abbrev yd1:Stmt:=top 140
theorem qeo:FnScope ["words","sign"] ["words","sign"] (yac yd1):=fsc
theorem yg5(B:Bl mg)(F:FnAt K mg "joined" yd1 ["words","sign"]):Has P w K mg base 1 "joined" ["words","sign"] qeh:=by
 refine Has.ofQ F qeo (λvs H Q E h=>?_) (λ_ _ _ _ _ H vs Q E hr h=>?_)
 ·obtain ⟨p,ss,rfl,_⟩:=h
  rfl
 ·obtain ⟨p,ss,rfl,hp,hs,hl,k⟩:=h
  have sc:=qeo
  refine ⟨_,qac rfl (yae (yag (yfu (qan qfj (qai qav rfl (B.of rfl) boot_len (yah (qaa (pv 0)) qad)) (qaa yad) (qak _)) (qaa (ybj PySem.F.plainAttrs_str PySem.F.slot_str_join PySem.F.type_str_join qb6 (pv 1) (yab (pv 0) qag))) (qaa qah)))),?_⟩
  refine ⟨_,rfl,p,_,rfl,.inl (sqlO hp),_,_,rfl,rfl,_,rfl,?_⟩
  cases ss with
  |nil=>
   rw[if_pos rfl]at k
   exact iteDN (by simp) k
  |cons a r=>
   rw[if_neg (by simp)]at k
   have e1:(" " : Str).length=1:=by decide +kernel
   refine iteD (by simp) ⟨_,rfl,rfl,_,rfl," ",p,_,rfl,rfl,hp,?_,k⟩
   rw[e1]
   have:(sizeLine:Nat)=16777216:=sizeLine_eq
   omega
end
end Mw
namespace Mw
open PySem L2 PyProof.Rows Mx
theorem ydg:∀s:Stp,ya0 (stxt s)=some s:=by
 rintro ⟨w,b⟩
 cases w<;>cases b<;>decide +kernel
theorem okOb_of{o:Str}(h:okO o):okOb o=true:=qdt h
theorem qec{e:Elm}(h:okE e):elOf (etxt e)=some e:=by
 unfold elOf wd
 rw[qf0 h]
 have hf:(e.2.map stxt).filterMap ya0=e.2:=by
  rw[List.filterMap_map]
  have:(ya0 ∘ stxt)=some:=funext ydg
  rw[this]
  exact List.filterMap_some
 have hg:qdh (e.1::e.2.map stxt)=true:=by
  unfold qdh
  rw[show (e.1::e.2.map stxt).headD ""=e.1 from rfl,show (e.1::e.2.map stxt).tail=e.2.map stxt from rfl,okOb_of h.1,decide_eq_true (by rw[length_map];exact h.2)]
  simp[ydg]
 rw[if_pos hg]
 show some (e.1,(e.2.map stxt).filterMap ya0)=some e
 rw[hf]
theorem rd_map:∀(T:List Elm) (i:Nat),i+T.length<=8->(∀e∈T,okE e)->rdF i (T.map etxt)=.inr T
 |[],i,_,_=>rfl
 |e::T,i,h,he=>by
  rw[map_cons,yc5,qec (he e (by simp))]
  simp only[length_cons]at h
  rw[rd_map T (i+1) (by omega) λx hx=>he x (by simp[hx])]
  simp only
  rw[if_neg (by omega)]
theorem ye1{T:List Elm}(h:okT T):rdF 0 (Txt.split (ttxt T) "; ")=.inr T:=by
 rw[qf1 h]
 exact rd_map T 0 (by have:=h.2.1;omega) h.2.2
theorem qhb:rdF 0 (Txt.split "up w0; up" "; ")=.inl 1:=by
 have e:("up w0; up" : Str)=Str.join "; " [("up w0" : Str),("up" : Str)]:=by decide +kernel
 rw[e,ybv "; " 59 [32] (by decide +kernel) (by decide +kernel) _ (by simp) λp hp=>by
  rcases mem_cons.mp hp with rfl|hp
  ·decide +kernel
  ·rw[mem_singleton.mp hp];decide +kernel]
 have a1:("up w0" : Str)=etxt ("up",[(true,false)]):=by decide +kernel
 have o1:okE ("up",[(true,false)]):=⟨.inl rfl,by decide,by decide⟩
 have a2:elOf "up"=none:=by
  unfold elOf wd
  rw[ydj _ (by decide +kernel),if_neg (by decide +kernel)]
 rw[a1,yc5,qec o1]
 simp only
 rw[if_neg (by decide),yc5,a2]
noncomputable abbrev Bk:=List (Str×List Elm)
noncomputable def bget(bk:Bk)(nm:Str):Option (List Elm):=(bk.find? λe=>decide (e.1=nm)).map (·.2)
noncomputable def bput(bk:Bk)(nm:Str)(T:List Elm):Bk:=if (bk.any λe=>decide (e.1=nm))=true then bk.map (λe=>if e.1=nm then (e.1,T) else e) else bk++[(nm,T)]
noncomputable def ycg(bk:Bk)(nm:Str):Bk:=bk.filter λe=>decide (e.1≠nm)
structure Ent(K:W.Frag)(H:Hp)(e:Str×List Elm)(kv:Key×V):Prop where
 k:kv.1=.inr e.1
 v:∃p,kv.2=.ref p/\AtK K H (.ref p) (ybo e.2)
structure BkOk(bk:Bk):Prop where
 len:bk.length<=21
 nd:(bk.map (·.1)).Nodup
 ok:∀e∈bk,okT e.2
 nm:∀e∈bk,∃l,e.1=mkS l/\qa4 l=true
noncomputable def Book(K:W.Frag)(H:Hp)(bk:Bk)(kvs:List (Key×V)):Prop:=Paired (Ent K H) bk kvs
section
variable {K:W.Frag}{H H':Hp}{bk:Bk}{kvs:List (Key×V)}{nm:Str}{T:List Elm}
theorem Book.lt(h:Book K H bk kvs)(s:LT H H'):Book K H' bk kvs:=Paired.mapP h λe kv x=>⟨x.k,let ⟨p,a,b⟩:=x.v;⟨p,a,b.lt s⟩⟩
theorem Book.keys(h:Book K H bk kvs):kvs.map (·.1)=(bk.map (·.1)).map Sum.inr:=by
 induction h with
 |nil=>rfl
 |cons r _ ih=>simp only[map_cons,r.k];rw[ih]
theorem Book.len(h:Book K H bk kvs):kvs.length=bk.length:=by have:=congrArg List.length h.keys;simpa using this
theorem Book.get(h:Book K H bk kvs)(nm:Str):(bget bk nm=none/\valV kvs (.inr nm)=none)\/∃T p,bget bk nm=some T/\valV kvs (.inr nm)=some (.ref p)/\AtK K H (.ref p) (ybo T):=by
 induction h with
 |nil=>exact .inl ⟨rfl,rfl⟩
 |@cons e kv bk kvs r _ ih=>
  obtain ⟨p,hp,hat⟩:=r.v
  by_cases he:e.1=nm
  ·refine .inr ⟨e.2,p,?_,?_,hat⟩
   ·unfold bget;rw[find?_cons,decide_eq_true he];rfl
   ·rw[qc3 (by rw[r.k,he]),hp]
  ·have h1:bget (e::bk) nm=bget bk nm:=by unfold bget;rw[find?_cons,decide_eq_false he]
   have h2:valV (kv::kvs) (.inr nm)=valV kvs (.inr nm):=yc4 (by rw[r.k];exact λz=>he (Sum.inr.inj z))
   rw[h1,h2]
   exact ih
theorem Book.any(h:Book K H bk kvs)(nm:Str):(kvs.any λkv=>decide (kv.1=.inr nm))=bk.any λe=>decide (e.1=nm):=by
 induction h with
 |nil=>rfl
 |@cons e kv bk kvs r _ ih=>
  rw[any_cons,any_cons,ih,r.k]
  congr 1
  by_cases he:e.1=nm<;>simp[he]
theorem Book.repl(h:Book K H bk kvs){p:Addr}(hp:AtK K H (.ref p) (ybo T)):Book K H (bk.map λe=>if e.1=nm then (e.1,T) else e) (kvs.map λkv=>if kv.1=.inr nm then (kv.1,.ref p) else kv):=by
 induction h with
 |nil=>exact .nil
 |@cons e kv bk kvs r t ih=>
  refine .cons ?_ ih
  by_cases he:e.1=nm
  ·simp only[if_pos he,r.k,he,if_true]
   exact ⟨rfl,p,rfl,hp⟩
  ·simp only[if_neg he]
   rw[if_neg (by rw[r.k];exact λz=>he (Sum.inr.inj z))]
   exact r
theorem Book.snoc(h:Book K H bk kvs){p:Addr}(hp:AtK K H (.ref p) (ybo T)):Book K H (bk++[(nm,T)]) (kvs++[(.inr nm,.ref p)]):=by
 induction h with
 |nil=>exact .cons ⟨rfl,p,rfl,hp⟩ .nil
 |cons r _ ih=>exact .cons r ih
theorem Book.put(h:Book K H bk kvs){p:Addr}(hp:AtK K H (.ref p) (ybo T)):Book K H (bput bk nm T) (putK kvs (.inr nm) (.ref p)):=by
 unfold bput putK
 rw[h.any nm]
 split
 ·exact h.repl hp
 ·exact h.snoc hp
theorem Book.drop(h:Book K H bk kvs)(nm:Str):Book K H (ycg bk nm) (qek kvs (.inr nm)):=by
 unfold ycg qek
 induction h with
 |nil=>exact .nil
 |@cons e kv bk kvs r t ih=>
  by_cases he:e.1=nm
  ·rw[List.filter_cons_of_neg (by simp[he]),List.filter_cons_of_neg (by simp[r.k,he])]
   exact ih
  ·rw[List.filter_cons_of_pos (by simp[he]),List.filter_cons_of_pos (by simp[r.k,he])]
   exact .cons r ih
end
theorem yeb{bk:Bk}{nm:Str}{T:List Elm}(h:bget bk nm=some T):(nm,T)∈bk:=by
 unfold bget at h
 obtain ⟨e,he,rfl⟩:=Option.map_eq_some_iff.mp h
 have h1:=List.mem_of_find?_eq_some he
 have h2:=List.find?_some he
 rw[<-of_decide_eq_true h2]
 exact h1
theorem qew{bk:Bk}{nm:Str}(h:bget bk nm=none):nm∉bk.map (·.1):=by
 unfold bget at h
 rw[Option.map_eq_none_iff,List.find?_eq_none]at h
 intro hm
 obtain ⟨e,he,rfl⟩:=mem_map.mp hm
 exact h e he (by simp)
theorem qee{bk:Bk}{nm:Str}(h:nm∈bk.map (·.1)):∃T,bget bk nm=some T:=by
 cases hb:bget bk nm with
 |some T=>exact ⟨T,rfl⟩
 |none=>exact absurd h (qew hb)
theorem bany{bk:Bk}{nm:Str}:(bk.any λe=>decide (e.1=nm))=true↔nm∈bk.map (·.1):=by
 rw[List.any_eq_true,mem_map]
 constructor
 ·rintro ⟨e,he,h⟩;exact ⟨e,he,of_decide_eq_true h⟩
 ·rintro ⟨e,he,h⟩;exact ⟨e,he,decide_eq_true h⟩
theorem ycf{bk:Bk}{nm:Str}{T:List Elm}(h:nm∈bk.map (·.1)):(bput bk nm T).map (·.1)=bk.map (·.1):=by
 unfold bput
 rw[if_pos (bany.mpr h),List.map_map]
 refine List.map_congr_left λe _=>?_
 show (if e.1=nm then (e.1,T) else e).1=e.1
 split<;>rfl
theorem qc4{bk:Bk}{nm:Str}{T:List Elm}(h:nm∉bk.map (·.1)):bput bk nm T=bk++[(nm,T)]:=by
 unfold bput
 rw[if_neg (λz=>h (bany.mp z))]
theorem yfx{bk:Bk}{nm:Str}{T:List Elm}{e:Str×List Elm}(h:e∈bput bk nm T):e∈bk\/e=(nm,T):=by
 unfold bput at h
 split at h
 ·obtain ⟨x,hx,rfl⟩:=mem_map.mp h
  split
  ·rename_i hx2;exact .inr (by rw[hx2])
  ·exact .inl hx
 ·rcases mem_append.mp h with h|h
  ·exact .inl h
  ·exact .inr (mem_singleton.mp h)
theorem BkOk.put{bk:Bk}{l:List Nat}{T:List Elm}(h:BkOk bk)(hl:qa4 l=true)(hT:okT T)(hr:mkS l∈bk.map (·.1)\/bk.length<=20):BkOk (bput bk (mkS l) T):=by
 refine ⟨?_,?_,λe he=>?_,λe he=>?_⟩
 ·by_cases hm:mkS l∈bk.map (·.1)
  ·have:=congrArg List.length (ycf (T:=T) hm)
   simp only[length_map]at this
   rw[this];exact h.len
  ·rw[qc4 hm]
   rcases hr with hr|hr
   ·exact absurd hr hm
   ·simp;omega
 ·by_cases hm:mkS l∈bk.map (·.1)
  ·rw[ycf hm];exact h.nd
  ·rw[qc4 hm,map_append]
   exact yga h.nd hm
 ·rcases yfx he with he|rfl
  ·exact h.ok e he
  ·exact hT
 ·rcases yfx he with he|rfl
  ·exact h.nm e he
  ·exact ⟨l,rfl,hl⟩
theorem BkOk.drop{bk:Bk}(h:BkOk bk)(nm:Str):BkOk (ycg bk nm):=by
 refine ⟨le_trans (List.length_filter_le _ _) h.len,?_,λe he=>h.ok e (mem_filter.mp he).1,λe he=>h.nm e (mem_filter.mp he).1⟩
 exact List.Sublist.nodup (List.Sublist.map _ List.filter_sublist) h.nd
end Mw
namespace Mw
open PySem L2 PyProof.Rows Mx
theorem qe_callX{X:Cx}{e:Expr}{es:List Expr}{t:TA}{pos p:Pos}{x:Str}{E:XK}{k n:Nat}{ps:List Str}{sp:Sp}(h:HasX X.prog X.w X.K X.mg X.base k x ps sp)(hx:yb0 (CX1 X.prog X.w) X E)(hr:Room n X.A)(ha:QA X (e::es) t)(hk:k<=n:=by decide)(hg:Gl X x:=by rfl)
  (hdb:(x == ("__debug__" : Str))=false:=by decide) (he:starEach (e::es) X.env=(false,eval e X.env)::starEach es X.env:=by rfl) (hpl:(backTo pos (starEach es X.env)).any (·.1)=false:=by rfl):QE X (.Call (.Name x p) (e::es) [] pos) (qg9 sp [] E t):=⟨pe_callX h hx hr ha.of hk hg hdb he hpl⟩
theorem len0{α:Type}{P:List α->Prop}(h:P []):∀us,us.length=0->P us
 |[],_=>h
theorem lenS{α:Type}{n:Nat}{P:List α->Prop}(h:∀a l,l.length=n->P (a::l)):∀us,us.length=n+1->P us
 |a::l,e=>h a l (Nat.succ.inj e)
theorem qg4{X:Cx}{sts:List Stmt}:QSs X sts yg4:=⟨yf9⟩
noncomputable def fsD(F:Addr):List (Str×V):=[("kept",.ref F)]
structure CD(K:W.Frag)(C:Addr):Prop where
 c:Cls K C
 nk:ydf K C "kept"
theorem lkD{F:Addr}:(fsD F).lookup ("kept" : Str)=some (V.ref F):=by
 unfold fsD
 rw[lookup_cons,show (("kept" : Str) == "kept")=true by decide +kernel]
theorem ydm{F:Addr}{f:Str}(h1:(f == ("kept" : Str))=false:=by decide +kernel):(fsD F).lookup f=none:=by
 unfold fsD
 rw[lookup_cons,h1]
 rfl
noncomputable def LKp(H H':Hp)(F:Addr):Prop:=∀b u,b≠F->H b=some u->H' b=some u
theorem LKp.of{H H':Hp}{F:Addr}(s:Same H H'):LKp H H' F:=λb u _ e=>s _ _ e
theorem LKp.trans{H H1 H2:Hp}{F:Addr}(a:LKp H H1 F)(b:LKp H1 H2 F):LKp H H2 F:=λx u h e=>b x u h (a x u h e)
theorem LKp.lt{H H':Hp}{F:Addr}{kvs:List (Key×V)}(k:LKp H H' F)(h:H F=some (.dK kvs)):LT H H':=by
 refine ⟨λa xs e=>k _ _ (λz=>by subst z;rw[h]at e;cases e) e,λa xs e=>?_⟩
 rcases e with e|⟨o,e⟩
 ·exact .inl (k _ _ (λz=>by subst z;rw[h]at e;cases e) e)
 ·exact .inr ⟨o,k _ _ (λz=>by subst z;rw[h]at e;cases e) e⟩
structure DeskO(K:W.Frag)(H:Hp)(C x F:Addr)(bk:Bk):Prop where
 o:∃dx,H x=some (.ins C dx (fsD F))
 b:∃kvs,H F=some (.dK kvs)/\Book K H bk kvs
 ok:BkOk bk
theorem DeskO.same{K:W.Frag}{H H':Hp}{C x F:Addr}{bk:Bk}(d:DeskO K H C x F bk)(s:Same H H'):DeskO K H' C x F bk:=by
 obtain ⟨⟨dx,ho⟩,⟨kvs,hF,hb⟩,ok⟩:=d
 exact ⟨⟨dx,s _ _ ho⟩,⟨kvs,s _ _ hF,hb.lt (LT.of s)⟩,ok⟩
theorem DeskO.lt{K:W.Frag}{H H':Hp}{C x F:Addr}{bk:Bk}(d:DeskO K H C x F bk)(s:LT H H')(hx:∀u,H x=some u->H' x=some u)(hF:∀u,H F=some u->H' F=some u):DeskO K H' C x F bk:=by
 obtain ⟨⟨dx,ho⟩,⟨kvs,h,hb⟩,ok⟩:=d
 exact ⟨⟨dx,hx _ ho⟩,⟨kvs,hF _ h,hb.lt s⟩,ok⟩
section
variable {P:Program}{w:World}{K:W.Frag}{mg:Str->Option Value}{base:Heap}{C:Addr}
noncomputable def yen(K:W.Frag)(C:Addr):Sp:=λvs H Q _=>∃x dx,vs=[.ref x]/\H x=some (.ins C dx [])/\∀F H',LKp H H' x->H F=none->DeskO K H' C x F []->Q .non H'
noncomputable abbrev yal:Stmt:=qdf (top 146) 0
theorem ybl:FnScope ["self"] ["self"] (yac yal):=fsc
theorem qg7(cd:CD K C)(F:yb2 K C "__init__" "Desk.__init__" yal ["self"]):HasM P w K mg base C 1 "__init__" ["self"] (yen K C):=by
 refine HasM.ofQ F ybl (λvs H Q E h=>?_) (λ_ _ _ _ _ H vs Q E hr h=>?_)
 ·obtain ⟨x,dx,rfl,_⟩:=h
  rfl
 ·obtain ⟨x,dx,rfl,hx,k⟩:=h
  have sc:=ybl
  refine ⟨_,qac rfl (yae (qs_fld (qaa (pv 0)) (qaa qfs) rfl)),?_⟩
  refine λF nF=>?_
  have hxF:x≠F:=qae hx nF
  generalize hG4:upd H F _=H4
  have s4:Same H H4:=by rw[<-hG4];exact (smR H).upd nF
  have f4:H4 F=some (.dK []):=by rw[<-hG4];exact yaa
  clear hG4
  refine ⟨_,rfl,x,C,dx,_,rfl,s4 _ _ hx,cd.c,cd.nk,by simp,?_⟩
  refine k F _ (λb u h e=>by rw[qaf h];exact s4 _ _ e) nF ⟨⟨dx,by rw[yaa];rfl⟩,⟨[],by rw[qaf hxF.symm];exact f4,.nil⟩,⟨by simp,List.nodup_nil,(λe h=>nomatch h),(λe h=>nomatch h)⟩⟩
noncomputable def yft:Sp:=λvs H Q _=>∃x:Str,vs=[.str x,.int 0]/\x≠"tells"/\Q (.bl true) H
noncomputable abbrev yba:Stmt:=top 144
theorem ybt:FnScope ["word","count"] ["word","count"] (yac yba):=fsc
theorem ok_count(yez:∃t,mg "MOST_HARMS"=some (.int 3 t))(F:FnAt K mg "is_count_for" yba ["word","count"]):Has P w K mg base 1 "is_count_for" ["word","count"] yft:=by
 refine Has.ofQ F ybt (λvs H Q E h=>?_) (λ_ _ _ _ _ H vs Q E hr h=>?_)
 ·obtain ⟨x,rfl,_⟩:=h
  rfl
 ·obtain ⟨x,rfl,hx,k⟩:=h
  have sc:=ybt
  refine ⟨_,qac rfl (yae (yag (yfu (qan yc1 (qaa (pv 0)) (qaa qah) (qak _)) (qaa (qa2 (yax qfj (pv 1) yad (qak _)) (ybe (yax op_le (pv 1) (qb4 yez) (qak _))))) (qeb yc1 (qaa (pv 1)) (qaa yad) (qak _))))),?_⟩
  refine ⟨_,rfl,rfl,_,rfl,iteN (decide_eq_false (λz=>hx (V.str.inj z))) ?_⟩
  exact ⟨_,rfl,rfl,k⟩
noncomputable def yds(K:W.Frag):Sp:=λvs H Q _=>∃(v h:V) (T:List Elm),vs=[v,.str "show",h]/\AtK K H v (ybo T)/\okT T/\∀H',Same H H'->Q (.str (ttxt T)) H'
noncomputable abbrev ydi:Stmt:=top 145
theorem qdu:FnScope ["test","word","harms"] ["test","word","harms"] (yac ydi):=fsc
theorem qf2(yge:Has P w K mg base 6 "written" ["test"] (qdr K))(F:FnAt K mg "said_of" ydi ["test","word","harms"]):Has P w K mg base 7 "said_of" ["test","word","harms"] (yds K):=by
 refine Has.ofQ F qdu (λvs H Q E h=>?_) (λ_ _ _ _ _ H vs Q E hr h=>?_)
 ·obtain ⟨v,h,T,rfl,_⟩:=h
  rfl
 ·obtain ⟨v,h,T,rfl,hv,okt,k⟩:=h
  have sc:=qdu
  refine ⟨_,(qac rfl (qab (qao (qan yc1 (qaa (pv 1)) (qaa qah) (qak _))
    (yae (yag (yaf yge hr (yah (qaa (pv 0)) qad))))
    yaj) qg4)),?_⟩
  exact ⟨_,rfl,rfl,_,rfl,iteB (by decide +kernel) ⟨_,rfl,v,T,rfl,hv,okt,k⟩⟩
end
end Mw
namespace Mw
open PySem L2 PyProof.Rows Mx
theorem cut1S{xs:List Str}:cutV (xs.map V.str) (some 1) none=xs.tail.map V.str:=by rw[cut1,List.map_tail]
section
variable {P:Program}{w:World}{K:W.Frag}{mg:Str->Option Value}{base:Heap}{C:Addr}
noncomputable def yfv(K:W.Frag)(C CT CM:Addr):Sp:=λvs H Q E=>∃(x F wl:Addr) (bk:Bk) (l:List Nat) (t:Str),vs=[.ref x,.ref wl]/\DeskO K H C x F bk/\H wl=some (.lst ((mkS l::Txt.split t " ").map V.str))/\qa4 l=true/\t.length<=1000/\
 (∀n,rdF 0 (Txt.split t "; ")=.inl n->∀a H',Same H H'->XAt H' a CT [("element",.int n)]->E (.ref a) none H')/\
 (∀T,rdF 0 (Txt.split t "; ")=.inr T->(mkS l∈bk.map (·.1)\/bk.length≠20)->bk.length<=20/\∀H',LKp H H' F->DeskO K H' C x F (bput bk (mkS l) T)->Q (.str "ok") H')/\
 (∀T,rdF 0 (Txt.split t "; ")=.inr T->mkS l∉bk.map (·.1)->bk.length=20->∀a H',Same H H'->XAt H' a CM []->E (.ref a) none H')
noncomputable abbrev qal:Stmt:=qdf (top 146) 2
theorem qbl:FnScope ["self","words","test"] ["self","words"] (yac qal):=fsc
theorem ok_stest{CT CM:Addr}(B:Bl mg)(cd:CD K C)(xM:XBare K mg "TooMany" CM)(yeq:∃t,mg "MOST_NAMES"=some (.int 20 t))(qaq:Has P w K mg base 1 "look_at_row" ["is_one"] qd3)(qdl:Has P w K mg base 1 "is_name" ["word"] qcn)(h_read:HasX P w K mg base 3 "read" ["text"] (yfm K CT))
  (F:yb2 K C "say_test" "Desk.say_test" qal ["self","words"]):qc6 P w K mg base C 4 "say_test" ["self","words"] (yfv K C CT CM):=by
 refine qc6.of F qbl (λvs H Q E h=>?_) (λ_ _ _ _ _ H vs Q E hr h=>?_)
 ·obtain ⟨x,F,wl,bk,l,t,rfl,_⟩:=h
  rfl
 ·obtain ⟨x,F,wl,bk,l,t,rfl,dk,hwl,hg,ht,q1,q2,q3⟩:=h
  have hne:=qc5 t " "
  have hj:=StrLaws.join_split t " "
  have hw:=split_weight t " " (by decide +kernel)
  revert hwl hne hj hw
  generalize Txt.split t " "=ws
  intro hwl hne hj hw
  have z1:1<=sizeLine:=by decide
  have sc:=qbl
  refine cutA [2] ⟨_,qac rfl (qab (qao (QW.pt (qet (qg1 (qev (qel (yd0 hr) (QE.of (ya1 qaj (qaa (pv 1)) (qaa yad))) (QE.of (qdc (qaa (pv 0)) rfl))) (by with_unfolding_all rfl))) (ydz (qan yc1 (qai ygi rfl (B.of rfl) boot_len (qa_at (qdc (qaa (pv 0)) rfl) qad)) (qaa (qb4 yeq)) (qak _)))))
    (yae (qby (yd6 (pe_x0 xM (yab qah qag)))))
    yaj) (qab (qby (yd2 (yd0 hr) (QE.of (qdc (qaa (pv 0)) rfl)) (QE.of (ya1 qaj (qaa (pv 1)) (qaa yad))) (QE.of (qaa (pv 2))) rfl)) (yae (yag (qaa qah)))))⟩ ?_
  intro c1
  refine ⟨_,qac rfl (qab (yav (yaf qaq hr (yfd (qaa (qa2 (yax qfj (qas qav rfl (B.of rfl) boot_len (yab (pv 1) qag)) yad (qak _)) (ybe (qaw qdl hr (yab (ycd qaj (pv 1) yad) qag))))) qad))) (qab (qsE 2 sc.nd (qe_callX h_read passX hr (qa0 (qaa (ybj PySem.F.plainAttrs_str PySem.F.slot_str_join PySem.F.type_str_join qb6 qah (yab (ybi ybm (pv 1) (qbc yad) yco) qag))) qad))) c1.2)),?_⟩
  subst hj
  have hlw:∃b r,ws=b::r:=by
   cases ws with
   |nil=>exact absurd rfl hne
   |cons b r=>exact ⟨b,r,rfl⟩
  have hws:1<=ws.length:=List.length_pos_iff.mpr hne
  have eL:(((mkS l::ws).map V.str).length:Int)=ws.length+1:=by simp
  refine ⟨_,rfl,wl,_,rfl,.inl (sqlO hwl),_,_,rfl,rfl,_,rfl,iteD (by rw[eL];omega) ?_⟩
  refine ⟨_,rfl,wl,_,_,_,rfl,rfl,sqlO hwl,yai 0 rfl,l,rfl,hg,λH1 s1=>⟨rfl,?_⟩⟩
  refine ⟨rfl,_,rfl,_,rfl,wl,_,rfl,sqlO (s1 _ _ hwl),λq hq=>?_⟩
  generalize hE:upd H1 q _=H2
  have s2:Same H1 H2:=by rw[<-hE];exact (smR H1).upd hq
  have f2:H2 q=some (.lst (ws.map V.str)):=by rw[<-hE];exact yaa.trans (congrArg (λz=>some (HO.lst z)) cut1S)
  clear hE
  have s02:=s1.trans s2
  have e1:(" " : Str).length=1:=by decide +kernel
  have hsl:(sizeLine:Nat)=16777216:=sizeLine_eq
  refine ⟨" ",q,ws,rfl,rfl,f2,by rw[e1];omega,?_⟩
  refine ⟨_,rfl,.inl ⟨_,rfl,by omega,λn hn a H' s' xa=>q1 n hn a H' (s02.trans s') xa,λT hT p H3 s3 hat okt=>?_⟩⟩
  have s03:=s02.trans s3
  have dk3:=dk.same s03
  have hwl3:=s03 _ _ hwl
  obtain ⟨⟨dx,ho⟩,⟨kvs,hF,hb⟩,ok⟩:=id dk3
  refine ⟨_,rfl,wl,_,_,_,rfl,rfl,sqlO hwl3,yai 0 rfl,_,rfl,x,C,dx,_,_,rfl,ho,cd.c,cd.nk,lkD,F,_,rfl,DGet.k (k:=.inr (mkS l)) hF,_,rfl,?_⟩
  have fin:bk.length<=20->(∀H',LKp H H' F->DeskO K H' C x F (bput bk (mkS l) T)->Q (.str "ok") H')->(mkS l∈bk.map (·.1)\/bk.length<=20)->∀{R:Prop},((∃a H4,V.ref F=.ref a/\DPut H3 a (kV (.inr (mkS l))) (.ref p) H4/\Q (.str "ok") H4)->R)->R:=λh20 hq hr' R k=>by
   refine k ⟨F,_,rfl,DPut.k hF (qcm (by rw[hb.len];omega)),?_⟩
   have kp:LKp H3 (upd H3 F (.dK (putK kvs (.inr (mkS l)) (.ref p)))) F:=λb u h e=>by rw[qaf h];exact e
   have lt:=kp.lt hF
   refine hq _ ((LKp.of s03).trans kp) ⟨⟨dx,kp _ _ (λz=>by rw[z,hF]at ho;cases ho) ho⟩,⟨_,yaa,(hb.put hat).lt lt⟩,ok.put hg okt hr'⟩
  rcases hb.get (mkS l) with ⟨g1,g2⟩|⟨T0,p0,g1,g2,_⟩
  ·have hni:=qew g1
   rw[g2]
   refine iteB rfl ⟨_,rfl,x,C,dx,_,_,rfl,ho,cd.c,cd.nk,lkD,F,_,rfl,hF,rfl,_,rfl,?_⟩
   by_cases h20:bk.length=20
   ·refine iteB (decide_eq_true (by rw[hb.len,h20];rfl)) ⟨z1,λa ha=>⟨a,CM,none,rfl,xM.2.2.1,yaa,?_⟩⟩
    rw[upd_upd]
    exact q3 T hT hni h20 a _ (s03.upd ha) (.inr (.inr (.inl ⟨rfl,yaa⟩)))
   ·obtain ⟨hl,hq⟩:=q2 T hT (.inr h20)
    refine iteN (decide_eq_false (λz=>h20 (by rw[hb.len]at z;have:=V.int.inj z;omega))) ?_
    refine fin hl hq (.inr hl) λh=>⟨_,rfl,_,rfl,x,C,dx,_,_,rfl,ho,cd.c,cd.nk,lkD,_,rfl,wl,_,_,_,rfl,rfl,sqlO hwl3,yai 0 rfl,h⟩
  ·have hin:mkS l∈bk.map (·.1):=mem_map.mpr ⟨_,yeb g1,rfl⟩
   obtain ⟨hl,hq⟩:=q2 T hT (.inl hin)
   rw[g2]
   refine iteN rfl (iteF ?_)
   refine fin hl hq (.inl hin) λh=>⟨_,rfl,_,rfl,x,C,dx,_,_,rfl,ho,cd.c,cd.nk,lkD,_,rfl,wl,_,_,_,rfl,rfl,sqlO hwl3,yai 0 rfl,h⟩
end
end Mw
namespace Mw
open PySem L2 PyProof.Rows Mx
section
variable {P:Program}{w:World}{K:W.Frag}{mg:Str->Option Value}{base:Heap}{C:Addr}
noncomputable def sp_sof(K:W.Frag)(C:Addr):Sp:=λvs H Q _=>∃(x F wl:Addr) (bk:Bk) (wd:Str) (l:List Nat) (T:List Elm),vs=[.ref x,.str wd,.ref wl]/\DeskO K H C x F bk/\H wl=some (.lst [.str (mkS l)])/\qa4 l=true/\bget bk (mkS l)=some T/\(wd="drop"\/wd="show")/\
 (wd="drop"->∀H',LKp H H' F->DeskO K H' C x F (ycg bk (mkS l))->Q (.str "ok") H')/\(wd="show"->∀H',Same H H'->Q (.str (ttxt T)) H')
noncomputable abbrev yap:Stmt:=qdf (top 146) 3
theorem qb1:FnScope ["self","word","words","harms"] ["self","word","words"] (yac yap):=fsc
theorem ok_sof(B:Bl mg)(cd:CD K C)(yf7:mg "all"=none)(qaq:Has P w K mg base 1 "look_at_row" ["is_one"] qd3)(qdl:Has P w K mg base 1 "is_name" ["word"] qcn)(ydo:Has P w K mg base 1 "is_count_for" ["word","count"] yft)(yg7:Has P w K mg base 7 "said_of" ["test","word","harms"] (yds K))
  (F:yb2 K C "say_of" "Desk.say_of" yap ["self","word","words"]):HasM P w K mg base C 8 "say_of" ["self","word","words"] (sp_sof K C):=by
 refine HasM.ofQ F qb1 (λvs H Q E h=>?_) (λ_ _ _ _ _ H vs Q E hr h=>?_)
 ·obtain ⟨x,F,wl,bk,wd,l,T,rfl,_⟩:=h
  rfl
 ·obtain ⟨x,F,wl,bk,wd,l,T,rfl,dk,hwl,hg,hget,hwd,q1,q2⟩:=h
  have sc:=qb1
  refine cutA [5] ⟨_,qac rfl (qab (qao (qan yc1 (qaa (pv 1)) (qaa qah) (qak _))
    (qab (yav (qaa (yfs (QE.of (qdc (qaa (pv 0)) rfl)) (ycd qaj (pv 2) yad) ⟨rfl,rfl,rfl,rfl⟩)))
    (yae (yag (qaa qah))))
    yaj) (yae (yag (yaf yg7 hr (qdq (qg8 (yd0 hr) (qdc (qaa (pv 0)) rfl) (ya1 qaj (qaa (pv 2)) (qaa yad)) (λ_ _=>rfl)) (yah (qaa (pv 1)) (yah (qaa (pv 3)) qad)))))))⟩ ?_
  intro c1
  refine cutA [4] ⟨_,qac rfl (qab (qao (qg1 (qev (qel (yd0 hr) (QE.of (ya1 qaj (qaa (pv 2)) (qaa yad))) (QE.of (qdc (qaa (pv 0)) rfl))) (by with_unfolding_all rfl)))
    (yae (qby yci))
    yaj) c1.2)⟩ ?_
  intro c2
  refine cutA [2] ⟨_,qac rfl (qab (yav (yaf qaq hr (qa0 (qai (yey rfl) rfl yf7 qed (qa_lc (qaa (ydl rfl (ya4 rfl) (M:=["harm"]) (ix:=[none]) (yce (pv 3)) (λ_ _ _ _=>(qba (i:=0) (show List.Nodup (["harm"]:List Str) by decide +kernel) rfl (Or.inl rfl))) (λ_ _ _ _=>qb5) (λ_ _ _ _=>qfw))) qad)) qad))) (qab (yav (yaf qaq hr (qa0 (yaf ydo hr (yah (qaa (pv 1)) (qa0 (qai qav rfl (B.of rfl) boot_len (yah (qaa (pv 3)) qad)) qad))) qad))) c2.2))⟩ ?_
  intro c3
  refine ⟨_,qac rfl (qab (yav (yaf qaq hr (yfd (qaa (qa2 (yax qfj (qas qav rfl (B.of rfl) boot_len (yab (pv 2) qag)) yad (qak _)) (ybe (qaw qdl hr (yab (ycd qaj (pv 2) yad) qag))))) qad))) (qab (qby (qgu (i:=3) rfl sc.nd rfl (Or.inl rfl) rfl (ya4 rfl) (M:=["part"]) (ix:=[none]) (yce (ybi ybm (pv 2) (qbc yad) yco)) (λ_ _ _ _=>(qba (i:=0) (show List.Nodup (["part"]:List Str) by decide +kernel) rfl (Or.inl rfl))) (λ_ _ _ _=>qb5) (λ_ _ _ _=>qfw))) c3.2)),?_⟩
  refine ⟨_,rfl,wl,_,rfl,.inl (sqlO hwl),_,_,rfl,rfl,_,rfl,iteD (by simp) ?_⟩
  refine ⟨_,rfl,wl,_,_,_,rfl,rfl,sqlO hwl,yai 0 rfl,l,rfl,hg,λH1 s1=>⟨rfl,?_⟩⟩
  refine ⟨_,rfl,_,rfl,wl,_,rfl,sqlO (s1 _ _ hwl),λq hq=>?_⟩
  generalize hE:upd H1 q _=H2
  have s2:Same H1 H2:=by rw[<-hE];exact (smR H1).upd hq
  have f2:H2 q=some (.lst []):=by rw[<-hE];exact yaa.trans (congrArg (λz=>some (HO.lst z)) cut1)
  clear hE
  refine ⟨q,rfl,⟨_,sqlO f2⟩,λD hD=>qcb (n:=0) (λi H'=>Same H2 H'/\H' D=some (.lst [])) ⟨(smR H2).upd hD,yaa⟩ ?_ ?_⟩
  rotate_left
  ·intro i _ hi
   exact absurd hi (Nat.not_lt_zero _)
  rintro H3 ⟨s3,e3⟩
  refine ⟨⟨_,sqlO (s3 _ _ f2),le_refl _⟩,?_⟩
  refine ⟨_,rfl,D,rfl,⟨_,sqlO e3⟩,λD2 hD2=>qcb (n:=0) (λi H'=>Same H3 H'/\H' D2=some (.lst ([].map V.bl))) ⟨(smR H3).upd hD2,yaa⟩ ?_ ?_⟩
  rotate_left
  ·intro i _ hi
   exact absurd hi (Nat.not_lt_zero _)
  rintro H4 ⟨s4,e4⟩
  refine ⟨⟨_,sqlO (s4 _ _ e3),le_refl _⟩,D2,[],rfl,e4,rfl,?_⟩
  have s04:=((s1.trans s2).trans s3).trans s4
  refine ⟨_,rfl,_,rfl,D,_,rfl,.inl (sqlO (s4 _ _ e3)),wd,rfl,?_,rfl,?_⟩
  ·rcases hwd with rfl|rfl<;>decide +kernel
  have dk4:=dk.same s04
  have hwl4:=s04 _ _ hwl
  obtain ⟨⟨dx,ho⟩,⟨kvs,hF,hb⟩,ok⟩:=id dk4
  rcases hb.get (mkS l) with ⟨g1,_⟩|⟨T0,p0,g1,g2,hat⟩
  ·rw[hget]at g1;cases g1
  rw[hget]at g1
  cases g1
  have okt:=ok.ok _ (yeb hget)
  refine ⟨_,rfl,wl,_,_,_,rfl,rfl,sqlO hwl4,yai 0 rfl,_,rfl,x,C,dx,_,_,rfl,ho,cd.c,cd.nk,lkD,F,_,rfl,DGet.k (k:=.inr (mkS l)) hF,_,rfl,?_⟩
  rw[g2]
  refine iteN rfl ?_
  refine ⟨_,rfl,rfl,_,rfl,?_⟩
  rcases hwd with rfl|rfl
  ·refine iteB (by decide +kernel) ?_
   refine ⟨_,rfl,x,C,dx,_,_,rfl,ho,cd.c,cd.nk,lkD,F,rfl,.inl ⟨_,.inl hF⟩,_,rfl,wl,_,_,_,rfl,rfl,sqlO hwl4,yai 0 rfl,kvs,.inr (mkS l),_,hF,rfl,g2,?_⟩
   have kp:LKp H4 (upd H4 F (.dK (qek kvs (.inr (mkS l))))) F:=λb u h e=>by rw[qaf h];exact e
   exact q1 rfl _ ((LKp.of s04).trans kp) ⟨⟨dx,kp _ _ (λz=>by rw[z,hF]at ho;cases ho) ho⟩,⟨_,yaa,(hb.drop _).lt (kp.lt hF)⟩,ok.drop _⟩
  ·refine iteN (by decide +kernel) ?_
   refine ⟨_,rfl,x,C,dx,_,_,rfl,ho,cd.c,cd.nk,lkD,_,rfl,wl,_,_,_,rfl,rfl,sqlO hwl4,yai 0 rfl,F,_,rfl,?_,_,rfl,_,rfl,_,_,T,rfl,hat,okt,λH5 s5=>q2 rfl H5 (s04.trans s5)⟩
   rw[<-g2]
   exact DGet.k (k:=.inr (mkS l)) hF
end
end Mw
namespace Mw
open PySem L2 PyProof.Rows Mx
noncomputable def badR(nm:Str):Str:=("test " : Str)++nm++" up w0; up"
noncomputable def namS(ss:List Str):Str:=if ss=[] then "-" else Str.join " " ss
theorem badR_is(nm:Str):badR nm=("test " : Str)++nm++" "++"up w0; up":=by
 unfold badR
 rw[show (" up w0; up" : Str)=(" " : Str)++("up w0; up" : Str) by decide +kernel,<-Str.append_assoc]
theorem sum8{bk:Bk}(ok:BkOk bk){ss:List Str}(hp:ss.Perm (bk.map (·.1))):(ss.map (·.length)).sum<=168/\ss.length<=21:=by
 have hl:ss.length<=21:=by rw[hp.length_eq,length_map];exact ok.len
 have:=ycm (B:=8) ss λp hm=>by
  obtain ⟨e,he,rfl⟩:=mem_map.mp (hp.mem_iff.mp hm)
  obtain ⟨l,e1,hg⟩:=ok.nm e he
  rw[e1,qaz]
  exact (qa3 hg).2
 exact ⟨by omega,hl⟩
section
variable {P:Program}{w:World}{K:W.Frag}{mg:Str->Option Value}{base:Heap}{C:Addr}
noncomputable def yex(K:W.Frag)(C CT CM:Addr):Sp:=λvs H Q E=>∃(x F:Addr) (bk:Bk) (row:Str),vs=[.ref x,.str row]/\DeskO K H C x F bk/\
  ((∃l T,row=rowT (mkS l) T/\qa4 l=true/\okT T/\bk.length<=20/\((mkS l∈bk.map (·.1)\/bk.length≠20)->∀H',LKp H H' F->DeskO K H' C x F (bput bk (mkS l) T)->Q (.str "ok") H')/\(mkS l∉bk.map (·.1)->bk.length=20->∀a H',Same H H'->XAt H' a CM []->E (.ref a) none H'))\/
   (∃l,row=badR (mkS l)/\qa4 l=true/\∀a H',Same H H'->XAt H' a CT [("element",.int 1)]->E (.ref a) none H')\/
   (row="names"/\∀ss H',Same H H'->ss.Perm (bk.map (·.1))->sortedS ss=true->Q (.str (namS ss)) H')\/
   (∃l T,row=("show " : Str)++mkS l/\qa4 l=true/\bget bk (mkS l)=some T/\∀H',Same H H'->Q (.str (ttxt T)) H')\/
   (∃l T,row=("drop " : Str)++mkS l/\qa4 l=true/\bget bk (mkS l)=some T/\∀H',LKp H H' F->DeskO K H' C x F (ycg bk (mkS l))->Q (.str "ok") H'))
noncomputable abbrev qax:Stmt:=qdf (top 146) 1
theorem qdi:FnScope ["self","row","words"] ["self","row"] (yac qax):=fsc
theorem ok_say{CT CM:Addr}(B:Bl mg)(cd:CD K C)(qe4:GTup K mg "OF_A_NAME" [.str "drop",.str "show",.str "sure",.str "kinds",.str "tells"])(qaq:Has P w K mg base 1 "look_at_row" ["is_one"] qd3)(h_joined:Has P w K mg base 1 "joined" ["words","sign"] qeh)(h_stest:qc6 P w K mg base C 4 "say_test" ["self","words"] (yfv K C CT CM))(h_sof:HasM P w K mg base C 8 "say_of" ["self","word","words"] (sp_sof K C))
  (F:yb2 K C "say" "Desk.say" qax ["self","row"]):qc6 P w K mg base C 9 "say" ["self","row"] (yex K C CT CM):=by
 refine qc6.of F qdi (λvs H Q E h=>?_) (λ_ _ _ _ _ H vs Q E hr h=>?_)
 ·obtain ⟨x,F,bk,row,rfl,_⟩:=h
  rfl
 ·obtain ⟨x,F,bk,row,rfl,dk,h⟩:=h
  have sc:=qdi
  refine cutA [6] ⟨_,qac rfl (qab (yav (yaf qaq hr (qa_cp (qeb (op_eqD hr) (qaa (pv 2)) (yaw (qar (qaa qah) qad)) (qak _)) qad))) (yae (yag (yaf h_joined hr (qa0 (qai (yb3 rfl) rfl (B.of rfl) qbs (qa_at (qdc (qaa (pv 0)) rfl) qad)) (qar (qaa qah) qad))))))⟩ ?_
  intro c1
  refine cutA [4] ⟨_,qac rfl (qab (qao (qan yc1 (ya1 qaj (qaa (pv 2)) (qaa yad)) (qaa qah) (qak _))
    (yae (yag (qaa qfw)))
    yaj) (qab (qao (qan yc1 (ya1 qaj (qaa (pv 2)) (qaa yad)) (qaa qah) (qak _))
    (yae (yag (qaa qfw)))
    yaj) c1.2))⟩ ?_
  intro c2
  refine cutA [3] ⟨_,qac rfl (qab (qao (qan yck (ya1 qaj (qaa (pv 2)) (qaa yad)) (qaa (qd6 qe4)) (by with_unfolding_all rfl))
    (yae (yag (qfk cd.c (HasM.x h_sof) passX hr (qaa (pv 0)) (qdq (ya1 qaj (qaa (pv 2)) (qaa yad)) (qdq (qe_sl ybm (qaa (pv 2)) (qbc yad) yco) qad)))))
    yaj) c2.2)⟩ ?_
  intro c3
  refine cutA [1] ⟨_,qac rfl (qab (qsE 2 sc.nd (qe_bm PySem.F.plainAttrs_str PySem.F.slot_str_split PySem.F.type_str_split qd8 (qaa (pv 1)) (qar (qaa qah) qad))) (qab (qao (qan yc1 (ya1 qaj (qaa (pv 2)) (qaa yad)) (qaa qah) (qak _))
    (yae (yag (qfk cd.c h_stest passX hr (qaa (pv 0)) (qdq (qe_sl ybm (qaa (pv 2)) (qbc yad) yco) qad))))
    yaj) c3.2))⟩ ?_
  intro c4
  refine ⟨_,qac rfl (qab (yav (yaf qaq hr (qa0 (qai qbu rfl (B.of rfl) boot_isinstance (yah (qaa (pv 1)) (yah (qaa (qbr (v:=.ty "str") rfl (B.of rfl) boot_str rfl)) qad))) qad))) c4.2),?_⟩
  obtain ⟨⟨dx,ho⟩,⟨kvs,hF,hb⟩,ok⟩:=id dk
  have hsl:(sizeLine:Nat)=16777216:=sizeLine_eq
  have z1:1<=sizeLine:=by decide
  have e5:("test " : Str).length=5:=by decide +kernel
  have e5b:("show " : Str).length=5:=by decide +kernel
  have e5c:("drop " : Str).length=5:=by decide +kernel
  have e1:(" " : Str).length=1:=by decide +kernel
  have gl8:∀{l:List Nat},qa4 l=true->(mkS l).length<=8:=λh=>by rw[qaz];exact (qa3 h).2
  have h':(∃(l:List Nat) (t:Str),row=("test " : Str)++mkS l++" "++t/\qa4 l=true/\t.length<=1000/\
    (∀n,rdF 0 (Txt.split t "; ")=.inl n->∀a H',Same H H'->XAt H' a CT [("element",.int n)]->E (.ref a) none H')/\
    (∀T,rdF 0 (Txt.split t "; ")=.inr T->(mkS l∈bk.map (·.1)\/bk.length≠20)->bk.length<=20/\∀H',LKp H H' F->DeskO K H' C x F (bput bk (mkS l) T)->Q (.str "ok") H')/\
    (∀T,rdF 0 (Txt.split t "; ")=.inr T->mkS l∉bk.map (·.1)->bk.length=20->∀a H',Same H H'->XAt H' a CM []->E (.ref a) none H'))\/
   (row="names"/\∀ss H',Same H H'->ss.Perm (bk.map (·.1))->sortedS ss=true->Q (.str (namS ss)) H')\/
   (∃l wd T,row=wd++(" " : Str)++mkS l/\qa4 l=true/\bget bk (mkS l)=some T/\(wd="drop"\/wd="show")/\
    (wd="drop"->∀H',LKp H H' F->DeskO K H' C x F (ycg bk (mkS l))->Q (.str "ok") H')/\(wd="show"->∀H',Same H H'->Q (.str (ttxt T)) H')):=by
   rcases h with ⟨l,T,e,hg,okt,h20,k1,k2⟩|⟨l,e,hg,k⟩|h|⟨l,T,e,hg,hb,k⟩|⟨l,T,e,hg,hb,k⟩
   ·refine .inl ⟨l,ttxt T,e,hg,by have:=qfu okt;omega,λn hn=>?_,λT' hT=>?_,λT' hT=>?_⟩
    ·rw[ye1 okt]at hn;cases hn
    ·rw[ye1 okt]at hT;cases hT;exact λhc=>⟨h20,k1 hc⟩
    ·rw[ye1 okt]at hT;cases hT;exact k2
   ·refine .inl ⟨l,"up w0; up",by rw[e,badR_is],hg,by decide +kernel,λn hn=>?_,λT' hT=>?_,λT' hT=>?_⟩
    ·rw[qhb]at hn;cases hn;exact k
    ·rw[qhb]at hT;cases hT
    ·rw[qhb]at hT;cases hT
   ·exact .inr (.inl h)
   ·exact .inr (.inr ⟨l,"show",T,by rw[e,show_bl],hg,hb,.inr rfl,(λz=>absurd z (by decide +kernel)),λ_=>k⟩)
   ·exact .inr (.inr ⟨l,"drop",T,by rw[e,drop_bl],hg,hb,.inl rfl,(λ_=>k),λz=>absurd z (by decide +kernel)⟩)
  clear h
  refine ⟨_,rfl,_,_,_,_,rfl,.str row,rfl,rfl,?_⟩
  have hlen:row.length<=1100:=by
   rcases h' with ⟨l,t,e,hg,ht,_⟩|⟨e,_⟩|⟨l,wd,T,e,hg,_,hw,_⟩
   ·have:=gl8 hg
    rw[e,Str.length_append,Str.length_append,Str.length_append];omega
   ·rw[e];decide +kernel
   ·have:=gl8 hg
    have hw4:wd.length<=4:=by rcases hw with rfl|rfl<;>decide +kernel
    rw[e,Str.length_append,Str.length_append];omega
  refine ⟨_,rfl,rfl,row," ",rfl,rfl,(by decide +kernel),by omega,λp1 f1=>?_⟩
  generalize hE:upd H p1 _=H1
  have s1:Same H H1:=by rw[<-hE];exact (smR H).upd f1
  have a1:H1 p1=some (.lst ((Txt.split row " ").map V.str)):=by rw[<-hE];exact yaa
  clear hE
  rcases h' with ⟨l,t,rfl,hg,ht,q1,q2,q3⟩|⟨rfl,k⟩|⟨l,wd,T,rfl,hg,hget,hw,k1,k2⟩
  ·rw[qhe hg]at a1
   refine ⟨_,rfl,p1,_,_,_,rfl,rfl,sqlO a1,yai 0 rfl,rfl,_,rfl,iteB (by decide +kernel) ?_⟩
   refine ⟨_,rfl,x,dx,_,rfl,s1 _ _ ho,ydm,?_⟩
   refine ⟨_,rfl,_,rfl,p1,_,rfl,sqlO a1,λq hq=>?_⟩
   generalize hE:upd H1 q _=H2
   have s2:Same H1 H2:=by rw[<-hE];exact (smR H1).upd hq
   have f2:H2 q=some (.lst ((mkS l::Txt.split t " ").map V.str)):=by rw[<-hE];exact yaa.trans (congrArg (λz=>some (HO.lst z)) cut1S)
   clear hE
   have s02:=s1.trans s2
   exact ⟨x,F,q,bk,l,t,rfl,dk.same s02,f2,hg,ht,λn hn a H' s'=>q1 n hn a H' (s02.trans s'),λT hT hc=>⟨(q2 T hT hc).1,λH' k'=>(q2 T hT hc).2 H' ((LKp.of s02).trans k')⟩,λT hT hc h20 a H' s'=>q3 T hT hc h20 a H' (s02.trans s')⟩
  ·rw[ye8]at a1
   refine ⟨_,rfl,p1,_,_,_,rfl,rfl,sqlO a1,yai 0 rfl,rfl,_,rfl,iteN (by decide +kernel) ?_⟩
   refine ⟨_,rfl,p1,_,_,_,rfl,rfl,sqlO a1,yai 0 rfl,λaL hL=>⟨aL,_,rfl,.inr (hL _),rfl,rfl,_,rfl,iteN (by decide +kernel) ?_⟩⟩
   refine ⟨_,rfl,p1,_,_,_,rfl,rfl,sqlO a1,yai 0 rfl,rfl,_,rfl,iteN (by decide +kernel) ?_⟩
   refine ⟨_,rfl,p1,_,_,_,rfl,rfl,sqlO a1,yai 0 rfl,rfl,_,rfl,iteN (by decide +kernel) ?_⟩
   refine ⟨_,rfl,z1,λp2 f2=>?_⟩
   have s2:=(smR H1).upd (o:=.lst [V.str "names"]) f2
   refine ⟨.list [.str "names"],.list [.str "names"],.lst (s2 _ _ a1) (.cons (.str _) .nil),.lst yaa (.cons (.str _) .nil),by decide +kernel,by decide +kernel,by decide +kernel,by decide +kernel,?_⟩
   have dk2:=dk.same (s1.trans s2)
   revert dk2 s2
   generalize upd H1 p2 _=H2
   intro s2 dk2
   obtain ⟨⟨dx2,ho2⟩,⟨kvs2,hF2,hb2⟩,_⟩:=id dk2
   refine ⟨_,rfl,x,C,dx2,_,_,rfl,ho2,cd.c,cd.nk,lkD,F,kvs2,bk.map (·.1),rfl,.inl hF2,hb2.keys,by rw[length_map];have:=ok.len;omega,λp3 ns f3 hp hs=>?_⟩
   obtain ⟨c1,c2⟩:=sum8 ok hp
   exact ⟨p3,ns,rfl,yaa,by omega,by omega,k ns _ ((s1.trans s2).upd f3) hp hs⟩
  ·have hwf:32∉wd.cps.toList:=by rcases hw with rfl|rfl<;>decide +kernel
   rw[ycq _ _ hwf,ydj _ (yep hg)]at a1
   refine ⟨_,rfl,p1,_,_,_,rfl,rfl,sqlO a1,yai 0 rfl,rfl,_,rfl,iteN (by rcases hw with rfl|rfl<;>decide +kernel) ?_⟩
   refine ⟨_,rfl,p1,_,_,_,rfl,rfl,sqlO a1,yai 0 rfl,λaL hL=>⟨aL,_,rfl,.inr (hL _),rfl,rfl,_,rfl,iteB (by rcases hw with rfl|rfl<;>decide +kernel) ?_⟩⟩
   refine ⟨_,rfl,x,dx,_,rfl,s1 _ _ ho,ydm,?_⟩
   refine ⟨_,rfl,p1,_,_,_,rfl,rfl,sqlO a1,yai 0 rfl,_,rfl,_,rfl,p1,_,rfl,sqlO a1,λq hq=>?_⟩
   generalize hE:upd H1 q _=H2
   have s2:Same H1 H2:=by rw[<-hE];exact (smR H1).upd hq
   have f2:H2 q=some (.lst [V.str (mkS l)]):=by rw[<-hE];exact yaa.trans (congrArg (λz=>some (HO.lst z)) cut1S)
   clear hE
   have s02:=s1.trans s2
   exact ⟨x,F,q,bk,wd,l,T,rfl,dk.same s02,f2,hg,hget,hw,λz H' k'=>k1 z H' ((LKp.of s02).trans k'),λz H' s'=>k2 z H' (s02.trans s')⟩
end
end Mw
namespace Mw
open PySem L2 PyProof.Rows Mx
theorem nil_go{σ:L2.St}{H:Hp}{Q:List V->Hp->Prop}(h:Q [] H):tNil σ H Q:=h
theorem boot_VE:bootBuiltins "ValueError"=some (.type "ValueError"):=by decide +kernel
noncomputable def nms:List Str:=["NoTest","NoText","NoHarms","NoMemory","NoAddress","NoBit","NoOrders","NotSure","NoKind","NoSpares","NoRow","NoName","TooMany"]
noncomputable def yd4:List Str:=["row","name","text","sure","harms","many"]
noncomputable def tru(j:Nat):List Bool:=[decide (10=j),decide (11=j),decide (1=j),decide (7=j),decide (2=j),decide (12=j),decide (0=j),decide (8=j),decide (3=j),decide (6=j),decide (4=j),decide (5=j),decide (9=j)]
theorem tru1:(tru 1).count true=1:=by decide
theorem tru12:(tru 12).count true=1/\(tru 12)[5]?=some true/\∀m,m<5->(tru 12)[m]?≠some true:=by decide +kernel
theorem ite_f{c A B:Prop}[Decidable c](h:¬ c)(b:B):if c then A else B:=by rw[if_neg h];exact b
theorem ite_t{c A B:Prop}[Decidable c](h:c)(b:A):if c then A else B:=by rw[if_pos h];exact b
structure KX(K:W.Frag)(c:Nat->Addr)(cM:Addr)(j:Nat):Prop where
 lt:j<13
 ty:XTy K (c j)
 one:∀i,i<13->W.kitOne K (.ref (c j)) (.ref (c i))=some (decide (i=j))
 ve:W.kitOne K (.ref (c j)) (.type "ValueError")=some true
 em:W.exmOne K (.ref (c j)) (.ref cM)=some true
theorem ye6{K:W.Frag}{C CT CM:Addr}{vs:List V}{H:Hp}{Q Q':VK}{E E':XK}(h:yex K C CT CM vs H Q E)(hQ:∀v H',Q v H'->Q' v H')(hE:∀u d H',E u d H'->E' u d H'):yex K C CT CM vs H Q' E':=by
 obtain ⟨x,F,bk,row,e,dk,h⟩:=h
 refine ⟨x,F,bk,row,e,dk,?_⟩
 rcases h with ⟨l,T,e,hg,okt,h20,k1,k2⟩|⟨l,e,hg,k⟩|⟨e,k⟩|⟨l,T,e,hg,hb,k⟩|⟨l,T,e,hg,hb,k⟩
 ·exact .inl ⟨l,T,e,hg,okt,h20,λa H' b c=>hQ _ _ (k1 a H' b c),λa b c H' d e=>hE _ _ _ (k2 a b c H' d e)⟩
 ·exact .inr (.inl ⟨l,e,hg,λa H' b c=>hE _ _ _ (k a H' b c)⟩)
 ·exact .inr (.inr (.inl ⟨e,λss H' a b c=>hQ _ _ (k ss H' a b c)⟩))
 ·exact .inr (.inr (.inr (.inl ⟨l,T,e,hg,hb,λH' a=>hQ _ _ (k H' a)⟩)))
 ·exact .inr (.inr (.inr (.inr ⟨l,T,e,hg,hb,λH' a b=>hQ _ _ (k H' a b)⟩)))
section
variable {P:Program}{w:World}{K:W.Frag}{mg:Str->Option Value}{base:Heap}{C:Addr}
noncomputable def qfg(K:W.Frag)(C:Addr)(c:Nat->Addr):Sp:=λvs H Q _=>vs.length=2/\(∃x dx fs,vs.head?=some (.ref x)/\H x=some (.ins C dx fs)/\fs.lookup ("say" : Str)=none)/\yex K C (c 1) (c 12) vs H (λv H1=>∀p,H1 p=none->Q (.ref p) (upd H1 p (.tup [.str "told",v])))
 (λu _ H1=>∃a,u=.ref a/\((XAt H1 a (c 12) []/\∀p H',Same H1 H'->H' p=some (.tup [.str "many",.non])->Q (.ref p) H')\/(XAt H1 a (c 1) [("element",.int 1)]/\∀p H',Same H1 H'->H' p=some (.tup [.str "text",.int 1])->Q (.ref p) H')))
noncomputable abbrev ycb:Stmt:=top 153
theorem ycw:FnScope ["_law_desk","_law_row_here","_law_kept","_law_found","e","_law_some"] ["_law_desk","_law_row_here"] (yac ycb):=fsc
theorem ok_said{c:Nat->Addr}{cM:Addr}(B:Bl mg)(hVE:mg "ValueError"=none)(cd:CD K C)(gm:mg "MarchError"=some (.ref cM))(kx1:KX K c cM 1)(kx12:KX K c cM 12)(xo:XOk K (c 1))(nf:NoF K (c 1) "element")(G:∀i x,nms[i]?=some x->mg x=some (.ref (c i)))(h_say:qc6 P w K mg base C 9 "say" ["self","row"] (yex K C (c 1) (c 12)))
  (F:FnAt K mg "_law_said" ycb ["_law_desk","_law_row_here"]):Has P w K mg base 10 "_law_said" ["_law_desk","_law_row_here"] (qfg K C c):=by
 refine Has.ofQ F ycw (λvs H Q E h=>h.1) (λ_ _ _ _ _ H vs Q E hr h=>?_)
 obtain ⟨hl,⟨x,dx,fs,hx0,ho,hlk⟩,h⟩:=h
 obtain ⟨v0,v1,rfl⟩:∃a b,vs=[a,b]:=by
  clear h hx0
  revert vs
  exact lenS λa=>lenS λb=>len0 ⟨a,b,rfl⟩
 cases hx0
 have sc:=ycw
 refine cutA [11] ⟨_,qac rfl (yae (yag (ya8 (qdq (ya1 qaj (qam ycx (qe_strs (xs:=yd4) (by decide +kernel)) (qam yfw (yaw (qar (qaa qah) qad)) (qaa yad))) (qaa (ybj PySem.F.plainAttrs_list PySem.F.slot_list_index PySem.F.type_list_index qf9 (pv 5) (yab ydb qag)))) (qar (qaa qcv) qad)))))⟩ ?_
 intro c1
 refine cutA [10] ⟨_,qac rfl (qab (qao (ybb (qai yam rfl (B.of rfl) boot_isinstance (yah (qaa (pv 2)) (yah (qaa (yaq (v:=.ref (c 2)) rfl (G 2 "NoHarms" rfl) rfl)) qad))))
   (yae (yag (ya8 (qar (qaa qah) (qa_at (qaa (ygm (pv 2))) qad)))))
   yaj) c1.2)⟩ ?_
 intro c2
 refine cutA [9] ⟨_,qac rfl (qab (qao (ybb (qai yam rfl (B.of rfl) boot_isinstance (yah (qaa (pv 2)) (yah (qaa (yaq (v:=.ref (c 1)) rfl (G 1 "NoText" rfl) rfl)) qad))))
   (yae (yag (ya8 (qar (qaa qah) (qa_at (qaa (ygm (pv 2))) qad)))))
   yaj) c2.2)⟩ ?_
 intro c3
 refine cutA [8] ⟨_,qac rfl (qab (qao (QW.pt (qw_or (qan op_ne (qaa (ybj PySem.F.plainAttrs_list PySem.F.slot_list_count PySem.F.type_list_count ygg (pv 5) (yab ydb qag))) (qaa yad) (qak _)) (yfn (qcz (ybb (qai yam rfl (B.of rfl) boot_isinstance (yah (qaa (pv 2)) (yah (qaa (qbr (v:=.ty "ValueError") rfl hVE boot_VE rfl)) qad))))))))
   (yae (yag (ya8 (qar (qaa qah) (qar (qaa qcv) qad)))))
   yaj) c3.2)⟩ ?_
 intro c4
 refine cutA [7] ⟨_,qac rfl (qab (qsE 5 sc.nd (qam ycx (qaa (pv 5)) (yaw (qa0 (qai yam rfl (B.of rfl) boot_isinstance (yah (qaa (pv 2)) (yah (qaa (yaq (v:=.ref (c 4)) rfl (G 4 "NoAddress" rfl) rfl)) qad))) (qa0 (qai yam rfl (B.of rfl) boot_isinstance (yah (qaa (pv 2)) (yah (qaa (yaq (v:=.ref (c 5)) rfl (G 5 "NoBit" rfl) rfl)) qad))) (qa0 (qai yam rfl (B.of rfl) boot_isinstance (yah (qaa (pv 2)) (yah (qaa (yaq (v:=.ref (c 9)) rfl (G 9 "NoSpares" rfl) rfl)) qad))) qad)))))) c4.2)⟩ ?_
 intro c5
 refine cutA [6] ⟨_,qac rfl (qab (qsE 5 sc.nd (qam ycx (qaa (pv 5)) (yaw (qa0 (qai yam rfl (B.of rfl) boot_isinstance (yah (qaa (pv 2)) (yah (qaa (yaq (v:=.ref (c 8)) rfl (G 8 "NoKind" rfl) rfl)) qad))) (qa0 (qai yam rfl (B.of rfl) boot_isinstance (yah (qaa (pv 2)) (yah (qaa (yaq (v:=.ref (c 3)) rfl (G 3 "NoMemory" rfl) rfl)) qad))) (qa0 (qai yam rfl (B.of rfl) boot_isinstance (yah (qaa (pv 2)) (yah (qaa (yaq (v:=.ref (c 6)) rfl (G 6 "NoOrders" rfl) rfl)) qad))) qad)))))) c5.2)⟩ ?_
 intro c6
 refine cutA [5] ⟨_,qac rfl (qab (qsE 5 sc.nd (qam ycx (qaa (pv 5)) (yaw (qa0 (qai yam rfl (B.of rfl) boot_isinstance (yah (qaa (pv 2)) (yah (qaa (yaq (v:=.ref (c 2)) rfl (G 2 "NoHarms" rfl) rfl)) qad))) (qa0 (qai yam rfl (B.of rfl) boot_isinstance (yah (qaa (pv 2)) (yah (qaa (yaq (v:=.ref (c 12)) rfl (G 12 "TooMany" rfl) rfl)) qad))) (qa0 (qai yam rfl (B.of rfl) boot_isinstance (yah (qaa (pv 2)) (yah (qaa (yaq (v:=.ref (c 0)) rfl (G 0 "NoTest" rfl) rfl)) qad))) qad)))))) c6.2)⟩ ?_
 intro c7
 refine cutA [4] ⟨_,qac rfl (qab (qsE 5 sc.nd (yaw (qa0 (qai yam rfl (B.of rfl) boot_isinstance (yah (qaa (pv 2)) (yah (qaa (yaq (v:=.ref (c 10)) rfl (G 10 "NoRow" rfl) rfl)) qad))) (qa0 (qai yam rfl (B.of rfl) boot_isinstance (yah (qaa (pv 2)) (yah (qaa (yaq (v:=.ref (c 11)) rfl (G 11 "NoName" rfl) rfl)) qad))) (qa0 (qai yam rfl (B.of rfl) boot_isinstance (yah (qaa (pv 2)) (yah (qaa (yaq (v:=.ref (c 1)) rfl (G 1 "NoText" rfl) rfl)) qad))) (qa0 (qai yam rfl (B.of rfl) boot_isinstance (yah (qaa (pv 2)) (yah (qaa (yaq (v:=.ref (c 7)) rfl (G 7 "NotSure" rfl) rfl)) qad))) qad)))))) c7.2)⟩ ?_
 intro c8
 refine cutA [2] ⟨_,qac rfl (qab (qby (ps_try (iy:=2) (jn:=4) (λ_ _ z=>z) rfl rfl (psx_set (i:=3) sc.nd rfl (Or.inl rfl) (pex_meth (λ_ _ z=>z) cd.c h_say hr (pv 0) (yab (pv 1) qag))) sc.nd rfl rfl rfl (Or.inl rfl) (by decide) rfl gm)) (qab (qao (qg1 (qev (pc_isN (pv 2))))
   (yae (yag (ya8 (qar (qaa qah) (yah (qaa (pv 3)) qad)))))
   yaj) c8.2))⟩ ?_
 intro c9
 refine ⟨_,qac rfl (qab (qsE 2 sc.nd (qaa qcv)) (qab (qsE 3 sc.nd (qaa qcv)) c9.2)),?_⟩
 have z4:4<=sizeLine:=by decide
 have z3:3<=sizeLine:=by decide
 have z2:2<=sizeLine:=by decide
 have z1:1<=sizeLine:=by decide
 have u:∀{H':Hp}{p q:Addr}{o o':HO},H' p=some o->H' q=none->upd H' q o' p=some o:=λh1 h2=>by rw[qaf (qae h1 h2)];exact h1
 refine ⟨_,rfl,x,dx,fs,rfl,ho,hlk,?_⟩
 refine ⟨_,rfl,nil_go ?_⟩
 dsimp only
 refine ye6 h (λv H1 k=>?_) (λe d H1 k=>?_)
 ·refine ⟨_,rfl,_,rfl,iteB (by decide +kernel) ?_⟩
  exact ⟨_,rfl,z2,λp hp=>k p hp⟩
 ·obtain ⟨a,rfl,k⟩:=k
  obtain ⟨j,fs,hj,xa,kx,hcnt,k⟩:∃(j:Nat) (fs:List (Str×V)),(j=1\/j=12)/\XAt H1 a (c j) fs/\KX K c cM j/\(tru j).count true=1/\((j=12/\∀p H',Same H1 H'->H' p=some (.tup [.str "many",.non])->Q (.ref p) H')\/(j=1/\fs=[(("element" : Str),V.int 1)]/\∀p H',Same H1 H'->H' p=some (.tup [.str "text",.int 1])->Q (.ref p) H')):=by
   rcases k with ⟨x1,k⟩|⟨x1,k⟩
   ·exact ⟨12,_,.inr rfl,x1,kx12,tru12.1,.inl ⟨rfl,k⟩⟩
   ·exact ⟨1,_,.inl rfl,x1,kx1,tru1,.inr ⟨rfl,rfl,k⟩⟩
  have T:=kx.ty
  have hk:=kx.one
  have hv:=kx.ve
  have hx:=xa
  refine ⟨a,rfl,a,c j,fs,rfl,xa,kx.em,?_⟩
  refine ⟨_,rfl,_,rfl,iteN (decide_eq_false (λz=>by cases z)) ?_⟩
  refine ⟨_,rfl,⟨a,c j,fs,.ref (c 10),_,rfl,.inl ⟨_,rfl⟩,XAt.same (smR H1) hx,T,hk 10 (by decide),⟨_,rfl,⟨a,c j,fs,.ref (c 11),_,rfl,.inl ⟨_,rfl⟩,XAt.same (smR H1) hx,T,hk 11 (by decide),⟨_,rfl,⟨a,c j,fs,.ref (c 1),_,rfl,.inl ⟨_,rfl⟩,XAt.same (smR H1) hx,T,hk 1 (by decide),⟨_,rfl,⟨a,c j,fs,.ref (c 7),_,rfl,.inl ⟨_,rfl⟩,XAt.same (smR H1) hx,T,hk 7 (by decide),⟨z4,λp1 f1=>?_⟩⟩⟩⟩⟩⟩⟩⟩⟩
  have s1:Same H1 _:=(smR H1).upd (o:=.lst [.bl (decide (10=j)),.bl (decide (11=j)),.bl (decide (1=j)),.bl (decide (7=j))]) f1
  have a1:upd H1 p1 (.lst [.bl (decide (10=j)),.bl (decide (11=j)),.bl (decide (1=j)),.bl (decide (7=j))]) p1=some _:=yaa
  revert a1 s1
  generalize upd H1 p1 _=Ha
  intro s1 a1
  refine ⟨_,rfl,_,rfl,⟨a,c j,fs,.ref (c 2),_,rfl,.inl ⟨_,rfl⟩,XAt.same s1 hx,T,hk 2 (by decide),⟨_,rfl,⟨a,c j,fs,.ref (c 12),_,rfl,.inl ⟨_,rfl⟩,XAt.same s1 hx,T,hk 12 (by decide),⟨_,rfl,⟨a,c j,fs,.ref (c 0),_,rfl,.inl ⟨_,rfl⟩,XAt.same s1 hx,T,hk 0 (by decide),⟨z3,λp2 f2=>⟨p1,p2,_,_,rfl,rfl,u a1 f2,yaa,(show 7<=sizeLine by decide),λp3 f3=>?_⟩⟩⟩⟩⟩⟩⟩⟩
  refine ⟨_,rfl,_,rfl,⟨a,c j,fs,.ref (c 8),_,rfl,.inl ⟨_,rfl⟩,XAt.same ((s1.upd f2).upd f3) hx,T,hk 8 (by decide),⟨_,rfl,⟨a,c j,fs,.ref (c 3),_,rfl,.inl ⟨_,rfl⟩,XAt.same ((s1.upd f2).upd f3) hx,T,hk 3 (by decide),⟨_,rfl,⟨a,c j,fs,.ref (c 6),_,rfl,.inl ⟨_,rfl⟩,XAt.same ((s1.upd f2).upd f3) hx,T,hk 6 (by decide),⟨z3,λp4 f4=>⟨p3,p4,_,_,rfl,rfl,u yaa f4,yaa,(show 10<=sizeLine by decide),λp5 f5=>?_⟩⟩⟩⟩⟩⟩⟩⟩
  refine ⟨_,rfl,_,rfl,⟨a,c j,fs,.ref (c 4),_,rfl,.inl ⟨_,rfl⟩,XAt.same ((((s1.upd f2).upd f3).upd f4).upd f5) hx,T,hk 4 (by decide),⟨_,rfl,⟨a,c j,fs,.ref (c 5),_,rfl,.inl ⟨_,rfl⟩,XAt.same ((((s1.upd f2).upd f3).upd f4).upd f5) hx,T,hk 5 (by decide),⟨_,rfl,⟨a,c j,fs,.ref (c 9),_,rfl,.inl ⟨_,rfl⟩,XAt.same ((((s1.upd f2).upd f3).upd f4).upd f5) hx,T,hk 9 (by decide),⟨z3,λp6 f6=>⟨p5,p6,_,_,rfl,rfl,u yaa f6,yaa,(show 13<=sizeLine by decide),λp7 f7=>?_⟩⟩⟩⟩⟩⟩⟩⟩
  have hq:Same H1 _:=((((((s1.upd f2).upd f3).upd f4).upd f5).upd f6).upd (o:=.lst ((tru j).map V.bl)) f7)
  refine ⟨_,rfl,.inl ⟨rfl,_,sqlO yaa⟩,p7,tru j,true,rfl,rfl,yaa,?_⟩
  rw[hcnt]
  refine ⟨rfl,_,rfl,?_⟩
  refine ite_f (by decide) ?_
  refine ⟨_,rfl,a,c j,fs,.ty "ValueError",_,rfl,.inr ⟨_,rfl⟩,XAt.same hq hx,T,hv,_,rfl,?_⟩
  refine ite_f (by decide) ?_
  refine ⟨_,rfl,a,c j,fs,.ref (c 1),_,rfl,.inl ⟨_,rfl⟩,XAt.same hq hx,T,hk 1 (by decide),_,rfl,?_⟩
  rcases k with ⟨rfl,k⟩|⟨rfl,rfl,k⟩
  rotate_left
  ·refine ite_t (by decide) ⟨_,rfl,a,c 1,_,_,rfl,XAt.same hq hx,xo,nf,rfl,z2,λp hp=>k p _ (hq.upd hp) yaa⟩
  refine ite_f (by decide) ?_
  refine ⟨_,rfl,a,c 12,fs,.ref (c 2),_,rfl,.inl ⟨_,rfl⟩,XAt.same hq hx,T,hk 2 (by decide),_,rfl,?_⟩
  refine ite_f (by decide) ?_
  refine ⟨(show 6<=sizeLine by decide),λp8 f8=>?_⟩
  refine ⟨z1,λp9 f9=>⟨p9,7,_,rfl,rfl,yaa,by decide,by decide,(show 1*7<=sizeLine by decide),λp10 f10=>⟨p8,p10,_,_,rfl,rfl,u (u yaa f9) f10,yaa,(show 6+7<=sizeLine by decide),λp11 f11=>?_⟩⟩⟩
  refine ⟨_,rfl,.inl ⟨rfl,_,sqlO (u (u (u (u yaa f8) f9) f10) f11)⟩,p7,tru 12,true,5,rfl,rfl,u (u (u (u yaa f8) f9) f10) f11,tru12.2.1,tru12.2.2,?_⟩
  refine ⟨p11,_,_,.str "many",rfl,rfl,sqlO yaa,by decide +kernel,z2,λp hp=>k p _ (((((hq.upd f8).upd f9).upd f10).upd f11).upd hp) yaa⟩
end
end Mw
namespace Mw
open PySem L2 PyProof.Rows Mx
theorem qgq:∀(l:List Str) (p:Str),risingS p l=true->(p::l).Pairwise λa b=>¬ b.cps.toList<a.cps.toList
 |[],p,_=>List.pairwise_singleton _ _
 |x::r,p,h=>by
  rw[risingS,Bool.and_eq_true]at h
  have h1:¬ x.cps.toList<p.cps.toList:=by
   have:=h.1
   rw[ltCps_eq]at this
   simpa using this
  have ih:=qgq r x h.2
  refine List.pairwise_cons.mpr ⟨λy hy=>?_,ih⟩
  rcases mem_cons.mp hy with rfl|hy
  ·exact h1
  ·exact List.le_trans (l₁:=p.cps.toList) (l₂:=x.cps.toList) (l₃:=y.cps.toList) h1 ((List.pairwise_cons.mp ih).1 y hy)
theorem yev{l:List Str}(h:sortedS l=true):l.Pairwise λa b=>¬ b.cps.toList<a.cps.toList:=by
 cases l with
 |nil=>exact List.Pairwise.nil
 |cons x r=>exact qgq r x h
theorem qfb{a b:List Str}(ha:sortedS a=true)(hb:sortedS b=true)(h:a.Perm b):a=b:=
 List.Perm.eq_of_pairwise (λx y _ _ h1 h2=>Str.ext' (Array.toList_inj.mp (List.le_antisymm (as:=x.cps.toList) (bs:=y.cps.toList) h1 h2))) (yev ha) (yev hb) h
noncomputable def asc(x:Str):Prop:=∀c∈x.cps.toList,c<128
theorem asc.add{x y:Str}(a:asc x)(b:asc y):asc (x++y):=λc h=>by
 rw[Str.cps_append,Array.toList_append]at h
 rcases mem_append.mp h with h|h
 ·exact a c h
 ·exact b c h
theorem asc.join{y:Str}(hy:asc y):∀{ps:List Str},(∀p∈ps,asc p)->asc (Str.join y ps)
 |[],_=>λc h=>by cases h
 |[p],h=>h p (by simp)
 |p::q::r,h=>((h p (by simp)).add hy).add (asc.join hy (ps:=q::r) λz hz=>h z (by simp[hz]))
theorem asc.ok{x:Str}(a:asc x):(PyData.str x).canLay0=true:=by
 simp only[PyData.canLay0,PyData.strOk]
 rw[Array.all_eq_true]
 intro i hi
 have:=a x.cps[i] (by simp)
 simp
 omega
theorem asc.good{l:List Nat}(h:qa4 l=true):asc (mkS l):=λc hc=>by
 unfold qa4 at h
 rw[Bool.and_eq_true,all_eq_true]at h
 have:=h.2 c (by simpa [mkS] using hc)
 simp at this
 omega
theorem asc.dec{x:Str}(h:(x.cps.toList.all λc=>decide (c<128))=true):asc x:=λc hc=>of_decide_eq_true (all_eq_true.mp h c hc)
theorem asc.step(s:Stp):asc (stxt s):=by
 obtain ⟨w,b⟩:=s
 cases w<;>cases b<;>exact asc.dec (by decide +kernel)
theorem asc.elem{e:Elm}(h:okE e):asc (etxt e):=by
 refine asc.join (asc.dec (by decide +kernel)) λp hp=>?_
 rcases mem_cons.mp hp with rfl|hp
 ·rcases h.1 with h|h|h<;>(rw[h];exact asc.dec (by decide +kernel))
 ·obtain ⟨s,_,rfl⟩:=mem_map.mp hp
  exact asc.step s
theorem asc.test{T:List Elm}(h:okT T):asc (ttxt T):=by
 refine asc.join (asc.dec (by decide +kernel)) λp hp=>?_
 obtain ⟨e,he,rfl⟩:=mem_map.mp hp
 exact asc.elem (h.2.2 e he)
theorem qbv{x:Str}(a:asc x):(PyData.tuple [.str "told",.str x]).canLay0=true:=by
 have:=a.ok
 have h2:(PyData.str "told").canLay0=true:=by decide +kernel
 simp only[PyData.canLay0,PyData.canLayAll0]at this h2 ⊢
 rw[h2,this]
 rfl
theorem ybf{x:Str}:(PyData.tuple [.str "told",.str x]).depth<=60:=by
 simp[PyData.depth,PyData.depthAll]
theorem qgv{bk:Bk}(ok:BkOk bk){ss:List Str}(hp:ss.Perm (bk.map (·.1))):(∀s∈ss,asc s)/\∀s∈ss,1<=s.length:=by
 have h:∀s∈ss,∃l,s=mkS l/\qa4 l=true:=λs hs=>by
  obtain ⟨e,he,rfl⟩:=mem_map.mp (hp.mem_iff.mp hs)
  exact ok.nm e he
 refine ⟨λs hs=>?_,λs hs=>?_⟩
 ·obtain ⟨l,rfl,hg⟩:=h s hs
  exact asc.good hg
 ·obtain ⟨l,rfl,hg⟩:=h s hs
  rw[qaz]
  exact (qa3 hg).1
theorem join_pos{ss:List Str}(h0:ss≠[])(h:∀s∈ss,1<=s.length):1<=(Str.join " " ss).length:=by
 match ss,h0 with
 |[p],_=>exact h p (by simp)
 |p::q::r,_=>
  have:=h p (by simp)
  show 1<=(p++" "++Str.join " " (q::r)).length
  rw[Str.length_append,Str.length_append]
  omega
theorem yd9{ss:List Str}(h:∀s∈ss,asc s):asc (namS ss):=by
 unfold namS
 split
 ·exact asc.dec (by decide +kernel)
 ·exact asc.join (asc.dec (by decide +kernel)) h
theorem Book.at_{K:W.Frag}{H:Hp}{bk:Bk}{kvs:List (Key×V)}(h:Book K H bk kvs):∀{i:Nat}{k:Key}{v:V},kvs[i]?=some (k,v)->∃e,bk[i]?=some e/\k=.inr e.1:=by
 induction h with
 |nil=>intro i k v h;simp at h
 |@cons e kv bk kvs r _ ih=>
  intro i k v h
  cases i with
  |zero=>cases h;exact ⟨e,rfl,r.k⟩
  |succ i=>simpa using ih (by simpa using h)
theorem bget_of{bk:Bk}(hn:(bk.map (·.1)).Nodup){e:Str×List Elm}(he:e∈bk):bget bk e.1=some e.2:=by
 obtain ⟨T,hT⟩:=qee (mem_map.mpr ⟨e,he,rfl⟩:e.1∈bk.map (·.1))
 have hm:=yeb hT
 rw[hT]
 obtain ⟨i,hi⟩:=getElem?_of_mem he
 obtain ⟨j,hj⟩:=getElem?_of_mem hm
 have a:(bk.map (·.1))[i]?=some e.1:=by rw[getElem?_map,hi];rfl
 have b:(bk.map (·.1))[j]?=some e.1:=by rw[getElem?_map,hj];rfl
 have ij:=(List.getElem?_inj (List.getElem?_eq_some_iff.mp a).1 hn).mp (a.trans b.symm)
 subst ij
 rw[hi]at hj
 have:=Option.some.inj hj
 rw[this]
section
variable {P:Program}{w:World}{K:W.Frag}{mg:Str->Option Value}{base:Heap}{C:Addr}
noncomputable def qep(K:W.Frag)(C:Addr):Sp:=λvs H Q _=>∃(x F G:Addr) (bk:Bk) (kvs:List (Key×V)),vs=[.ref x,.ref G]/\DeskO K H C x F bk/\H G=some (.dK kvs)/\Book K H bk kvs/\G≠F/\∀H',Same H H'->Q (.bl true) H'
noncomputable abbrev qbj:Stmt:=top 157
theorem qbz:FnScope ["_law_desk","_law_known","_law_name_here"] ["_law_desk","_law_known"] (yac qbj):=fsc
theorem ygr{c:Nat->Addr}(B:Bl mg)(yar:Has P w K mg base 10 "_law_said" ["_law_desk","_law_row_here"] (qfg K C c))(qcc:Has P w K mg base 1 "_law_text" ["_law_test_here"] (ye2 K))(F:FnAt K mg "_law_stands" qbj ["_law_desk","_law_known"]):Has P w K mg base 11 "_law_stands" ["_law_desk","_law_known"] (qep K C):=by
 refine Has.ofQ F qbz (λvs H Q E h=>?_) (λ_ _ _ _ _ H vs Q E hr h=>?_)
 ·obtain ⟨x,F,G,bk,kvs,rfl,_⟩:=h
  rfl
 ·obtain ⟨x,F,G,bk,kvs,rfl,dk,hG,hbk,nGF,k⟩:=h
  have sc:=qbz
  refine cutA [1] ⟨_,qac rfl (qab (qby (ps_thaw (QS.of (qb0 PassesOwn.never rfl (yec (pi_dictR (pv 1))) (pgn 2 sc.nd)
    (yae (qao (qan (yc0 hr) (yaf yar hr (yah (qaa (pv 0)) (ydy (qam qap (qaa qah) (qaa (pv 2))) qad))) (ya8 (qar (qaa qah) (qa0 (yaf qcc hr (qdq (qg8 (yd0 hr) (qaa (pv 1)) (qaa (pv 2)) (λ_ _=>rfl)) qad)) qad))) (qak _))
     (yae (yag (qaa ydb)))
     yaj)))))) (yae (yag (qaa ydb))))⟩ ?_
  intro c1
  refine ⟨_,qac rfl (qab (qao (qan (yc0 hr) (yaf yar hr (yah (qaa (pv 0)) (qar (qaa qah) qad))) (ya8 (qar (qaa qah) (yfd (qaa (pe_orL (ybj PySem.F.plainAttrs_str PySem.F.slot_str_join PySem.F.type_str_join qb6 qah (yab (qas (yb3 rfl) rfl (B.of rfl) qbs (yab (pv 1) qag)) qag)) qah)) qad))) (qak _))
    (yae (yag (qaa ydb)))
    yaj) c1.2),?_⟩
  have z2:2<=sizeLine:=by decide
  have hsl:(sizeLine:Nat)=16777216:=sizeLine_eq
  obtain ⟨⟨dx,ho⟩,⟨kvF,hF,hb⟩,ok⟩:=id dk
  have e1:(" " : Str).length=1:=by decide +kernel
  refine ⟨_,rfl,rfl,⟨x,dx,fsD F,rfl,ho,ydm⟩,x,F,bk,"names",rfl,dk,.inr (.inr (.inl ⟨rfl,λss H1 s1 hp hs p hp1=>?_⟩))⟩
  generalize hE:upd H1 p _=H2
  have s2:Same H1 H2:=by rw[<-hE];exact (smR H1).upd hp1
  have f2:H2 p=some (.tup [.str "told",.str (namS ss)]):=by rw[<-hE];exact yaa
  clear hE
  have s02:=s1.trans s2
  refine ⟨rfl,_,rfl,G,kvs,bk.map (·.1),rfl,.inl (s02 _ _ hG),hbk.keys,by rw[length_map];have:=ok.len;omega,λq ns nq hp' hs'=>?_⟩
  have ens:ns=ss:=qfb hs' hs (hp'.trans hp.symm)
  subst ens
  obtain ⟨m1,m2⟩:=sum8 ok hp
  obtain ⟨n1,n2⟩:=qgv ok hp
  generalize hE:upd H2 q _=H3
  have s3:Same H2 H3:=by rw[<-hE];exact (smR H2).upd nq
  have f3:H3 q=some (.lst (ns.map V.str)):=by rw[<-hE];exact yaa
  clear hE
  refine ⟨" ",q,ns,rfl,rfl,f3,by rw[e1];omega,?_⟩
  have jl:=yc3 " " (B:=8) ns λp hm=>by
   obtain ⟨e,he,rfl⟩:=mem_map.mp (hp.mem_iff.mp hm)
   obtain ⟨l,e1,hg⟩:=ok.nm e he
   rw[e1,qaz]
   exact (qa3 hg).2
  have jl2:(Str.join " " ns).length<=189:=by rw[e1]at jl;omega
  have eqv:PyData.eqv (.tuple [.str "told",.str (namS ns)]) (.tuple [.str "told",.str (namS ns)])=true:=SeqAt.eqv_refl _ (qbv (yd9 n1))
  have fin:∀{y:Str}{R:Prop},y=namS ns->(∀p4,H3 p4=none->(∃dx dy,At (upd H3 p4 (.tup [.str "told",.str y])) (.ref p) dx/\At (upd H3 p4 (.tup [.str "told",.str y])) (.ref p4) dy/\dx.canLay0=true/\dy.canLay0=true/\dx.depth<=60/\(!PyData.eqv dx dy)=false)):=λ{y R} ey p4 n4=>by
   subst ey
   have sA:=(smR H3).upd (o:=.tup [.str "told",.str (namS ns)]) n4
   exact ⟨_,_,.tup (sA _ _ (s3 _ _ f2)) (.cons (.str _) (.cons (.str _) .nil)),.tup yaa (.cons (.str _) (.cons (.str _) .nil)),qbv (yd9 n1),qbv (yd9 n1),ybf,by rw[eqv];rfl⟩
  have rest:∀H4,Same H H4->c1.val { nx:=λ_ H'=>Q V.non H',rt:=Q } [some (.ref x),some (.ref G),none] H4:=λH4 s4=>by
   have dk4:=dk.same s4
   have hG4:=s4 _ _ hG
   refine ⟨_,rfl,G,kvs,rfl,.inl hG4,λo H5 fz=>?_⟩
   have kp:LKp H4 H5 G:=λb u h e=>by rw[fz.st b h];exact e
   have lt:=kp.lt hG4
   have nxG:x≠G:=λz=>by rw[z,hG]at ho;cases ho
   have dk5:=dk4.lt lt (λu e=>kp _ _ nxG e) (λu e=>kp _ _ nGF.symm e)
   have hb5:=(hbk.lt (LT.of s4)).lt lt
   refine for_by (n:=kvs.length) (λi σ H'=>∃q2,σ=[some (.ref x),some (.ref G),q2]/\Same H5 H') ⟨none,rfl,smR _⟩ ?_ ?_
   ·rintro σ H6 ⟨q2,rfl,s6⟩
    refine ⟨⟨s6 _ _ fz.at_,le_refl _⟩,G,o,kvs,s6 _ _ fz.at_,hG,?_⟩
    refine k _ (λb u e=>?_)
    by_cases hb:b=G
    ·subst hb
     rw[hG]at e
     cases e
     exact yaa
    ·rw[qaf hb]
     exact s6 _ _ (kp _ _ hb (s4 _ _ e))
   ·rintro i σ H6 hi ⟨q2,rfl,s6⟩
    refine ⟨⟨s6 _ _ fz.at_,hi⟩,?_⟩
    rintro y H7 ⟨rfl,ky,v,hkv,rfl⟩
    obtain ⟨e,he,rfl⟩:=hb5.at_ hkv
    have hem:=mem_of_getElem? he
    have hget:=bget_of ok.nd hem
    obtain ⟨l,el,hg⟩:=ok.nm e hem
    have okt:=ok.ok e hem
    have el8:e.1.length<=8:=by rw[el,qaz];exact (qa3 hg).2
    have e5:("show " : Str).length=5:=by decide +kernel
    have dk6:=dk5.same s6
    obtain ⟨⟨dx6,ho6⟩,_⟩:=id dk6
    refine ⟨_,rfl,_,rfl,_,_,rfl,rfl,ybd (by omega),rfl,⟨x,dx6,fsD F,rfl,ho6,ydm⟩,x,F,bk,_,rfl,dk6,.inr (.inr (.inr (.inl ⟨l,e.2,by rw[<-el],hg,by rw[<-el];exact hget,λH8 s8 p8 n8=>?_⟩)))⟩
    generalize hE:upd H8 p8 _=H9
    have s9:Same H8 H9:=by rw[<-hE];exact (smR H8).upd n8
    have f9:H9 p8=some (.tup [.str "told",.str (ttxt e.2)]):=by rw[<-hE];exact yaa
    clear hE
    have s69:=s8.trans s9
    have s59:=s6.trans s69
    rcases (hb5.lt (LT.of s59)).get e.1 with ⟨g1,_⟩|⟨T0,p0,g1,g2,hat⟩
    ·rw[hget]at g1;cases g1
    rw[hget]at g1
    cases g1
    refine ⟨_,rfl,_,rfl,G,.ref p0,rfl,.inl ⟨kvs,.inr e.1,.inr ⟨o,s59 _ _ fz.at_⟩,rfl,g2.symm⟩,_,e.2,rfl,hat,okt,λHa sa=>⟨z2,λpb nb=>?_⟩⟩
    have sb:=(smR Ha).upd (o:=.tup [.str "told",.str (ttxt e.2)]) nb
    have tl:=qbv (asc.test okt)
    refine ⟨_,_,.tup (sb _ _ (sa _ _ f9)) (.cons (.str _) (.cons (.str _) .nil)),.tup yaa (.cons (.str _) (.cons (.str _) .nil)),tl,tl,ybf,_,rfl,iteN (by rw[SeqAt.eqv_refl _ tl];rfl) ?_⟩
    exact ⟨_,rfl,(s59.trans sa).trans sb⟩
  by_cases hn:ns=[]
  ·have en:namS ns="-":=by unfold namS;rw[if_pos hn]
   refine ⟨false,⟨ybd (by omega),?_⟩,iteF ⟨z2,λp4 n4=>?_⟩⟩
   ·subst hn;rfl
   ·obtain ⟨d1,d2,h1,h2,h3,h4,h5,h6⟩:=fin (R:=True) en.symm p4 n4
    exact ⟨d1,d2,h1,h2,h3,h4,h5,_,rfl,iteN h6 (rest _ ((s02.trans s3).upd n4))⟩
  ·have en:namS ns=Str.join " " ns:=by unfold namS;rw[if_neg hn]
   have hpos:=join_pos hn n2
   refine ⟨true,⟨ybd (by omega),?_⟩,iteT ⟨z2,λp4 n4=>?_⟩⟩
   ·simp;omega
   ·obtain ⟨d1,d2,h1,h2,h3,h4,h5,h6⟩:=fin (R:=True) en.symm p4 n4
    exact ⟨d1,d2,h1,h2,h3,h4,h5,_,rfl,iteN h6 (rest _ ((s02.trans s3).upd n4))⟩
end
end Mw
namespace Mw
open PySem L2 PyProof.Rows Mx
theorem pe_mk0{X:Cx}{C:Addr}{x:Str}{p pos:Pos}{k n:Nat}{ps:List Str}{sp:Sp}(h:HasI X.prog X.w X.K X.mg X.base C k x ps sp)(hr:Room n X.A)(hk:k+1<=n:=by decide)(hg:Gl X x:=by rfl)
  (hdb:(x == ("__debug__" : Str))=false:=by decide):PE X (.Call (.Name x p) [] [] pos) (tMake C sp [] E0 tNil):=by
 obtain ⟨f,fd,h0,h1,h2,h3⟩:=h
 exact pe_make0 h1 h3 (hr.mono hk) hg h0 h2 .nil pass0 hdb
noncomputable def qco(n k:Nat):Str:=mkS (ybs n k)
theorem qgo{a b:List Nat}(h:mkS a=mkS b):a=b:=by
 have:=congrArg (λs:Str=>s.cps.toList) h
 simpa [mkS] using this
theorem nd_map{α β:Type}{f:α->β}(hf:∀a b,f a=f b->a=b):∀{l:List α},l.Nodup->(l.map f).Nodup
 |[],_=>List.nodup_nil
 |a::l,h=>by
  obtain ⟨h1,h2⟩:=nodup_cons.mp h
  refine nodup_cons.mpr ⟨λhm=>?_,nd_map hf h2⟩
  obtain ⟨b,hb,e⟩:=mem_map.mp hm
  rw[hf _ _ e]at hb
  exact h1 hb
theorem qfp{n:Nat}(hn:n<208):((List.range 21).map (qco n)).Nodup:=by
 have:=nd_map (f:=mkS) (λa b h=>qgo h) (qgr n hn)
 rw[List.map_map]at this
 exact this
theorem name_new{n i:Nat}(hn:n<208)(hi:i<21):qco n i∉(List.range i).map (qco n):=by
 have h:=qfp hn
 intro hm
 obtain ⟨j,hj,e⟩:=mem_map.mp hm
 have hj':=mem_range.mp hj
 have a:((List.range 21).map (qco n))[i]?=some (qco n i):=by rw[getElem?_map,List.getElem?_range hi];rfl
 have b:((List.range 21).map (qco n))[j]?=some (qco n i):=by rw[getElem?_map,List.getElem?_range (by omega),<-e];rfl
 have:=(List.getElem?_inj (List.getElem?_eq_some_iff.mp a).1 h).mp (a.trans b.symm)
 omega
theorem qhc(bk:Bk)(nm:Str):(ycg bk nm).map (·.1)=(bk.map (·.1)).filter λs=>decide (s≠nm):=by
 unfold ycg
 rw[List.filter_map]
 rfl
theorem qfr{nm:Str}:∀{l:List Str},l.Nodup->nm∈l->(nm::l.filter λs=>decide (s≠nm)).Perm l
 |[],_,h=>by cases h
 |a::l,hn,hm=>by
  obtain ⟨h1,h2⟩:=nodup_cons.mp hn
  by_cases ha:a=nm
  ·subst ha
   rw[List.filter_cons_of_neg (by simp)]
   have:(l.filter λs=>decide (s≠a))=l:=List.filter_eq_self.mpr λs hs=>by simp;exact λz=>h1 (z ▸ hs)
   rw[this]
  ·rw[List.filter_cons_of_pos (by simpa using ha)]
   have hl:nm∈l:=by
    rcases mem_cons.mp hm with h|h
    ·exact absurd h.symm ha
    ·exact h
   exact (List.Perm.swap ..).trans ((qfr h2 hl).cons a)
structure NmI(n:Nat)(l:List Nat)(bk:Bk):Prop where
 p:(mkS l::bk.map (·.1)).Perm ((List.range 21).map (qco n))
 hn:n<208
section
variable {n:Nat}{l:List Nat}{bk:Bk}
theorem NmI.good(h:NmI n l bk):qa4 l=true:=by
 obtain ⟨k,hk,e⟩:=mem_map.mp (h.p.mem_iff.mp (mem_cons_self ..))
 rw[<-qgo e]
 exact qdd n h.hn k (mem_range.mp hk)
theorem NmI.nd(h:NmI n l bk):(mkS l::bk.map (·.1)).Nodup:=h.p.nodup_iff.mpr (qfp h.hn)
theorem NmI.out(h:NmI n l bk):mkS l∉bk.map (·.1):=(nodup_cons.mp h.nd).1
theorem NmI.len(h:NmI n l bk):bk.length=20:=by
 have:=h.p.length_eq
 simp at this
 omega
theorem NmI.next{m:List Nat}{T:List Elm}(h:NmI n l bk)(hm:mkS m∈bk.map (·.1)):(ycg (bput bk (mkS m) T) (mkS m)).length=19/\mkS l∉(ycg (bput bk (mkS m) T) (mkS m)).map (·.1)/\NmI n m (bput (ycg (bput bk (mkS m) T) (mkS m)) (mkS l) T):=by
 have hk:=qhc (bput bk (mkS m) T) (mkS m)
 rw[ycf hm]at hk
 have hp:=qfr (nodup_cons.mp h.nd).2 hm
 rw[<-hk]at hp
 have hno:mkS l∉(ycg (bput bk (mkS m) T) (mkS m)).map (·.1):=λz=>h.out (hp.mem_iff.mp (mem_cons_of_mem _ z))
 refine ⟨?_,hno,⟨?_,h.hn⟩⟩
 ·have:=hp.length_eq
  have:=h.len
  simp at *
  omega
 ·rw[qc4 hno,map_append]
  refine List.Perm.trans ?_ h.p
  refine List.Perm.trans ?_ (hp.cons (mkS l))
  exact List.Perm.trans (List.Perm.cons _ (List.perm_append_comm (l₂:=[mkS l]))) (List.Perm.swap ..)
end
theorem cut_ints(ns:List Int)(lo hi:Option Int):∃ms:List Int,cutV (ns.map V.int) lo hi=ms.map V.int/\ms.length<=ns.length:=by
 unfold cutV
 rw[<-List.map_drop,<-List.map_take]
 exact ⟨_,rfl,by rw[length_take,length_drop];omega⟩
noncomputable def Kn(K:W.Frag)(H:Hp)(G:Addr)(bk:Bk):Prop:=∃kvs,H G=some (.dK kvs)/\Book K H bk kvs
section
variable {K:W.Frag}{H H':Hp}{C x F G:Addr}{bk:Bk}{xs:List V}{a:Addr}{v:V}{d:PyData}
theorem Kn.same(k:Kn K H G bk)(s:Same H H'):Kn K H' G bk:=let ⟨kvs,a,b⟩:=k;⟨kvs,s _ _ a,b.lt (LT.of s)⟩
theorem Kn.kp{kvF:List (Key×V)}(k:Kn K H G bk)(s:LKp H H' F)(hF:H F=some (.dK kvF))(n:G≠F):Kn K H' G bk:=let ⟨kvs,a,b⟩:=k;⟨kvs,s _ _ n a,b.lt (s.lt hF)⟩
theorem SqL.kp{kvF:List (Key×V)}(h:SqL K H a xs)(s:LKp H H' F)(hF:H F=some (.dK kvF)):SqL K H' a xs:=by
 rcases h with (h|⟨o,h⟩)|h
 ·exact .inl (.inl (s _ _ (λz=>by rw[z,hF]at h;cases h) h))
 ·exact .inl (.inr ⟨o,s _ _ (λz=>by rw[z,hF]at h;cases h) h⟩)
 ·exact .inr h
theorem DeskO.kp{kvG:List (Key×V)}(d:DeskO K H C x F bk)(s:LKp H H' G)(hG:H G=some (.dK kvG))(n:G≠F):DeskO K H' C x F bk:=by
 obtain ⟨⟨dx,ho⟩,_⟩:=id d
 exact d.lt (s.lt hG) (λu e=>s _ _ (λz=>by rw[z,hG]at ho;cases ho) e) λu e=>s _ _ n.symm e
theorem ne2{p q:Addr}{t:Str}{Q:VK}(hp:H p=some (.tup [.str t,v]))(hq:H q=none)(hv:∀H',At H' v d)(lay:(PyData.tuple [.str t,d]).canLay0=true)(dep:(PyData.tuple [.str t,d]).depth<=60)(k:Q (.bl false) (upd H q (.tup [.str t,v]))):rNeD (.ref p) (.ref q) (upd H q (.tup [.str t,v])) Q:=by
 have s:=(smR H).upd (o:=.tup [.str t,v]) hq
 refine ⟨_,_,.tup (s _ _ hp) (.cons (.str _) (.cons (hv _) .nil)),.tup yaa (.cons (.str _) (.cons (hv _) .nil)),lay,lay,dep,?_⟩
 rw[SeqAt.eqv_refl _ lay]
 exact k
end
section
variable {P:Program}{w:World}{K:W.Frag}{mg:Str->Option Value}{base:Heap}{C:Addr}
noncomputable def qfm(K:W.Frag):Sp:=λvs H Q _=>∃(a:Addr) (ns:List Int),vs=[.ref a]/\SqL K H a (ns.map V.int)/\ns.length<=63/\∀H',Q (.bl true) H'
noncomputable abbrev yd5:Stmt:=top 158
theorem sc_law:FnScope ["_law_script","_law_desk","_law_known","_law_number","_law_k","_law_test_here","_law_further","_law_cell","_law_d","_law_name_here","_law_other"] ["_law_script"] (yac yd5):=fsc
theorem ok_law{c:Nat->Addr}(B:Bl mg)(h_Desk:HasI P w K mg base C 1 "Desk" ["self"] (yen K C))(ya2:Has P w K mg base 1 "_law_digits" ["_law_cell","_law_turn","_law_sizes"] qc8)(ybz:Has P w K mg base 3 "_law_test_at" ["_law_script","_law_k"] (qdy K))(ybh:Has P w K mg base 2 "_law_called" ["_law_number","_law_k"] qex)(qbw:Has P w K mg base 2 "_law_row" ["_law_name_here","_law_test_here"] (sp_row K))(yar:Has P w K mg base 10 "_law_said" ["_law_desk","_law_row_here"] (qfg K C c))(qbg:Has P w K mg base 11 "_law_stands" ["_law_desk","_law_known"] (qep K C))
  {f:Addr}{fd:FuncData} (F:Fun K "law" "law" yd5 f fd):FnOk P w K mg base CX0 12 f fd ["_law_script"] (qfm K):=by
 refine Mx.Fun.okQ F sc_law (λvs H Q E h=>?_) (λcdv A outer s H vs Q E hr h=>?_)
 ·obtain ⟨a,ns,rfl,_⟩:=h
  rfl
 ·obtain ⟨a,ns,rfl,hS,hnl,k⟩:=h
  have sc:=sc_law
  refine cutA [3,2] ⟨_,qac rfl (yae (qao (qan (yc0 hr) (yaf yar hr (yah (qaa (pv 1)) (qa0 (yaf qbw hr (qa0 (yaf ybh hr (yah (qaa (pv 3)) (yah (qaa (pv 4)) qad))) (yah (qaa (pv 5)) qad))) qad))) (ya8 (qar (qaa qah) (qar (qaa qah) qad))) (qak _))
    (yae (yag (qaa ydb)))
    yaj))⟩ ?_
  intro c1
  refine cutA [3,1] ⟨_,qac rfl (qab (qby (yd2 (yd0 hr) (QE.of (qaa (pv 2))) (QE.of (yaf ybh hr (yah (qaa (pv 3)) (yah (qaa (pv 4)) qad)))) (QE.of (qaa (pv 5))) rfl)) c1.2)⟩ ?_
  intro c2
  refine cutA [3,0] ⟨_,qac rfl (qab (qsE 5 sc.nd (yaf ybz hr (yah (qaa (pv 0)) (ydy (qam qbe (qaa yad) (qam qa5 (qaa (pv 4)) (qaa yad))) qad)))) c2.2)⟩ ?_
  intro c3
  refine cutA [5,10] ⟨_,qac rfl (qab (qby (yd2 (yd0 hr) (QE.of (qaa (pv 2))) (QE.of (qaa (pv 6))) (QE.of (qaa (pv 5))) rfl)) (yae (qsE 6 sc.nd (qaa (pv 9)))))⟩ ?_
  intro c4
  refine cutA [5,9] ⟨_,qac rfl (qab (qao (qan (yc0 hr) (yaf yar hr (yah (qaa (pv 1)) (qa0 (yaf qbw hr (yah (qaa (pv 6)) (yah (qaa (pv 5)) qad))) qad))) (ya8 (qar (qaa qah) (qar (qaa qah) qad))) (qak _))
    (yae (yag (qaa ydb)))
    yaj) c4.2)⟩ ?_
  intro c5
  refine cutA [5,7] ⟨_,qac rfl (qab (qao (QW.pt (qw_or (qcz (ybb (yaf qbg hr (yah (qaa (pv 1)) (yah (qaa (pv 2)) qad))))) (yfn (qan (yc0 hr) (yaf yar hr (yah (qaa (pv 1)) (ydy (qam qap (qaa qah) (qaa (pv 9))) qad))) (ya8 (qar (qaa qah) (qar (qaa qah) qad))) (qak _)))))
    (yae (yag (qaa ydb)))
    yaj) (qab (yav (qaa (yfs (pv 2) (pv 9) ⟨rfl,rfl,rfl,rfl⟩))) c5.2))⟩ ?_
  intro c6
  refine cutA [5,5] ⟨_,qac rfl (qab (qao (qan (yc0 hr) (yaf yar hr (yah (qaa (pv 1)) (qa0 (yaf qbw hr (yah (qaa (pv 9)) (yah (qaa (pv 5)) qad))) qad))) (ya8 (qar (qaa qah) (qar (qaa qah) qad))) (qak _))
    (yae (yag (qaa ydb)))
    yaj) (qab (qby (yd2 (yd0 hr) (QE.of (qaa (pv 2))) (QE.of (qaa (pv 9))) (QE.of (qaa (pv 5))) rfl)) c6.2))⟩ ?_
  intro c7
  refine cutA [5,3] ⟨_,qac rfl (qab (qao (qan (yc0 hr) (yaf yar hr (yah (qaa (pv 1)) (ydy (qam qap (qam qap (qaa qah) (qaa (pv 6))) (qaa qah)) qad))) (ya8 (qar (qaa qah) (qar (qaa yad) qad))) (qak _))
    (yae (yag (qaa ydb)))
    yaj) (qab (qsE 9 sc.nd (ya1 qaj (qai (yb3 rfl) rfl (B.of rfl) qbs (yah (qaa (pv 2)) qad)) (ya1 qaj (qaa (pv 8)) (qaa yad)))) c7.2))⟩ ?_
  intro c8
  refine cutA [5,2] ⟨_,qac rfl (qab (qao (QW.pt (qw_or (qcz (ybb (yaf qbg hr (yah (qaa (pv 1)) (yah (qaa (pv 2)) qad))))) (yfn (qan (yc0 hr) (yaf yar hr (yah (qaa (pv 1)) (qa0 (yaf qbw hr (yah (qaa (pv 6)) (yah (qaa (pv 5)) qad))) qad))) (ya8 (qar (qaa qah) (qar (qaa qcv) qad))) (qak _)))))
    (yae (yag (qaa ydb)))
    yaj) c8.2)⟩ ?_
  intro c9
  refine cutA [5,0] ⟨_,qac rfl (qab (qsE 8 sc.nd (yaf ya2 hr (yah (qaa (pv 7)) (ydy (qam qbe (qaa yad) (qaa (pv 4))) (qa_ls (yaw (qar (qaa yad) (qar (qaa yad) qad))) qad))))) (qab (qsE 5 sc.nd (yaf ybz hr (yah (qaa (pv 0)) (ydy (qam qbe (qaa yad) (ya1 qaj (qaa (pv 8)) (qaa yad))) qad)))) c9.2))⟩ ?_
  intro c10
  refine cutA [7] ⟨_,qac rfl (yae (yag (qaa (qa2 (qaw qbg hr (yab (pv 1) (yab (pv 2) qag))) (ybe (yax (op_eqD hr) (qaw yar hr (yab (pv 10) (yab qah qag))) (qct (yab qah (yab qah qag))) (qak _)))))))⟩ ?_
  intro c11
  refine cutA [5] ⟨_,qac rfl (qab (qb0 PassesOwn.never rfl (yec (qda rfl (B.of rfl) (yab (qbd ycx (ybi ybm (pv 0) (qbc yad) (qbc yad)) (qdb (yab yad qag))) qag))) (qds rfl (qau (pgn 4 sc.nd) (qau (pgn 7 sc.nd) yb7)))
    c10.2) (qab (qsE 10 sc.nd (qaa (pe_mk0 h_Desk hr))) c11.2))⟩ ?_
  intro c12
  refine cutA [3] ⟨_,qac rfl (qab (qb0 PassesOwn.never rfl (yec (qen rfl (B.of rfl) (yab yad qag))) (pgn 4 sc.nd)
    c3.2) (qab (qsE 6 sc.nd (yaf ybh hr (yah (qaa (pv 3)) (qar (qaa yad) qad)))) c12.2))⟩ ?_
  intro c13
  refine cutA [2] ⟨_,qac rfl (qab (qsE 3 sc.nd (ya1 qaj (yaf ya2 hr (qdq (ya1 qaj (qam qgl (qaa (pv 0)) (yaw (qar (qaa yad) qad))) (qaa yad)) (qar (qaa yad) (qa_ls (yaw (qar (qaa yad) qad)) qad)))) (qaa yad))) c13.2)⟩ ?_
  intro c14
  refine ⟨_,qac rfl (qab (qsE 1 sc.nd (qaa (pe_mk0 h_Desk hr))) (qab (qsE 2 sc.nd (qaa qfs)) c14.2)),?_⟩
  have z1:1<=sizeLine:=by decide
  have z2:2<=sizeLine:=by decide
  have okl:(PyData.tuple [.str "told",.str "ok"]).canLay0=true:=qbv (asc.dec (by decide +kernel))
  refine λx dx nx ndx nn=>⟨x,dx,rfl,yaa,λF H1 kp1 nF dk1=>⟨rfl,?_⟩⟩
  have s1:Same H H1:=λb u e=>kp1 _ _ (qae e nx) (by rw[qaf (qae e nx),qaf (qae e ndx)];exact e)
  clear kp1 nF
  refine λG nG=>?_
  generalize hE:upd H1 G _=H2
  have s2:Same H1 H2:=by rw[<-hE];exact (smR H1).upd nG
  have kn2:Kn K H2 G []:=by rw[<-hE];exact ⟨[],yaa,.nil⟩
  clear hE
  have dk2:=dk1.same s2
  have nGF:G≠F:=λz=>by
   obtain ⟨_,⟨kv,hF,_⟩,_⟩:=dk1
   rw[<-z,nG]at hF;cases hF
  refine ⟨_,rfl,z1,λc1 v1=>?_⟩
  refine ⟨a,c1,_,_,rfl,rfl,SqL.same ((s1.trans s2).upd v1) hS,sqlO yaa,ybd (by simp;omega),λc2 v2=>?_⟩
  generalize hE:upd (upd H2 c1 _) c2 _=H3
  have s3:Same H2 H3:=by rw[<-hE];exact ((smR H2).upd v1).upd v2
  have f3:H3 c2=some (.lst ((ns++[0]).map V.int)):=by rw[<-hE,yaa,map_append];rfl
  clear hE
  have h0:0<(ns++[(0:Int)]).length:=by simp
  refine ⟨c2,_,_,_,rfl,rfl,sqlO f3,yai 0 (ybk (getElem?_eq_getElem h0)),z1,λc3 v3=>?_⟩
  have s4:=(smR H3).upd (o:=.lst [V.int 208]) v3
  refine ⟨_,7,c3,[208],rfl,yaa,by decide,by decide,by decide,by decide,λdd ds H5 s5 _ fd hD=>?_⟩
  obtain ⟨d0,g0,p0,l0⟩:=hD.get (i:=0) (z:=208) rfl
  refine ⟨dd,_,_,_,rfl,rfl,sqlO fd,yai 0 (ybk g0),?_⟩
  obtain ⟨n,rfl⟩:=Int.eq_ofNat_of_zero_le p0
  have hn:n<208:=by omega
  have s25:=(s3.trans s4).trans s5
  have s05:=(s1.trans s2).trans s25
  refine ⟨20,rfl,by omega,by omega,yei (n:=20) (λi σ H2=>∃(bk:Bk) (q4 q5 q6 q7 q8 q9 q10:Option V),σ=[some (.ref a),some (.ref x),some (.ref G),some (.int n),q4,q5,q6,q7,q8,q9,q10]/\SqL K H2 a (ns.map V.int)/\DeskO K H2 C x F bk/\Kn K H2 G bk/\bk.map (·.1)=(List.range i).map (qco n))
   ⟨[],none,none,none,none,none,none,none,rfl,SqL.same s05 hS,dk2.same s25,kn2.same s25,rfl⟩ ?_ ?_⟩
  ·rintro i σ H6 hi ⟨bk,q4,q5,q6,q7,q8,q9,q10,rfl,hS6,dk6,kn6,hk6⟩
   rw[Int.zero_add]
   have hg:=qdd n hn i (by omega)
   have hlen:bk.length=i:=by have:=congrArg List.length hk6;simpa using this
   refine ⟨_,rfl,_,rfl,_,_,rfl,rfl,(by show (0:Int)<5;decide),_,_,rfl,rfl,a,ns,1+i % 5,congrArg (λz=>[V.ref a,.int z]) (by omega),hS6,hnl,by omega,λp T H7 s7 np hT okt=>?_⟩
   have dk7:=dk6.same s7
   obtain ⟨kvs,hG7,hb7⟩:=kn6.same s7
   refine ⟨_,rfl,_,rfl,_,rfl,_,rfl,n,i,rfl,hn,by omega,λH8 s8=>⟨G,_,rfl,DPut.k (k:=.inr (qco n i)) (s8 _ _ hG7) (qcm (by rw[hb7.len];omega)),?_⟩⟩
   generalize hE:upd H8 G _=H9
   have kp9:LKp H8 H9 G:=λb u h e=>by rw[<-hE,qaf h];exact e
   have lt9:=kp9.lt (s8 _ _ hG7)
   have at9:AtK K H9 (.ref p) (ybo T):=((hT.same s8).toK).lt lt9
   have kn9:Kn K H9 G (bput bk (qco n i) T):=by
    refine ⟨_,by rw[<-hE];exact yaa,?_⟩
    exact ((hb7.lt (LT.of s8)).put ((hT.same s8).toK)).lt lt9
   have dk9:=(dk7.same s8).kp kp9 (s8 _ _ hG7) nGF
   have hS9:=SqL.kp (SqL.same (s7.trans s8) hS6) kp9 (s8 _ _ hG7)
   clear hE
   refine ⟨_,rfl,_,rfl,_,rfl,n,i,rfl,hn,by omega,λHa sa=>?_⟩
   refine ⟨_,rfl,mkS (ybs n i),_,T,rfl,by rw[qaz];exact (qa3 hg).2,(at9.same sa),okt,λHb sb=>?_⟩
   have sab:=sa.trans sb
   have dkb:=dk9.same sab
   obtain ⟨⟨dxb,hob⟩,⟨kvF,hFb,_⟩,_⟩:=id dkb
   refine ⟨rfl,⟨x,dxb,fsD F,rfl,hob,ydm⟩,x,F,bk,_,rfl,dkb,.inl ⟨ybs n i,T,rfl,hg,okt,by omega,λ_ Hc kc dkc pc nc=>?_,λ_ h20=>by omega⟩⟩
   have knc:=(kn9.same sab).kp kc hFb nGF
   have hSc:=SqL.kp (SqL.same sab hS9) kc hFb
   refine ⟨z2,λpd nd=>ne2 yaa nd (λ_=>.str _) okl ybf ⟨_,rfl,iteF ?_⟩⟩
   have sd:=((smR Hc).upd (o:=.tup [.str "told",.str "ok"]) nc).upd (o:=.tup [.str "told",.str "ok"]) nd
   refine ⟨bput bk (qco n i) T,_,_,_,_,_,_,_,rfl,SqL.same sd hSc,dkc.same sd,knc.same sd,?_⟩
   rw[qc4 (by rw[hk6];exact name_new hn (by omega)),map_append,hk6,List.range_succ,map_append]
   rfl
  ·rintro σ H6 ⟨bk,q4,q5,q6,q7,q8,q9,q10,rfl,hS6,dk6,kn6,hk6⟩
   refine ⟨_,rfl,n,20,rfl,hn,by omega,λH7 s7=>?_⟩
   obtain ⟨ms,ems,hms⟩:=cut_ints ns (some 6) (some 18)
   refine ⟨_,rfl,_,rfl,_,rfl,a,_,rfl,SqL.same s7 hS6,λb1 w1=>⟨z1,λb2 w2=>?_⟩⟩
   generalize hE:upd (upd H7 b1 _) b2 _=H8
   have s8:Same H7 H8:=by rw[<-hE];exact ((smR H7).upd w1).upd w2
   have f8:H8 b2=some (.lst [.int 3]):=by rw[<-hE];exact yaa
   have f8b:H8 b1=some (.lst (ms.map V.int)):=by rw[<-hE,qaf (qae yaa w2)];exact yaa.trans (congrArg (λz=>some (HO.lst z)) ems)
   clear hE
   refine ⟨b1,b2,_,_,rfl,rfl,f8b,f8,ybd (by simp;omega),λb3 w3=>?_⟩
   generalize hE:upd H8 b3 _=H9
   have s9:Same H8 H9:=by rw[<-hE];exact (smR H8).upd w3
   have f9:H9 b3=some (.lst ((ms++[3]).map V.int)):=by rw[<-hE,yaa,map_append];rfl
   clear hE
   have s69:=(s7.trans s8).trans s9
   have nm0:NmI n (ybs n 20) bk:=⟨by rw[hk6,List.range_succ (n:=20),map_append];exact (List.perm_append_comm (l₁:=[qco n 20])),hn⟩
   refine ⟨b3,_,rfl,sqlO f9,qcg (xs:=(ms++[3]).map V.int) (λi σ H2=>∃(bk:Bk) (l:List Nat) (q4 q5 q7 q8 q9 q10:Option V),σ=[some (.ref a),some (.ref x),some (.ref G),some (.int n),q4,q5,some (.str (mkS l)),q7,q8,q9,q10]/\H2 b3=some (.lst ((ms++[3]).map V.int))/\SqL K H2 a (ns.map V.int)/\DeskO K H2 C x F bk/\Kn K H2 G bk/\NmI n l bk)
    ⟨bk,ybs n 20,_,_,_,_,_,_,rfl,f9,SqL.same s69 hS6,dk6.same s69,kn6.same s69,nm0⟩ (λi σ H2 _ ⟨_,_,_,_,_,_,_,_,_,h,_⟩=>sqlO h) ?_ ?_⟩
   ·rintro i y pp σ Ha hy ⟨bk,l,q4,q5,q7,q8,q9,q10,rfl,e3,hSa,dka,kna,nma⟩ hpp
    obtain ⟨c0,hc0,rfl⟩:=ye0 hy
    have hi:i<64:=by have:=(List.getElem?_eq_some_iff.mp hc0).1;simp at this;omega
    have hg:=nma.good
    have h20:=nma.len
    have hl8:(mkS l).length<=8:=by rw[qaz];exact (qa3 hg).2
    refine ⟨pp,_,rfl,sqtO yaa,rfl,_,_,rfl,_,_,rfl,rfl,?_⟩
    generalize hE:upd Ha pp _=Hb
    have sb:Same Ha Hb:=by rw[<-hE];exact (smR Ha).upd hpp
    clear hE
    -- the digits
    refine ⟨_,rfl,_,rfl,_,_,rfl,rfl,z2,λd1 v1=>?_⟩
    refine ⟨c0,60+i,d1,[20,5],rfl,yaa,by decide,by decide,by omega,by omega,λdd ds Hc sc' _ fd hD=>?_⟩
    obtain ⟨e0,g0,p0,l0⟩:=hD.get (i:=0) (z:=20) rfl
    obtain ⟨e1,g1,p1,l1⟩:=hD.get (i:=1) (z:=5) rfl
    have sac:=(sb.upd (o:=.lst [V.int 20,.int 5]) v1).trans sc'
    -- the test
    refine ⟨_,rfl,_,rfl,dd,_,_,_,rfl,rfl,sqlO fd,yai 1 (ybk g1),_,_,rfl,rfl,a,ns,1+e1.toNat,congrArg (λz=>[V.ref a,.int z]) (by omega),SqL.same sac hSa,hnl,by omega,λp T Hd sd _ hT okt=>?_⟩
    have sad:=sac.trans sd
    have dkd:=dka.same sad
    have knd:=kna.same sad
    have hSd:=SqL.same sad hSa
    have e3d:=sad _ _ e3
    have fdd:=sd _ _ fd
    have hTd:AtK K Hd (.ref p) (ybo T):=hT.toK
    clear sad sac sd sc' sb
    -- all stands;a further one is refused
    obtain ⟨kvs,hGd,hbd⟩:=id knd
    refine ⟨_,rfl,_,rfl,x,F,G,bk,kvs,rfl,dkd,hGd,hbd,nGF,λHe se=>⟨true,rfl,iteF ?_⟩⟩
    refine ⟨_,rfl,_,rfl,_,rfl,mkS l,_,T,rfl,hl8,hTd.same se,okt,λHf sf=>?_⟩
    have sdf:=se.trans sf
    have dkf:=dkd.same sdf
    obtain ⟨⟨dxf,hof⟩,_⟩:=id dkf
    refine ⟨rfl,⟨x,dxf,fsD F,rfl,hof,ydm⟩,x,F,bk,_,rfl,dkf,.inl ⟨l,T,rfl,hg,okt,by omega,λhc=>absurd hc (by rintro (h|h);exact nma.out h;exact h h20),λ_ _ a' Hg sg xa=>⟨a',rfl,.inl ⟨xa,λpg Hh sh hpg=>?_⟩⟩⟩⟩
    have lm:(PyData.tuple [.str "many",.none]).canLay0=true:=by decide +kernel
    refine ⟨z2,λpi ni=>ne2 hpg ni (λ_=>.non) lm (by decide +kernel) ⟨_,rfl,iteF ?_⟩⟩
    have sdi:=((sdf.trans sg).trans sh).upd (o:=.tup [.str "many",.non]) ni
    revert sdi
    generalize upd Hh pi _=Hi
    intro sdi
    have dki:=dkd.same sdi
    obtain ⟨⟨dxi,hoi⟩,_⟩:=id dki
    have t5:("test " : Str).length=5:=by decide +kernel
    have t10:(" up w0; up" : Str).length=10:=by decide +kernel
    -- what is no text
    refine ⟨_,rfl,_,rfl,_,_,rfl,rfl,ybd (by omega),_,_,rfl,rfl,ybd (by rw[Str.length_append];omega),rfl,⟨x,dxi,fsD F,rfl,hoi,ydm⟩,x,F,bk,_,rfl,dki,.inr (.inl ⟨l,rfl,hg,λa' Hj sj xa=>⟨a',rfl,.inr ⟨xa,λpj Hk sk hpj=>?_⟩⟩⟩)⟩
    have lt:(PyData.tuple [.str "text",.int 1]).canLay0=true:=by decide +kernel
    refine ⟨z2,λpl nl=>ne2 hpj nl (λ_=>.int _) lt (by decide +kernel) ⟨_,rfl,iteF ?_⟩⟩
    have sdl:=((sdi.trans sj).trans sk).upd (o:=.tup [.str "text",.int 1]) nl
    revert sdl
    generalize upd Hk pl _=Hl
    intro sdl
    -- a name
    have hGl:=sdl _ _ hGd
    refine ⟨_,rfl,G,kvs,bk.map (·.1),rfl,.inl hGl,hbd.keys,by rw[length_map,h20];decide,λpm nms nm_ hpm _=>?_⟩
    have h20n:nms.length=20:=by rw[hpm.length_eq,length_map,h20]
    have sm:=(smR Hl).upd (o:=.lst (nms.map V.str)) nm_
    obtain ⟨j0,rfl⟩:=Int.eq_ofNat_of_zero_le p0
    have hj0:j0<nms.length:=by omega
    refine ⟨_,rfl,dd,_,_,_,rfl,rfl,sqlO (sm _ _ (sdl _ _ fdd)),yai 0 (ybk g0),pm,_,_,.str nms[j0],rfl,rfl,sqlO yaa,qe2 (by rw[getElem?_map,getElem?_eq_getElem hj0];rfl),?_⟩
    have hin:nms[j0]∈bk.map (·.1):=hpm.mem_iff.mp (getElem_mem hj0)
    generalize nms[j0]=nam at hin
    obtain ⟨en,hen,rfl⟩:=mem_map.mp hin
    obtain ⟨m,em,hgm⟩:=dkd.ok.nm en hen
    rw[em]at hin ⊢
    have hm8:(mkS m).length<=8:=by rw[qaz];exact (qa3 hgm).2
    have sdm:=sdl.trans sm
    revert sdm
    generalize upd Hl pm _=Hm
    intro sdm
    -- told anew
    refine ⟨_,rfl,_,rfl,_,rfl,mkS m,_,T,rfl,hm8,hTd.same sdm,okt,λHn sn=>?_⟩
    have sdn:=sdm.trans sn
    have dkn:=dkd.same sdn
    obtain ⟨⟨dxn,hon⟩,⟨kvFn,hFn,_⟩,_⟩:=id dkn
    refine ⟨rfl,⟨x,dxn,fsD F,rfl,hon,ydm⟩,x,F,bk,_,rfl,dkn,.inl ⟨m,T,rfl,hgm,okt,by omega,λ_ Ho ko dko po no=>?_,λh=>absurd hin h⟩⟩
    refine ⟨z2,λpq nq=>ne2 yaa nq (λ_=>.str _) okl ybf ⟨_,rfl,iteF ?_⟩⟩
    have so:=((smR Ho).upd (o:=.tup [.str "told",.str "ok"]) no).upd (o:=.tup [.str "told",.str "ok"]) nq
    have dkq:=dko.same so
    have knq:=((knd.same sdn).kp ko hFn nGF).same so
    have hSq:=SqL.same so (SqL.kp (SqL.same sdn hSd) ko hFn)
    have e3q:=so _ _ ((ko.lt hFn).1 _ _ (sdn _ _ e3d))
    have hTq:=((hTd.same sdn).lt (ko.lt hFn)).same so
    revert dkq knq hSq e3q hTq
    generalize upd (upd Ho po _) pq _=Hq
    intro dkq knq hSq e3q hTq
    obtain ⟨kvq,hGq,hbq⟩:=id knq
    refine ⟨_,rfl,_,rfl,_,rfl,G,_,rfl,DPut.k (k:=.inr (mkS m)) hGq (qcm (by rw[hbq.len];omega)),?_⟩
    generalize hE:upd Hq G _=Hr
    have kpr:LKp Hq Hr G:=λb u h e=>by rw[<-hE,qaf h];exact e
    have ltr:=kpr.lt hGq
    have knr:Kn K Hr G (bput bk (mkS m) T):=⟨_,by rw[<-hE];exact yaa,(hbq.put hTq).lt ltr⟩
    clear hE
    have dkr:=dkq.kp kpr hGq nGF
    have hSr:=SqL.kp hSq kpr hGq
    have e3r:=ltr.1 _ _ e3q
    have hTr:=hTq.lt ltr
    clear hSq e3q hTq knq dkq hbq hGq kpr ltr so
    -- dropped
    obtain ⟨kvr,hGr,hbr⟩:=id knr
    refine ⟨_,rfl,_,rfl,x,F,G,_,kvr,rfl,dkr,hGr,hbr,nGF,λHs ss=>⟨true,rfl,iteF ?_⟩⟩
    have dks:=dkr.same ss
    obtain ⟨⟨dxs,hos⟩,⟨kvFs,hFs,_⟩,_⟩:=id dks
    obtain ⟨T1,hT1⟩:=qee (show mkS m∈(bput bk (mkS m) T).map (·.1) by rw[ycf hin];exact hin)
    have d5:("drop " : Str).length=5:=by decide +kernel
    refine ⟨_,rfl,_,rfl,_,_,rfl,rfl,ybd (by omega),rfl,⟨x,dxs,fsD F,rfl,hos,ydm⟩,x,F,_,_,rfl,dks,.inr (.inr (.inr (.inr ⟨m,T1,rfl,hgm,hT1,λHt kt dkt pt nt=>?_⟩)))⟩
    refine ⟨z2,λpu nu=>ne2 yaa nu (λ_=>.str _) okl ybf ⟨_,rfl,iteF ?_⟩⟩
    have su:=((smR Ht).upd (o:=.tup [.str "told",.str "ok"]) nt).upd (o:=.tup [.str "told",.str "ok"]) nu
    have dku:=dkt.same su
    have knu:=((knr.same ss).kp kt hFs nGF).same su
    have hSu:=SqL.same su (SqL.kp (SqL.same ss hSr) kt hFs)
    have e3u:=su _ _ ((kt.lt hFs).1 _ _ (ss _ _ e3r))
    have hTu:=((hTr.same ss).lt (kt.lt hFs)).same su
    revert dku knu hSu e3u hTu
    generalize upd (upd Ht pt _) pu _=Hu
    intro dku knu hSu e3u hTu
    obtain ⟨n19,hno,nmz⟩:=nma.next (T:=T) hin
    obtain ⟨kvu,hGu,hbu⟩:=id knu
    rcases hbu.get (mkS m) with ⟨g1',_⟩|⟨T2,p2,_,g2,_⟩
    ·rw[hT1]at g1';cases g1'
    refine ⟨_,rfl,G,rfl,.inl ⟨_,.inl hGu⟩,_,rfl,kvu,.inr (mkS m),_,hGu,rfl,g2,?_⟩
    generalize hE:upd Hu G _=Hv
    have kpv:LKp Hu Hv G:=λb u h e=>by rw[<-hE,qaf h];exact e
    have ltv:=kpv.lt hGu
    have knv:Kn K Hv G (ycg (bput bk (mkS m) T) (mkS m)):=⟨_,by rw[<-hE];exact yaa,(hbu.drop _).lt ltv⟩
    clear hE
    have dkv:=dku.kp kpv hGu nGF
    have hSv:=SqL.kp hSu kpv hGu
    have e3v:=ltv.1 _ _ e3u
    have hTv:=hTu.lt ltv
    clear hSu e3u hTu knu dku hbu hGu kpv ltv su
    -- the further one is let
    refine ⟨_,rfl,_,rfl,_,rfl,mkS l,_,T,rfl,hl8,hTv,okt,λHw sw=>?_⟩
    have dkw:=dkv.same sw
    obtain ⟨⟨dxw,how⟩,⟨kvFw,hFw,_⟩,_⟩:=id dkw
    refine ⟨rfl,⟨x,dxw,fsD F,rfl,how,ydm⟩,x,F,_,_,rfl,dkw,.inl ⟨l,T,rfl,hg,okt,by omega,λ_ Hx kx dkx px nx'=>?_,λ_ h=>by omega⟩⟩
    refine ⟨z2,λpy ny=>ne2 yaa ny (λ_=>.str _) okl ybf ⟨_,rfl,iteF ?_⟩⟩
    have sy:=((smR Hx).upd (o:=.tup [.str "told",.str "ok"]) nx').upd (o:=.tup [.str "told",.str "ok"]) ny
    have dky:=dkx.same sy
    have kny:=((knv.same sw).kp kx hFw nGF).same sy
    have hSy:=SqL.same sy (SqL.kp (SqL.same sw hSv) kx hFw)
    have e3y:=sy _ _ ((kx.lt hFw).1 _ _ (sw _ _ e3v))
    have hTy:=((hTv.same sw).lt (kx.lt hFw)).same sy
    revert dky kny hSy e3y hTy
    generalize upd (upd Hx px _) py _=Hy
    intro dky kny hSy e3y hTy
    obtain ⟨kvy,hGy,hby⟩:=id kny
    refine ⟨_,rfl,_,rfl,_,rfl,G,_,rfl,DPut.k (k:=.inr (mkS l)) hGy (qcm (by rw[hby.len];omega)),?_⟩
    generalize hE:upd Hy G _=Hz
    have kpz:LKp Hy Hz G:=λb u h e=>by rw[<-hE,qaf h];exact e
    have ltz:=kpz.lt hGy
    have knz:Kn K Hz G (bput (ycg (bput bk (mkS m) T) (mkS m)) (mkS l) T):=⟨_,by rw[<-hE];exact yaa,(hby.put hTy).lt ltz⟩
    clear hE
    exact ⟨_,rfl,_,m,_,_,_,_,_,_,rfl,ltz.1 _ _ e3y,SqL.kp hSy kpz hGy,dky.kp kpz hGy nGF,knz,nmz⟩
   ·rintro σ Ha ⟨bk,l,q4,q5,q7,q8,q9,q10,rfl,e3,hSa,dka,kna,nma⟩
    refine λx2 dx2 nx2 ndx2 nn2=>⟨x2,dx2,rfl,yaa,λF2 Hb kp2 nF2 dk2=>⟨rfl,?_⟩⟩
    have sb:Same Ha Hb:=λb u e=>kp2 _ _ (qae e nx2) (by rw[qaf (qae e nx2),qaf (qae e ndx2)];exact e)
    obtain ⟨kvb,hGb,hbb⟩:=kna.same sb
    refine ⟨_,rfl,_,rfl,x,F,G,bk,kvb,rfl,dka.same sb,hGb,hbb,nGF,λHc sc'=>⟨true,rfl,iteT ?_⟩⟩
    have dkc:=dk2.same sc'
    obtain ⟨⟨dxc,hoc⟩,_⟩:=id dkc
    refine ⟨_,rfl,rfl,⟨x2,dxc,fsD F2,rfl,hoc,ydm⟩,x2,F2,[],_,rfl,dkc,.inr (.inr (.inl ⟨rfl,λss Hd sd hp _ p np=>?_⟩))⟩
    have es:ss=[]:=List.Perm.eq_nil hp
    subst es
    have ld:(PyData.tuple [.str "told",.str "-"]).canLay0=true:=qbv (asc.dec (by decide +kernel))
    refine ⟨z2,λq nq=>?_⟩
    have s':=(smR (upd Hd p (.tup [.str "told",.str (namS [])]))).upd (o:=.tup [.str "told",.str "-"]) nq
    refine ⟨.tuple [.str "told",.str "-"],.tuple [.str "told",.str "-"],.tup (s' _ _ yaa) (.cons (.str _) (.cons (.str _) .nil)),.tup yaa (.cons (.str _) (.cons (.str _) .nil)),ld,ld,ybf,?_⟩
    rw[SeqAt.eqv_refl _ ld]
    exact k _
end
end Mw
namespace Mw
open PySem L2 PyProof.Rows Mx
section
variable {P:Program}{w:World}{K:W.Frag}{mg:Str->Option Value}{base:Heap}
noncomputable abbrev ycp:Stmt:=qdf (top 3) 0
theorem qfq:FnScope ["self","element"] ["self","element"] (yac ycp):=fsc
theorem ok_iText{f C:Addr}{fd:FuncData}(F:Fun K "__init__" "NoText.__init__" ycp f fd)(c:XOk K C)(n1:NoF K C "element"):FnOk P w K mg base CX0 1 f fd ["self","element"] (sp_x1 C "element"):=by
 refine F.ok qfq (λvs H Q E h=>?_) (λcdv A outer s H vs Q E hr h=>?_)
 ·obtain ⟨a,v,rfl,_⟩:=h
  rfl
 ·obtain ⟨a,v,rfl,hx,k⟩:=h
  have sc:=qfq
  refine ⟨_,(qe5 (ps_xfld (pv 0) (pv 1))),?_⟩
  exact ⟨_,rfl,_,rfl,a,C,none,[],rfl,hx,c,n1,by decide,λd H1 x1 s1=>k d H1 x1 s1⟩
end
end Mw
namespace Mw
open PySem L2 PyProof.Rows
open Mx
noncomputable def xcO(o:Obj)(C:Addr):Option (List Value):=match o with
 |⟨.type "type",_,.cls cd,sl⟩=>(match cd.mro,sl.toList with
  |.ref D::bm,[_,_,_,_,some (.builtin n),_]=>if (D == C&&n == "ValueError.__new__" && !cd.hasDel&&cd.hasDict)=true then some bm else none
  |_,_=>none)
 |_=>none
theorem qgt{o:Obj}{C:Addr}{bm:List Value}(q:xcO o C=some bm):∃od cd sl k0 k1 k2 k3 k5,o=⟨.type "type",od,.cls cd,sl⟩/\cd.mro=.ref C::bm/\sl.toList=[k0,k1,k2,k3,some (.builtin "ValueError.__new__"),k5]/\cd.hasDel=false/\cd.hasDict=true:=by
 unfold xcO at q
 split at q
 ·rename_i od cd sl
  split at q
  ·rename_i D bm' n k0 k1 k2 k3 n' k5 h1 h2
   split at q
   ·rename_i h3
    cases q
    simp only[Bool.and_eq_true,beq_iff_eq,Bool.not_eq_true']at h3
    obtain ⟨⟨⟨rfl,rfl⟩,h5⟩,h6⟩:=h3
    exact ⟨od,cd,sl,_,_,_,_,_,rfl,h1,h2,h5,h6⟩
   ·cases q
  ·cases q
 ·cases q
theorem yff{K:W.Frag}{o:Obj}{C:Addr}{bm:List Value}(l:K.lookup C=some o)(q:xcO o C=some bm)(e:W.excIn K C bmV "ValueError.__new__"=true):W.tailIn K bmV bm=true:=by
 obtain ⟨od,cd,sl,k0,k1,k2,k3,k5,rfl,h1,h2,h5,h6⟩:=qgt q
 unfold W.excIn at e
 rw[l]at e
 simp only[h1,h2,Bool.and_eq_true]at e
 exact e.1.1.2
theorem xclsB_of{K:W.Frag}{o:Obj}{C:Addr}{bm:List Value}(l:K.lookup C=some o)(q:xcO o C=some bm)(t:W.tailIn K bmV bm=true):qci K C=true:=by
 obtain ⟨od,cd,sl,k0,k1,k2,k3,k5,rfl,h1,h2,h5,h6⟩:=qgt q
 unfold qci
 rw[l]
 simp only[h1,h2,h5,h6,t]
 simp
theorem xok_of{K:W.Frag}{o:Obj}{C:Addr}{bm:List Value}(l:K.lookup C=some o)(q:xcO o C=some bm)(t:W.tailIn K bmV bm=true)(ga:W.findIn K (.ref C) "__getattribute__"=some (some (.builtin "BaseException.__getattribute__")))(gh:W.findIn K (.ref C) "__getattr__"=some none)
  (ha:W.findIn K (.ref C) "__class__"=some (some (.builtin "object.__class__"))) (hn:W.specialIn K (.builtin "object.__class__") "__get__"=some (some (.builtin "getset_descriptor.__get__"))) (tk:W.takesIn K (.builtin "object.__class__")=some true) (hm:W.mroIn K C (.type "object")=some true)
  (sa:W.findIn K (.ref C) "__setattr__"=some (some (.builtin "object.__setattr__"))):XOk K C:=by
 refine ⟨⟨xclsB_of l q t,ga,gh,?_,ha,hn,tk,hm⟩,sa⟩
 obtain ⟨od,cd,sl,k0,k1,k2,k3,k5,rfl,h1,h2,h5,h6⟩:=qgt q
 unfold W.clsIn
 rw[l]
 rfl
theorem yfo{K:W.Frag}{a:Addr}{xs:List V}{od:Option Addr}{its:Array Value}{n:Nat}{sl:Array (Option Value)}(h2:K.lookup a=some ⟨.type "tuple",od,.seq its n,sl⟩)(z:its.size<=sizeLine)(r:Vals xs its.toList):∀H,SqT K H a xs:=
 λH=>.inr ⟨_,its,n,h2,rfl,rfl,z,r⟩
theorem fnAt_mk{K:W.Frag}{h:Heap}{mg:Str->Option Value}{x:Str}{st:Stmt}{ps:List Str}{f:Addr}{oc:Value}{od an:Option Addr}{osl:Array (Option Value)}{kV doc pm cdv ct:Value}(X:K.In h)(G:h.Ns mainGlobals mg)
  (a:W.nsIn K mainGlobals x=some (some (.ref f))) (l:K.lookup f=some ⟨oc,od,.func (W.fnOf x x (yat st) (yak st) (yac st) .none kV doc pm an cdv ct),osl⟩) (c:W.codeIn K cdv x=true) (k:W.keepIn K (.ref f)=true)
  (hb:∀(kV doc pm:Value) (an:Option Addr) (cdv ct:Value) (us:List Value),us.length=ps.length->bindArgs (W.fnOf x x (yat st) (yak st) (yac st) .none kV doc pm an cdv ct) ⟨us,[]⟩=pure (ps.zip us)):FnAt K mg x st ps:=by
 have F:=qbq (st:=st) l c k
 exact ⟨f,_,W.mg_of X G a,F,F.binds hb⟩
noncomputable def FnP(K:W.Frag)(x:Str)(st:Stmt):Prop:=∃(f:Addr) (oc:Value) (od an:Option Addr) (sl:Array (Option Value)) (kV dc pm cd ct:Value),W.nsIn K mainGlobals x=some (some (.ref f))/\K.lookup f=some ⟨oc,od,.func (W.fnOf x x (yat st) (yak st) (yac st) .none kV dc pm an cd ct),sl⟩/\W.codeIn K cd x=true/\W.keepIn K (.ref f)=true
theorem FnP.at{K:W.Frag}{h:Heap}{mg:Str->Option Value}{x:Str}{st:Stmt}{ps:List Str}(p:FnP K x st)(X:K.In h)(G:h.Ns mainGlobals mg)
  (hb:∀(kV doc pm:Value) (an:Option Addr) (cdv ct:Value) (us:List Value),us.length=ps.length->bindArgs (W.fnOf x x (yat st) (yak st) (yac st) .none kV doc pm an cdv ct) ⟨us,[]⟩=pure (ps.zip us)):FnAt K mg x st ps:=by
 obtain ⟨f,oc,od,an,sl,kV,dc,pm,cd,ct,a,l,c,k⟩:=p
 exact fnAt_mk X G a l c k hb
theorem FnP.a1{K:W.Frag}{h:Heap}{mg:Str->Option Value}{x:Str}{st:Stmt}{a0:Str}(p:FnP K x st)(X:K.In h)(G:h.Ns mainGlobals mg)
  (hb:∀(kV doc pm:Value) (an:Option Addr) (cdv ct u0:Value),bindArgs (W.fnOf x x (yat st) (yak st) (yac st) .none kV doc pm an cdv ct) ⟨[u0],[]⟩=pure ([a0].zip [u0]):=by intros;rfl):FnAt K mg x st [a0]:=p.at X G λ_ _ _ _ _ _=>lenS λ_=>len0 (hb ..)
theorem FnP.a2{K:W.Frag}{h:Heap}{mg:Str->Option Value}{x:Str}{st:Stmt}{a0 a1:Str}(p:FnP K x st)(X:K.In h)(G:h.Ns mainGlobals mg)
  (hb:∀(kV doc pm:Value) (an:Option Addr) (cdv ct u0 u1:Value),bindArgs (W.fnOf x x (yat st) (yak st) (yac st) .none kV doc pm an cdv ct) ⟨[u0,u1],[]⟩=pure ([a0,a1].zip [u0,u1]):=by intros;rfl):FnAt K mg x st [a0,a1]:=p.at X G λ_ _ _ _ _ _=>lenS λ_=>lenS λ_=>len0 (hb ..)
theorem FnP.a3{K:W.Frag}{h:Heap}{mg:Str->Option Value}{x:Str}{st:Stmt}{a0 a1 a2:Str}(p:FnP K x st)(X:K.In h)(G:h.Ns mainGlobals mg)
  (hb:∀(kV doc pm:Value) (an:Option Addr) (cdv ct u0 u1 u2:Value),bindArgs (W.fnOf x x (yat st) (yak st) (yac st) .none kV doc pm an cdv ct) ⟨[u0,u1,u2],[]⟩=pure ([a0,a1,a2].zip [u0,u1,u2]):=by intros;rfl):FnAt K mg x st [a0,a1,a2]:=p.at X G λ_ _ _ _ _ _=>lenS λ_=>lenS λ_=>lenS λ_=>len0 (hb ..)
set_option maxHeartbeats 0 in
theorem all_mk{l:W.OpenLaw}{w:World}{K:W.Frag}{h:Heap}{mg:Str->Option Value}{fa:Addr}(X:K.In h)(G:h.Ns mainGlobals mg)(hfa:mg "law"=some (.ref fa))
  (p0:FnP K "is_whole" ycn)
  (p1:FnP K "is_bit" qd9)
  (p2:FnP K "is_one_of" yb4)
  (p3:FnP K "is_pair" yde)
  (p4:FnP K "is_filled" qb9)
  (p5:FnP K "is_step" qdj)
  (p6:FnP K "is_framed" yb5)
  (p7:FnP K "look_at_element" qay)
  (p8:FnP K "look_at_test" ybc)
  (p9:FnP K "written_element" yay)
  (p10:FnP K "written" ydn)
  (p11:FnP K "element_in" qbp)
  (p12:FnP K "read" yhd)
  (p13:FnP K "look_at_row" qbk)
  (p14:FnP K "is_name" ydd)
  (p15:FnP K "joined" yd1)
  (p16:FnP K "is_count_for" yba)
  (p17:FnP K "said_of" ydi)
  (p18:FnP K "_law_digits" ybg)
  (p19:FnP K "_law_name" qce)
  (p20:FnP K "_law_test" yca)
  (p21:FnP K "_law_drawn" ybr)
  (p22:FnP K "_law_text" yb9)
  (p23:FnP K "_law_said" ycb)
  (p24:FnP K "_law_called" qbi)
  (p25:FnP K "_law_test_at" ya9)
  (p26:FnP K "_law_row" qcr)
  (p27:FnP K "_law_stands" qbj)
  {f28:Addr}{od28 an28:Option Addr}{sl28:Array (Option Value)}{oc28 kV28 dc28 pm28 cd28 ct28:Value}
  (a28:W.nsIn K mainGlobals "law"=some (some (.ref f28)))
  (l28:K.lookup f28=some ⟨oc28,od28,.func (W.fnOf "law" "law" (yat yd5) (yak yd5) (yac yd5) .none kV28 dc28 pm28 an28 cd28 ct28),sl28⟩)
  (c28:W.codeIn K cd28 "law"=true)
  (k28:W.keepIn K (.ref f28)=true)
  (zz:∀x∈yd7,W.nsIn K mainGlobals x=some none)
  {R0:Addr}
  (RA0:W.nsIn K mainGlobals "NoTest"=some (some (.ref R0)))
  {R1:Addr}
  (RA1:W.nsIn K mainGlobals "NoText"=some (some (.ref R1)))
  {R2:Addr}
  (RA2:W.nsIn K mainGlobals "NoHarms"=some (some (.ref R2)))
  {R3:Addr}
  (RA3:W.nsIn K mainGlobals "NoMemory"=some (some (.ref R3)))
  {R4:Addr}
  (RA4:W.nsIn K mainGlobals "NoAddress"=some (some (.ref R4)))
  {R5:Addr}
  (RA5:W.nsIn K mainGlobals "NoBit"=some (some (.ref R5)))
  {R6:Addr}
  (RA6:W.nsIn K mainGlobals "NoOrders"=some (some (.ref R6)))
  {R7:Addr}
  (RA7:W.nsIn K mainGlobals "NotSure"=some (some (.ref R7)))
  {R8:Addr}
  (RA8:W.nsIn K mainGlobals "NoKind"=some (some (.ref R8)))
  {R9:Addr}
  (RA9:W.nsIn K mainGlobals "NoSpares"=some (some (.ref R9)))
  {R10:Addr}
  (RA10:W.nsIn K mainGlobals "NoRow"=some (some (.ref R10)))
  {R11:Addr}
  (RA11:W.nsIn K mainGlobals "NoName"=some (some (.ref R11)))
  {R12:Addr}
  (RA12:W.nsIn K mainGlobals "TooMany"=some (some (.ref R12)))
  {RM:Addr}
  (RM_:W.nsIn K mainGlobals "MarchError"=some (some (.ref RM)))
  {Ro1:Obj}{Rbm:List Value}
  (Rlk1:K.lookup R1=some Ro1)
  (Rq1:xcO Ro1 R1=some Rbm)
  {Ro12:Obj}
  (Rlk12:K.lookup R12=some Ro12)
  (Rq12:xcO Ro12 R12=some Rbm)
  (Rex12:W.excIn K R12 bmV "ValueError.__new__"=true)
  (Rkp1:W.keepIn K (.ref R1)=true)
  (Rga1:W.findIn K (.ref R1) "__getattribute__"=some (some (.builtin "BaseException.__getattribute__")))
  (Rgh1:W.findIn K (.ref R1) "__getattr__"=some none)
  (Rha1:W.findIn K (.ref R1) "__class__"=some (some (.builtin "object.__class__")))
  (Rhm1:W.mroIn K R1 (.type "object")=some true)
  (Rsa1:W.findIn K (.ref R1) "__setattr__"=some (some (.builtin "object.__setattr__")))
  (Ro0_1:W.kitOne K (.ref R1) (.ref R0)=some false)
  (Ro1_1:W.kitOne K (.ref R1) (.ref R1)=some true)
  (Ro2_1:W.kitOne K (.ref R1) (.ref R2)=some false)
  (Ro3_1:W.kitOne K (.ref R1) (.ref R3)=some false)
  (Ro4_1:W.kitOne K (.ref R1) (.ref R4)=some false)
  (Ro5_1:W.kitOne K (.ref R1) (.ref R5)=some false)
  (Ro6_1:W.kitOne K (.ref R1) (.ref R6)=some false)
  (Ro7_1:W.kitOne K (.ref R1) (.ref R7)=some false)
  (Ro8_1:W.kitOne K (.ref R1) (.ref R8)=some false)
  (Ro9_1:W.kitOne K (.ref R1) (.ref R9)=some false)
  (Ro10_1:W.kitOne K (.ref R1) (.ref R10)=some false)
  (Ro11_1:W.kitOne K (.ref R1) (.ref R11)=some false)
  (Ro12_1:W.kitOne K (.ref R1) (.ref R12)=some false)
  (Rve1:W.kitOne K (.ref R1) (.type "ValueError")=some true)
  (Rem1:W.exmOne K (.ref R1) (.ref RM)=some true)
  (Rn1_0:W.findIn K (.ref R1) "element"=some none)
  {fI1:Addr}{odI1 anI1:Option Addr}{slI1:Array (Option Value)}{ocI1 kVI1 dcI1 pmI1 cdI1 ctI1:Value}
  (Rhi1:W.findIn K (.ref R1) "__init__"=some (some (.ref fI1)))
  (Rhf1:W.isFn K (.ref fI1)=true)
  (RlI1:K.lookup fI1=some ⟨ocI1,odI1,.func (W.fnOf "__init__" "NoText.__init__" (yat ycp) (yak ycp) (yac ycp) .none kVI1 dcI1 pmI1 anI1 cdI1 ctI1),slI1⟩)
  (RcI1:W.codeIn K cdI1 "NoText.__init__"=true)
  (RkI1:W.keepIn K (.ref fI1)=true)
  (Rkp12:W.keepIn K (.ref R12)=true)
  (Rga12:W.findIn K (.ref R12) "__getattribute__"=some (some (.builtin "BaseException.__getattribute__")))
  (Rgh12:W.findIn K (.ref R12) "__getattr__"=some none)
  (Rha12:W.findIn K (.ref R12) "__class__"=some (some (.builtin "object.__class__")))
  (Rhm12:W.mroIn K R12 (.type "object")=some true)
  (Rsa12:W.findIn K (.ref R12) "__setattr__"=some (some (.builtin "object.__setattr__")))
  (Ro0_12:W.kitOne K (.ref R12) (.ref R0)=some false)
  (Ro1_12:W.kitOne K (.ref R12) (.ref R1)=some false)
  (Ro2_12:W.kitOne K (.ref R12) (.ref R2)=some false)
  (Ro3_12:W.kitOne K (.ref R12) (.ref R3)=some false)
  (Ro4_12:W.kitOne K (.ref R12) (.ref R4)=some false)
  (Ro5_12:W.kitOne K (.ref R12) (.ref R5)=some false)
  (Ro6_12:W.kitOne K (.ref R12) (.ref R6)=some false)
  (Ro7_12:W.kitOne K (.ref R12) (.ref R7)=some false)
  (Ro8_12:W.kitOne K (.ref R12) (.ref R8)=some false)
  (Ro9_12:W.kitOne K (.ref R12) (.ref R9)=some false)
  (Ro10_12:W.kitOne K (.ref R12) (.ref R10)=some false)
  (Ro11_12:W.kitOne K (.ref R12) (.ref R11)=some false)
  (Ro12_12:W.kitOne K (.ref R12) (.ref R12)=some true)
  (Rve12:W.kitOne K (.ref R12) (.type "ValueError")=some true)
  (Rem12:W.exmOne K (.ref R12) (.ref RM)=some true)
  (Rhn:W.specialIn K (.builtin "object.__class__") "__get__"=some (some (.builtin "getset_descriptor.__get__")))
  (Rtk:W.takesIn K (.builtin "object.__class__")=some true)
  (RzV:W.nsIn K mainGlobals "ValueError"=some none)
  {tO:Addr}{u1 u2 u3:Tok}{odO:Option Addr}{nO:Nat}{slO:Array (Option Value)}
  (aO:W.nsIn K mainGlobals "ORDERS"=some (some (.ref tO)))
  (lO:K.lookup tO=some ⟨.type "tuple",odO,.seq #[.str "up" u1,.str "down" u2,.str "any" u3] nO,slO⟩)
  {tL:Addr}{v1 v2:Tok}{odL:Option Addr}{nL:Nat}{slL:Array (Option Value)}
  (aL:W.nsIn K mainGlobals "LETTERS_marches"=some (some (.ref tL)))
  (lL:K.lookup tL=some ⟨.type "tuple",odL,.seq #[.str "r" v1,.str "w" v2] nL,slL⟩)
  {tN:Addr}{o1 o2 o3 o4 o5:Tok}{odN:Option Addr}{nN:Nat}{slN:Array (Option Value)}
  (aN:W.nsIn K mainGlobals "OF_A_NAME"=some (some (.ref tN)))
  (lN:K.lookup tN=some ⟨.type "tuple",odN,.seq #[.str "drop" o1,.str "show" o2,.str "sure" o3,.str "kinds" o4,.str "tells" o5] nN,slN⟩)
  {w1 w2 w3 w4 w5 w6 w7:Tok}
  (aT:W.nsIn K mainGlobals "MOST_IN_TEST"=some (some (.int 8 w1)))
  (aE:W.nsIn K mainGlobals "MOST_IN_ELEMENT"=some (some (.int 6 w2)))
  (aP:W.nsIn K mainGlobals "PARTING"=some (some (.str "; " w3)))
  (aQ:W.nsIn K mainGlobals "LETTERS_desk"=some (some (.str "abcdefghijklmnopqrstuvwxyz" w4)))
  (aM:W.nsIn K mainGlobals "MOST_LETTERS"=some (some (.int 8 w5)))
  (aV:W.nsIn K mainGlobals "MOST_NAMES"=some (some (.int 20 w6)))
  (aH:W.nsIn K mainGlobals "MOST_HARMS"=some (some (.int 3 w7)))
  {tS q0 q1 q2 q3:Addr}{x0 x1 x2 x3:Int}{k0' k1' k2' k3':Tok}{epS:Nat}
  (aS:W.nsIn K mainGlobals "STEPS"=some (some (.ref tS)))
  (lS:K.lookup tS=some ⟨.type "dict",none,.dict #[⟨x0,.str "r0" k0',.ref q0⟩,⟨x1,.str "r1" k1',.ref q1⟩,⟨x2,.str "w0" k2',.ref q2⟩,⟨x3,.str "w1" k3',.ref q3⟩] epS,#[]⟩)
  (mS:(tS == sysModules)=false)
  (zA:W.nsIn K mainGlobals "all"=some none)
  {oq0:Option Addr}{y0 j0:Tok}{m0:Nat}{sq0:Array (Option Value)}
  (t0:K.lookup q0=some ⟨.type "tuple",oq0,.seq #[.str "r" y0,.int 0 j0] m0,sq0⟩)
  {oq1:Option Addr}{y1 j1:Tok}{m1:Nat}{sq1:Array (Option Value)}
  (t1:K.lookup q1=some ⟨.type "tuple",oq1,.seq #[.str "r" y1,.int 1 j1] m1,sq1⟩)
  {oq2:Option Addr}{y2 j2:Tok}{m2:Nat}{sq2:Array (Option Value)}
  (t2:K.lookup q2=some ⟨.type "tuple",oq2,.seq #[.str "w" y2,.int 0 j2] m2,sq2⟩)
  {oq3:Option Addr}{y3 j3:Tok}{m3:Nat}{sq3:Array (Option Value)}
  (t3:K.lookup q3=some ⟨.type "tuple",oq3,.seq #[.str "w" y3,.int 1 j3] m3,sq3⟩)
  {C0:Addr}
  (ca0:W.nsIn K mainGlobals "Desk"=some (some (.ref C0)))
  (cp0:W.plainGet K C0 Str.empty=true)
  (cd0_:W.hasDictIn K C0=true)
  (co0:W.plainOver K C0=true)
  (cs0:W.findIn K (.ref C0) "__setattr__"=some (some (.builtin "object.__setattr__")))
  (cf0_0:W.findIn K (.ref C0) "kept"=some none)
  (cm0_:W.makesIn K C0=true)
  (ck0:W.keepIn K (.ref C0)=true)
  {fm0_0:Addr}{odm0_0 anm0_0:Option Addr}{slm0_0:Array (Option Value)}{ocm0_0 kVm0_0 dcm0_0 pmm0_0 cdm0_0 ctm0_0:Value}
  (am0_0:W.findIn K (.ref C0) "__init__"=some (some (.ref fm0_0)))
  (lm0_0:K.lookup fm0_0=some ⟨ocm0_0,odm0_0,.func (W.fnOf "__init__" "Desk.__init__" (yat yal) (yak yal) (yac yal) .none kVm0_0 dcm0_0 pmm0_0 anm0_0 cdm0_0 ctm0_0),slm0_0⟩)
  (cm0_0:W.codeIn K cdm0_0 "Desk.__init__"=true)
  (im0_0:W.isFn K (.ref fm0_0)=true)
  (km0_0:W.keepIn K (.ref fm0_0)=true)
  {fm0_1:Addr}{odm0_1 anm0_1:Option Addr}{slm0_1:Array (Option Value)}{ocm0_1 kVm0_1 dcm0_1 pmm0_1 cdm0_1 ctm0_1:Value}
  (am0_1:W.findIn K (.ref C0) "say"=some (some (.ref fm0_1)))
  (lm0_1:K.lookup fm0_1=some ⟨ocm0_1,odm0_1,.func (W.fnOf "say" "Desk.say" (yat qax) (yak qax) (yac qax) .none kVm0_1 dcm0_1 pmm0_1 anm0_1 cdm0_1 ctm0_1),slm0_1⟩)
  (cm0_1:W.codeIn K cdm0_1 "Desk.say"=true)
  (im0_1:W.isFn K (.ref fm0_1)=true)
  (km0_1:W.keepIn K (.ref fm0_1)=true)
  {fm0_2:Addr}{odm0_2 anm0_2:Option Addr}{slm0_2:Array (Option Value)}{ocm0_2 kVm0_2 dcm0_2 pmm0_2 cdm0_2 ctm0_2:Value}
  (am0_2:W.findIn K (.ref C0) "say_test"=some (some (.ref fm0_2)))
  (lm0_2:K.lookup fm0_2=some ⟨ocm0_2,odm0_2,.func (W.fnOf "say_test" "Desk.say_test" (yat qal) (yak qal) (yac qal) .none kVm0_2 dcm0_2 pmm0_2 anm0_2 cdm0_2 ctm0_2),slm0_2⟩)
  (cm0_2:W.codeIn K cdm0_2 "Desk.say_test"=true)
  (im0_2:W.isFn K (.ref fm0_2)=true)
  (km0_2:W.keepIn K (.ref fm0_2)=true)
  {fm0_3:Addr}{odm0_3 anm0_3:Option Addr}{slm0_3:Array (Option Value)}{ocm0_3 kVm0_3 dcm0_3 pmm0_3 cdm0_3 ctm0_3:Value}
  (am0_3:W.findIn K (.ref C0) "say_of"=some (some (.ref fm0_3)))
  (lm0_3:K.lookup fm0_3=some ⟨ocm0_3,odm0_3,.func (W.fnOf "say_of" "Desk.say_of" (yat yap) (yak yap) (yac yap) .none kVm0_3 dcm0_3 pmm0_3 anm0_3 cdm0_3 ctm0_3),slm0_3⟩)
  (cm0_3:W.codeIn K cdm0_3 "Desk.say_of"=true)
  (im0_3:W.isFn K (.ref fm0_3)=true)
  (km0_3:W.keepIn K (.ref fm0_3)=true) :
  ∃fd:FuncData,(∀(s:Shared) (v:Value),BindsTo s fd ⟨[v],[]⟩ [("_law_script",v)])/\∀base:Heap,K.In base->base.Ns mainGlobals mg->FnOk l.prog w K mg base CX0 12 fa fd ["_law_script"] (qfm K):=by
 have e:=hfa.symm.trans (W.mg_of X G a28)
 cases e
 have B:Bl mg:=⟨λx hx=>W.mg_none_of X G (zz x hx)⟩
 have hVE:=W.mg_none_of X G RzV
 have gm:=W.mg_of X G RM_
 have Rtl:=yff Rlk12 Rq12 Rex12
 have RX1:=xok_of Rlk1 Rq1 Rtl Rga1 Rgh1 Rha1 Rhn Rtk Rhm1 Rsa1
 have RX12:=xok_of Rlk12 Rq12 Rtl Rga12 Rgh12 Rha12 Rhn Rtk Rhm12 Rsa12
 have xB12:XBare K mg "TooMany" R12:=⟨W.mg_of X G RA12,Rkp12,RX12.toXTy,Rex12⟩
 have RG:∀i x,nms[i]?=some x->mg x=some (.ref ((λi=>([R0,R1,R2,R3,R4,R5,R6,R7,R8,R9,R10,R11,R12]:List Addr).getD i 0) i)):=by
  intro i x hx
  match i,hx with
  |0,hx=>cases hx;exact W.mg_of X G RA0
  |1,hx=>cases hx;exact W.mg_of X G RA1
  |2,hx=>cases hx;exact W.mg_of X G RA2
  |3,hx=>cases hx;exact W.mg_of X G RA3
  |4,hx=>cases hx;exact W.mg_of X G RA4
  |5,hx=>cases hx;exact W.mg_of X G RA5
  |6,hx=>cases hx;exact W.mg_of X G RA6
  |7,hx=>cases hx;exact W.mg_of X G RA7
  |8,hx=>cases hx;exact W.mg_of X G RA8
  |9,hx=>cases hx;exact W.mg_of X G RA9
  |10,hx=>cases hx;exact W.mg_of X G RA10
  |11,hx=>cases hx;exact W.mg_of X G RA11
  |12,hx=>cases hx;exact W.mg_of X G RA12
  |i+13,hx=>cases hx
 have KX1:KX K (λi=>([R0,R1,R2,R3,R4,R5,R6,R7,R8,R9,R10,R11,R12]:List Addr).getD i 0) RM 1:=by
  refine ⟨by decide,RX1.toXTy,λi hi=>?_,Rve1,Rem1⟩
  match i,hi with
  |0,_=>exact Ro0_1
  |1,_=>exact Ro1_1
  |2,_=>exact Ro2_1
  |3,_=>exact Ro3_1
  |4,_=>exact Ro4_1
  |5,_=>exact Ro5_1
  |6,_=>exact Ro6_1
  |7,_=>exact Ro7_1
  |8,_=>exact Ro8_1
  |9,_=>exact Ro9_1
  |10,_=>exact Ro10_1
  |11,_=>exact Ro11_1
  |12,_=>exact Ro12_1
 have KX12:KX K (λi=>([R0,R1,R2,R3,R4,R5,R6,R7,R8,R9,R10,R11,R12]:List Addr).getD i 0) RM 12:=by
  refine ⟨by decide,RX12.toXTy,λi hi=>?_,Rve12,Rem12⟩
  match i,hi with
  |0,_=>exact Ro0_12
  |1,_=>exact Ro1_12
  |2,_=>exact Ro2_12
  |3,_=>exact Ro3_12
  |4,_=>exact Ro4_12
  |5,_=>exact Ro5_12
  |6,_=>exact Ro6_12
  |7,_=>exact Ro7_12
  |8,_=>exact Ro8_12
  |9,_=>exact Ro9_12
  |10,_=>exact Ro10_12
  |11,_=>exact Ro11_12
  |12,_=>exact Ro12_12
 have qbx:GTup K mg "ORDERS" [.str "up",.str "down",.str "any"]:=ye9 (W.mg_of X G aO) lO zl (.cons ⟨_,rfl⟩ (.cons ⟨_,rfl⟩ (.cons ⟨_,rfl⟩ .nil)))
 have g_LET:GTup K mg "LETTERS_marches" [.str "r",.str "w"]:=ye9 (W.mg_of X G aL) lL zl (.cons ⟨_,rfl⟩ (.cons ⟨_,rfl⟩ .nil))
 have g_OF:GTup K mg "OF_A_NAME" [.str "drop",.str "show",.str "sure",.str "kinds",.str "tells"]:=ye9 (W.mg_of X G aN) lN zl (.cons ⟨_,rfl⟩ (.cons ⟨_,rfl⟩ (.cons ⟨_,rfl⟩ (.cons ⟨_,rfl⟩ (.cons ⟨_,rfl⟩ .nil)))))
 have g_T:∃t,mg "MOST_IN_TEST"=some (.int 8 t):=⟨_,W.mg_of X G aT⟩
 have g_E:∃t,mg "MOST_IN_ELEMENT"=some (.int 6 t):=⟨_,W.mg_of X G aE⟩
 have g_P:∃t,mg "PARTING"=some (.str "; " t):=⟨_,W.mg_of X G aP⟩
 have g_A:∃t,mg "LETTERS_desk"=some (.str "abcdefghijklmnopqrstuvwxyz" t):=⟨_,W.mg_of X G aQ⟩
 have g_ML:∃t,mg "MOST_LETTERS"=some (.int 8 t):=⟨_,W.mg_of X G aM⟩
 have g_MN:∃t,mg "MOST_NAMES"=some (.int 20 t):=⟨_,W.mg_of X G aV⟩
 have g_MH:∃t,mg "MOST_HARMS"=some (.int 3 t):=⟨_,W.mg_of X G aH⟩
 have yf7:=W.mg_none_of X G zA
 have g_S:=W.mg_of X G aS
 have s0:∀H,SqT K H q0 [.str "r",.int 0]:=yfo t0 zl (.cons ⟨_,rfl⟩ (.cons ⟨_,rfl⟩ .nil))
 have s1:∀H,SqT K H q1 [.str "r",.int 1]:=yfo t1 zl (.cons ⟨_,rfl⟩ (.cons ⟨_,rfl⟩ .nil))
 have s2:∀H,SqT K H q2 [.str "w",.int 0]:=yfo t2 zl (.cons ⟨_,rfl⟩ (.cons ⟨_,rfl⟩ .nil))
 have s3:∀H,SqT K H q3 [.str "w",.int 1]:=yfo t3 zl (.cons ⟨_,rfl⟩ (.cons ⟨_,rfl⟩ .nil))
 have T_S:TabK K tS tabS:=⟨mS,_,_,_,lS,⟨rfl,rfl,rfl⟩,rfl,.cons rfl ⟨_,rfl,s0⟩ (.cons rfl ⟨_,rfl,s1⟩ (.cons rfl ⟨_,rfl,s2⟩ (.cons rfl ⟨_,rfl,s3⟩ .nil)))⟩
 have FI1:=qbq (st:=ycp) RlI1 RcI1 RkI1
 have cd:CD K C0:=⟨⟨cp0,cd0_,co0,cs0⟩,cf0_0⟩
 have FL:=qbq (st:=yd5) l28 c28 k28
 refine ⟨W.fnOf "law" "law" (yat yd5) (yak yd5) (yac yd5) .none kV28 dc28 pm28 an28 cd28 ct28,λs v=>.of_eq rfl,λbase _ _=>?_⟩
 have M0___init__:yb2 K C0 "__init__" "Desk.__init__" yal ["self"]:=⟨fm0_0,_,⟨am0_0,im0_0,km0_0⟩,qbq (st:=yal) lm0_0 cm0_0 km0_0,Fun.binds (qbq (st:=yal) lm0_0 cm0_0 km0_0) λ_ _ _ _ _ _=>lenS λ_=>len0 rfl⟩
 have M0_say:yb2 K C0 "say" "Desk.say" qax ["self","row"]:=⟨fm0_1,_,⟨am0_1,im0_1,km0_1⟩,qbq (st:=qax) lm0_1 cm0_1 km0_1,Fun.binds (qbq (st:=qax) lm0_1 cm0_1 km0_1) λ_ _ _ _ _ _=>lenS λ_=>lenS λ_=>len0 rfl⟩
 have M0_say_test:yb2 K C0 "say_test" "Desk.say_test" qal ["self","words"]:=⟨fm0_2,_,⟨am0_2,im0_2,km0_2⟩,qbq (st:=qal) lm0_2 cm0_2 km0_2,Fun.binds (qbq (st:=qal) lm0_2 cm0_2 km0_2) λ_ _ _ _ _ _=>lenS λ_=>lenS λ_=>len0 rfl⟩
 have M0_say_of:yb2 K C0 "say_of" "Desk.say_of" yap ["self","word","words"]:=⟨fm0_3,_,⟨am0_3,im0_3,km0_3⟩,qbq (st:=yap) lm0_3 cm0_3 km0_3,Fun.binds (qbq (st:=yap) lm0_3 cm0_3 km0_3) λ_ _ _ _ _ _=>lenS λ_=>lenS λ_=>lenS λ_=>len0 rfl⟩
 have h0:=qe0 (P:=l.prog) (w:=w) (base:=base) B (p0.a1 X G)
 have h1:=qg3 h0 (p1.a1 X G)
 have h2:=yel (P:=l.prog) (w:=w) (base:=base) B (p2.a2 X G)
 have h3:=qfz (P:=l.prog) (w:=w) (base:=base) B (p3.a1 X G)
 have h4:=yeh (P:=l.prog) (w:=w) (base:=base) B (p4.a2 X G)
 have h5:=yf0 g_LET h3 h2 h1 (p5.a1 X G)
 have h6:=qej qbx g_E h3 h2 h4 (p6.a1 X G)
 have h7:=ycj B h6 h5 (p7.a2 X G)
 have h8:=yc7 B g_T h4 h7 (p8.a1 X G)
 have h9:=qcf (P:=l.prog) (w:=w) (base:=base) B (p9.a1 X G)
 have h10:=yf4 g_P h8 h9 (p10.a1 X G)
 have h11:=ok_elin qbx g_E g_S T_S h4 (p11.a1 X G)
 have xT:=(show XInit l.prog w K mg base "NoText" R1 ["self","element"] (sp_x1 R1 "element") from ⟨W.mg_of X G RA1,Rkp1,RX1,_,_,Rhi1,Rhf1,FI1.binds (λ_ _ _ _ _ _=>lenS λ_=>lenS λ_=>len0 rfl),ok_iText FI1 RX1 Rn1_0⟩)
 have h12:=ok_readx B xT g_P g_T h11 (p12.a1 X G)
 have h13:=ok_lrow (P:=l.prog) (w:=w) (base:=base) (p13.a1 X G)
 have h14:=yf6 (P:=l.prog) (w:=w) (base:=base) B yf7 g_ML g_A (p14.a1 X G)
 have h15:=yg5 (P:=l.prog) (w:=w) (base:=base) B (p15.a2 X G)
 have h16:=ok_count (P:=l.prog) (w:=w) (base:=base) g_MH (p16.a2 X G)
 have h17:=qf2 h10 (p17.a3 X G)
 have hm_init:=qg7 (P:=l.prog) (w:=w) (base:=base) (mg:=mg) cd M0___init__
 have hm_test:=ok_stest B cd xB12 g_MN h13 h14 h12 M0_say_test
 have hm_of:=ok_sof B cd yf7 h13 h14 h16 h17 M0_say_of
 have hm_say:=ok_say B cd g_OF h13 h15 hm_test hm_of M0_say
 have hi_Desk:=HasI.of (x:="Desk") (m:="Desk") (W.mg_of X G ca0) ⟨cm0_,am0_0,im0_0,ck0⟩ (λg h=>meth_un am0_0 h) hm_init
 have h18:=ygl (P:=l.prog) (w:=w) (base:=base) B (p18.a3 X G)
 have h19:=ok_name (P:=l.prog) (w:=w) (base:=base) B (p19.a2 X G)
 have h20:=ok_test7 (P:=l.prog) (w:=w) (base:=base) B (p20.a2 X G)
 have h21:=ok_drawn B h20 (p21.a2 X G)
 have h22:=ok_text (P:=l.prog) (w:=w) (base:=base) B (p22.a1 X G)
 have h23:=ok_said (c:=(λi=>([R0,R1,R2,R3,R4,R5,R6,R7,R8,R9,R10,R11,R12]:List Addr).getD i 0)) B hVE cd gm KX1 KX12 RX1 Rn1_0 RG hm_say (p23.a2 X G)
 have h24:=yg6 B h19 (p24.a2 X G)
 have h25:=qf4 B h18 h21 (p25.a2 X G)
 have h26:=ok_row h22 (p26.a2 X G)
 have h27:=ygr B h23 h22 (p27.a2 X G)
 exact ok_law B hi_Desk h18 h25 h24 h26 h23 h27 FL
theorem walk{l:W.OpenLaw}{q:Program}{loose:List Str}{XP:(Str->Option Value)->Heap->Prop}{YP:World->Heap->Prop}{d:DefRec}{K:Params->W.Frag}(hn:l.most=some 63)(hdf:d.params.defaults=[])
  (hY:∀(w:World) (h:Heap),YP w h->(K w.params).In h)
  (F:∀(w:World) (mg:Str->Option Value) (fa:Addr) (h:Heap),(K w.params).In h->h.Ns mainGlobals mg->mg d.name=some (.ref fa)->
   ∃fd:FuncData,(∀(s:Shared) (u:Value),BindsTo s fd ⟨[u],[]⟩ [("_law_script",u)])/\∀base:Heap,(K w.params).In base->base.Ns mainGlobals mg->FnOk l.prog w (K w.params) mg base CX0 12 fa fd ["_law_script"] (qfm (K w.params))) :
  W.WalkO q loose XP YP l.row.toRowW d [] (λf vs=>PySem.call f vs):=
 L2.walk_of (n:=63) (k:=12) (x:="_law_script") (CX:=λ_=>CX0) (sp:=λw=>qfm (K w.params)) hn (by decide) hdf ⟨rfl,by decide,by decide,rfl⟩ hY F (λ_ _ a ns hl _ hS=>⟨a,ns,rfl,hS,hl,λ_=>rfl⟩) λ_ _ _ _ _ z=>z
end Mw
namespace PySem.W.Fast
def tw7303531735150058902:=0
def tw15906177709469833086:=0
def tw15496100309575709225:=0
def tw18319940674572157267:=0
def tw17980058013608657478:=0
def tw1570115795086002158:=0
def tw17308062664798165780:=0
def tw8159377396979759196:=0
def tw2525092067833107528:=0
def tw16148616168628261740:=0
def tw2615774955791228292:=0
def tw10682959266461925125:=0
def tw7136292907415697182:=PySem.Challenge.pw_marchmend_k69_twenty_tests
theorem te7136292907415697182:PySem.Challenge.pw_marchmend_k69_twenty_tests=tw7136292907415697182:=rfl
def tw3785604257519840181:=0
def tw3652789681721374686:=0
def tw7748603479591122340:=0
def tw14127461164823929866:=0
def tw5068826158450899356:=0
def tw9870590199892511941:=0
def tw4635210056363722293:=0
def tw3592682505909121076:=0
def tw13178805001990433347:=0
def tw8325084770434054993:=0
def tw13212208686073328807:=0
def tw1448093101236717985:=0
def tw14744532539873612738:=0
def tw18176207976987758688:=0
def tw12920542281381651780:=0
def tw13448214055421498280:=0
def tw9700113599458448553:=0
def tw8676211419928833772:=0
def tw6644729372133162272:=0
def tw5345649646452400219:=0
def tw15883466407381965731:=0
def tw4289869917269792669:=0
def tw15299469840519697580:=0
def tw13482979546047675543:=0
def tw15200309056441270689:=0
def tw1517945834876787172:=0
def tw3880802247120612656:=0
def tw8352629382042767798:=0
def tw10347552458129704861:=0
def tw438346122675378363:=0
def tw17131952707370817135:=0
def tw86044750269407506:=0
def tw7927750350248060651:=0
def tw10310070063317830351:=0
def tw1322786273583114234:=0
def tw9648845782024556684:=0
def tw3263804382997153745:=0
def tw10868215688958044997:=0
def tw16440514323693099087:=0
def tw16884824320401995298:=0
def tw7320352938550480600:=0
def tw17924877278191590051:=0
def tw11609549593984129224:=0
def tw11670851570237790737:=0
def tw10696281802623083202:=0
def tw10828791907879159489:=0
def tw16742107612159646787:=0
def tw14283680302464687364:=0
def tw11180841413919847882:=0
def tw5806473033843293844:=0
def tw13864943034871786099:=0
def tw14608162297578378222:=0
def tw14932578194028288735:=0
def tw11428638442358224205:=0
def tw3021678013442104084:=0
def tw2831287154294964182:=0
def tw10029202310254894046:=0
def tw102365559918882589:=0
def tw6625646463541571034:=0
def tw5015507355873634675:=0
def tw11757064330154524553:=0
def tw15967986773897670134:=0
def tw13128105405499593035:=0
def tw10549490975809741160:=0
def tw17869360280435074988:=0
def tw17585970699984675548:=0
def tw3595374422817458932:=0
def tw11601871743072234487:=0
def tw17292732292240294906:=0
def tw17428625866709963891:=0
def tw6568356045278077970:=0
def tw11141849980524039056:=0
def tw11140284402126062957:=0
def tw8323372246501154700:=0
def tw15169743770672208847:=0
def tw7796627317097768293:=0
def tw13331763321769362106:=0
def tw9793729503933528203:=0
def tw14776129487956852124:=0
def tw13269057332255880906:=0
def tw13575371159871466625:=0
def tw3630094655034437323:=0
def tw1134307129053862452:=0
def tw5068225852250548447:=0
def tw6112513086517865065:=0
def tw5933689874796608160:=0
def tw13490274324204854442:=0
def tw5773080052632997830:=0
def tw6100054840008989335:=0
def tw16299470291223826303:=0
def tw3640672201424381257:=0
def tw5037851454806073576:=0
def tw1766371662126954549:=0
def tw13670729308942395892:=0
def tw17548349073811142907:=0
def tw2855295583008277890:=0
def tw4977852189590438382:=0
def tw6995027232250445182:=0
def tw4684107784517899492:=0
def tw11278981930672120110:=0
def tw14545274996353020742:=0
def tw16135261326218177294:=0
def tw6287446221824756668:=0
def tw8897103786157340023:=0
def tw5100271252776149439:=0
def tw3808438575672351606:=0
def tw18406238873705588531:=0
def tw7716334520230253290:=0
def tw11422511141089905862:=0
def tw12847165863109157362:=0
def tw1163558952867726687:=0
def tw232367331817624221:=0
def tw16702937898259890605:=0
def tw15278402629892086046:=0
def tw12475934514498382884:=0
def tw8240875996801143322:=0
def tw9431733803714243171:=0
def tw2573468823730076126:=0
def tw16094374370480504875:=0
def tw4372774423481860667:=0
def tw4550589172483122110:=0
def tw16073127782144351572:=0
def tw1233833803876688931:=0
def tw16746849380753285090:=0
def tw3572087424305772044:=0
def tw1712851497215595787:=0
def tw16827855385775017472:=0
def tw4975543643958074211:=0
def tw5467922253516933081:=0
def tw2530072599545565737:=0
def tw11717910287190085001:=0
def tw6153977516690671782:=0
def tw6044417495319442330:=0
def tw15386002755764296539:=0
def tw8485381366897516530:=0
def tw12428746295915559179:=0
def tw1292609688647262725:=0
def tw9124587842315565264:=0
def tw10831697459592651970:=0
def tw15027837944850188785:=0
def tw13428327371491342042:=0
def tw16263398430055450946:=0
def tw16626470105488593280:=0
def tw3207540708754374161:=0
def tw7870408858672548657:=0
def tw3692881808779249353:=0
def tw7934889498056331823:=0
def tw4196099071184527530:=0
def tw7814254733217861801:=0
def tw18387919994673469338:=0
def tw7332765133591868586:=0
def tw3013571455288757401:=0
def tw14786196850118983567:=0
def tw4466526872318101259:=0
def tw4214173458440323337:=0
def tw4390564318048522735:=0
def tw11765737631288063854:=0
def tw13063690911863779062:=0
def tw2803315156845562591:=0
def tw1343315338759138420:=0
def tw5153978207299969056:=0
def tw12083998115497364453:=0
def tw7945400725672328972:=0
def tw11693154204108429561:=0
def tw2245312436413656651:=0
def tw5321766811794740569:=0
def tw11784800646646953432:=0
def tw5053949732792462780:=0
def tw15080207003420672986:=0
def tw9618650029158119725:=0
def tw8511329807066662796:=0
def tw11088461596757099003:=0
def tw9194930993174688023:=0
def tw7537825952798429108:=0
def tw1223056364226755867:=0
def tw428818794663602064:=0
def tw10769386384733798825:=0
def tw8416588322508289573:=0
def tw6632448389893223881:=0
def tw5819501832508993602:=0
def tw157329553553951696:=0
def tw486016390231008568:=0
def tw13984627800058279785:=0
def tw14661256614844487340:=0
def tw4215878786695470562:=0
def tw11554203780680126906:=0
def tw9868051053808354661:=0
def tw17921835421820632479:=0
def tw6806841491689244437:=0
def tw18066965860063213064:=0
def tw601899465885958436:=0
def tw14214999434365812908:=0
def tw17067485563867913828:=0
def tw960670474485684654:=0
def tw11008768594167025053:=0
def tw17479116341044317077:=0
def tw13114470277431499988:=0
def tw14834269185123346864:=0
def tw6228346151156293304:=0
def tw4723867553806510950:=0
def tw9873856420038382345:=0
def tw6576013290333836899:=0
def tw14884600417592887017:=0
def tw13363352527924665585:=0
def tw16894617421235504890:=0
def tw3918639425233313330:=0
def tw3855203083217137908:=0
def tw3214373066138396170:=0
def tw2801886468762989499:=0
def tw18432452717559128594:=0
def tw7157035899911764218:=0
def tw7440677971407517243:=0
def tw2025541594921202197:=0
def tw3206283811692174116:=0
def tw97378233459623161:=0
def tw572666036454919549:=0
def tw15483372536399971799:=0
def tw2501552915087225568:=0
def tw3228199517580409339:=0
def tw4357787267851622047:=0
def tw16987574782133223077:=0
def tw11708556227106444657:=0
def tw4738886751777678217:=0
def tw16725857514300942747:=0
def tw16258651487061032596:=0
def tw7457362405201148382:=0
def tw2439195987562314713:=0
def tw8597474743671513327:=0
def tw6243590221436892855:=0
def tw11878732723649308255:=0
def tw4004989726572044695:=0
def tw13406987843931058489:=0
def tw9440302656114316371:=0
def tw15347765803719687862:=0
def tw15185791917538140407:=0
def tw11657856932192842761:=0
def tw10685819603673245628:=0
def tw3469054514757866547:=0
def tw18249843805889806713:=0
def tw4184408702930940510:=0
def tw4808763812127196005:=0
def tw6452826239908940115:=0
def tw11208653976529564286:=0
def tw2301849764952396692:=0
def tw5424316725448947867:=0
def tw7197968764227401239:=0
def tw10796640429214839853:=0
def tw8972162947676629346:=0
def tw5728706420714046474:=0
def tw12017539385454034338:=0
def tw10720893049601131838:=0
def tw4349740520976177933:=0
def tw16311641655029861792:=0
def tw12206085357899176065:=0
def tw8422718484452042538:=0
def tw16569135786325185877:=0
def tw1573103692371025408:=0
def tw14382424138397130277:=0
def tw13427750210395466846:=0
def tw16623259473478275653:=0
def tw12644436795848050290:=0
def tw3878422559080536661:=0
def tw5189606406357460813:=0
def tw13593765045501358037:=0
def tw18052804115065596462:=0
def tw16506382195535561977:=0
def tw8822771947552343311:=0
def tw15941512345888453012:=0
def tw7731094388174169142:=0
def tw13035131174243152473:=0
def tw11846629043943088680:=0
def tw5419454172930425249:=0
def tw4978047585760675538:=0
def tw13548380018507623574:=0
def tw13692111719571534590:=0
def tw11919150718285068559:=0
def tw9538863626800712426:=0
def tw8722345287979702435:=0
def tw6205945587373639408:=0
def tw5201941791786943075:=0
def tw13328876893258114782:=0
def tw171169466331828925:=0
def tw3044116555300166693:=0
def tw3346510298422860928:=0
def tw13816752087919878284:=0
def tw16471378768177203461:=0
def tw14665954647582318596:=0
def tw16353918047140424164:=0
def tw4179984091548642264:=0
def tw3456213116480056137:=0
def tw12512965798911094744:=0
def tw9195295228021687064:=0
def tw8423514384788280333:=0
def tw14755261961046715316:=0
def tw16854740257487938537:=0
def tw17699441352257060845:=0
def tw7891987698948282969:=0
def tw859268480312063512:=0
def tw17312185021673980158:=0
def tw9302690568828735994:=0
def tw5948439811779460726:=0
def tw5399601445188588399:=0
def tw9409454924319289190:=0
def tw4483077966513862019:=0
def tw17789385162433978605:=0
def tw6532808953413933064:=0
def tw2333531190193820710:=0
def tw11740007618563339208:=0
def tw4506682166180139930:=0
def tw2904381747853580606:=0
def tw17633298392680972172:=0
def tw3479166601218399875:=0
def tw5294095485204577694:=0
def tw169310781627340189:=0
def tw17082419573495436183:=0
def tw6413323783543701437:=0
def tw15734700275828318677:=0
def tw6613752013055528631:=0
def tw16010122510906478472:=0
def tw4706857105450464937:=0
def tw1405028987789045695:=0
def tw3434030662968025020:=0
def tw4601220645304418238:=0
def tw9679372686911156146:=0
def tw7802872952048689157:=0
def tw7975032011885102184:=0
def tw16594414566074178428:=0
def tw7682624273759520597:=0
def tw296544585357187353:=0
def tw14550099572731817587:=0
def tw8587092316290820853:=0
def tw299631929841878004:=0
def tw5138777149311468810:=0
def tw16835352394079711467:=0
def tw12572636790819972474:=0
def tw13592910783061542635:=0
def tw4346406477169966382:=0
def tw6089156692367339164:=0
def tw503895535383111979:=0
def tw8165162825778410305:=0
def tw15503483077509166915:=0
def tw10987461257152385777:=0
def tw14503792283776894260:=0
def tw3527108017020955858:=0
def tw5155714919583853813:=0
def tw15558984726223335190:=0
def tw15163996452018556587:=0
def tw2957473429262077175:=0
def tw3905512632965835152:=0
def tw13979166968187238729:=0
def tw5684157571272327708:=0
def tw15988778529086965535:=0
def tw14323822252666959711:=0
def tw6194909752852666205:=0
def tw8689037588098577811:=0
def tw14216264460210844870:=0
def tw2720242476891712140:=0
def tw7984909827741253779:=0
def tw10869853303208770996:=0
def tw10552932847569612302:=0
def tw9045713087003760940:=0
def tw11629625786006523517:=0
def tw15355619526422211562:=0
def tw3892734398251280959:=0
def tw13931265584825224556:=0
def tw7422296658256677529:=0
def tw1707583618190993674:=0
def tw9113295865245855553:=0
def tw8552541820156045815:=0
def tw11044201455535622265:=0
def tw15434576765691223682:=0
def tw16673386449297421088:=0
def tw11044096962987271565:=0
def tw7583899036439251028:=0
def tw16490243634280758437:=0
def tw7385340403978289640:=0
def tw2753134845000258513:=0
def tw7419879224699859428:=0
def tw16919336984086145536:=0
def tw10206131569437059104:=0
def tw11994479457421702908:=0
def tw4670500317583009844:=0
def tw17971396654540978474:=0
def tw14012852283221060154:=0
def tw7648846160951031087:=0
def tw5720638612381053970:=0
def tw7768566300675130615:=0
def tw1003373233110541143:=0
def tw14958264791121502887:=0
def tw14644923787442367275:=0
def tw13822077655912578502:=0
def tw3158066874087264526:=0
def tw9361278543755244586:=0
def tw2653056205040207083:=0
def tw4040670420983169556:=0
def tw12053468535813994816:=0
def tw7627781721770563726:=0
def tw6102811541447687921:=0
def tw6291164416497425783:=0
def tw11475282807837141666:=0
def tw16729970804495242186:=0
def tw17539274426285895387:=0
def tw14975022682180372930:=0
def tw241983343690711143:=0
def tw668836349021140062:=0
def tw2564162485852778130:=0
def tw12560389146545355412:=0
def tw13518337324241566072:=0
def tw637526846803947548:=0
def tw12875522823294938374:=0
def tw5031719648826583930:=0
def tw4433486607841387924:=0
def tw3616237643967181448:=0
def tw17486639482644331515:=0
def tw16998878660040546177:=0
def tw16095247924990009225:=0
def tw320465275987077564:=0
def tw15084430310069290191:=0
def tw12293078206808474346:=0
def tw8598475326176432364:=0
def tw6215167278263569802:=0
def tw6597736960486570041:=0
def tw7957669550303893568:=0
def tw6590898511936427368:=0
def tw17630145261484077483:=0
def tw11015797659408541477:=0
def tw14436725810081655923:=0
def tw3912346564901571201:=0
def tw10185565274333566479:=0
def tw4252225780598573206:=0
def tw3423385955844064282:=0
def tw6345358017299251759:=0
def tw9543583352364341810:=0
def tw10589111321856168185:=0
def tw17412731793520125359:=0
def tw1720187407304459417:=0
def tw9954407227595530366:=0
def tw15901248789698396236:=0
def tw2413303339574000105:=0
def tw1577214636255151764:=0
def tw15971968669435361692:=0
def tw10820684171551184570:=0
def tw16467815820156602272:=0
def tw13688662755254474999:=0
def tw15590624834010112439:=0
def tw4460357350473443142:=0
def tw13479479346121802935:=0
def tw14880895381479691629:=0
def tw1742018990519111037:=0
def tw6141154302436360525:=0
def tw14410022725803473740:=0
def tw4067430665622949813:=0
def tw7634224691756343833:=0
def tw7910650635925920302:=0
def tw935845471093740529:=0
def tw7018386858403096572:=0
def tw7435985616773936640:=0
def tw11292794282875186894:=0
def tw7562354799216070254:=0
def tw3113598764383341192:=0
def tw5312772473478469373:=0
def tw1225496844250005277:=0
def tw7240155783988019245:=0
def tw128872651477762083:=0
def tw17633873990249903635:=0
def tw10138257279501910336:=0
def tw16019078771989299191:=0
def tw14927756416598767722:=0
def tw3342287675086903145:=0
def tw12984343317964657912:=0
def tw15488633172233592613:=0
def tw3320623557744818375:=0
def tw3511825871692000663:=0
def tw14057716568055225272:=0
def tw2640066407948746724:=0
def tw7303895718546623043:=0
def tw2732914110776426719:=0
def tw11466454672193017101:=0
def tw5315331914956421546:=0
def tw6430136326419587553:=0
def tw17691377339009363913:=0
def tw1082222203146415309:=0
def tw1688041457043390302:=0
def tw1420498457258171945:=0
def tw2310690378391771:=0
def tw6520450562483832547:=0
def tw4771295596164233113:=0
def tw17935691193002378876:=0
def tw9333602727645381590:=0
def tw14386933509464591248:=0
def tw13104655893137883284:=0
def tw3161434738993538342:=0
def tw17140393307314388004:=0
def tw3819893870416304004:=0
def tw15331160775686461802:=0
def tw11854605825010292736:=0
def tw17477116089662699338:=0
def tw11788960064125616147:=0
def tw7038685149796297348:=0
def tw3897343414504939121:=0
def tw11021630000908583100:=0
def tw6399140635784836118:=0
def tw4940449593830500965:=0
def tw6977715741926564463:=0
def tw819633834884304212:=0
def tw9361820457565338555:=0
def tw1385985250774967098:=0
def tw7626498452540063233:=0
def tw8982965080995377659:=0
def tw11504560923634683132:=0
def tw12949121726694792075:=0
def tw13766943053450568629:=0
def tw11664615957306059764:=0
def tw5874499748495933546:=0
def tw1132348225285127215:=0
def tw6689051908009463962:=0
def tw18274004888289088324:=0
def tw9982977281029658505:=0
def tw9282495425690192946:=0
def tw4422296259462164448:=0
def tw10225126511873181154:=0
def tw2893094660606987485:=0
def tw6858719054807663547:=0
def tw5986606795308615264:=0
def tw17809199908887088475:=0
def tw12325435199163128476:=0
def tw10276377541866931499:=0
def tw3386256380042307579:=0
def tw22660082816812873:=0
def tw5264057285001485673:=0
def tw7061590189146263713:=0
def tw14241247688009528825:=0
def tw17512470302764063433:=0
def tw9571025458427400384:=0
def tw12839047917846877733:=0
def tw11696464632462563843:=0
def tw11598630607553023184:=0
def tw12934411024916653104:=0
def tw14954680040346045308:=0
def tw6163680543758233724:=0
def tw17178015207860749133:=0
def tw17449024409402723190:=0
def tw5156716839388102358:=0
def tw8042262036751267840:=0
def tw5844394947253830917:=0
def tw15858184294671149163:=0
def tw14840965231792190828:=0
def tw9693877565150849750:=0
def tw16218061432801720162:=0
def tw14304122819215556088:=0
def tw13914639739643984534:=0
def tw16959786938538050923:=0
def tw10418041556043460166:=0
def tw4178375076530269190:=0
def tw14328345263473882812:=0
def tw5435934754198990639:=0
def tw10044923165597159517:=0
def tw14947602107964029458:=0
def tw1615006129636453416:=0
def tw3324643792327327206:=0
def tw3304710099390459079:=0
def tw5203377803304700564:=0
def tw8032740049044005944:=0
def tw4477631794716297863:=0
def tw4225066932708180198:=0
def tw18290243546720350744:=0
def tw8327699230097062821:=0
def tw10338445129146880435:=0
def tw5549454279262480281:=0
def tw12931492775814812464:=0
def tw7445506213885941910:=0
def tw11985993017667829836:=0
def tw10639609279048037282:=0
def tw9996500065654816395:=0
end PySem.W.Fast
open PySem PySem.W PyProof.Rows
set_option maxRecDepth 100000 in
set_option maxHeartbeats 0 in
theorem PySem.Challenge.cw_marchmend_k69_twenty_tests_holds : PySem.Challenge.rw_marchmend_k69_twenty_tests.Holds := by
  w_on; o_law; k_head; (case hw=>w_witness2)
  k_fill
  refine Mw.walk (l:=PySem.Challenge.rw_marchmend_k69_twenty_tests) rfl rfl (fun w h Y=>PySem.W.km_in_of Y) ?F
  case F=>
    intro w mg fa h KX G hmg
    refine' Mw.all_mk KX G hmg ?p0 ?p1 ?p2 ?p3 ?p4 ?p5 ?p6 ?p7 ?p8 ?p9 ?p10 ?p11 ?p12 ?p13 ?p14 ?p15 ?p16 ?p17 ?p18 ?p19 ?p20 ?p21 ?p22 ?p23 ?p24 ?p25 ?p26 ?p27 ?a28 ?l28 ?c28 ?k28 ?zz ?RA0 ?RA1 ?RA2 ?RA3 ?RA4 ?RA5 ?RA6 ?RA7 ?RA8 ?RA9 ?RA10 ?RA11 ?RA12 ?RM_ ?Rlk1 ?Rq1 ?Rlk12 ?Rq12 ?Rex12 ?Rkp1 ?Rga1 ?Rgh1 ?Rha1 ?Rhm1 ?Rsa1 ?Ro0_1 ?Ro1_1 ?Ro2_1 ?Ro3_1 ?Ro4_1 ?Ro5_1 ?Ro6_1 ?Ro7_1 ?Ro8_1 ?Ro9_1 ?Ro10_1 ?Ro11_1 ?Ro12_1 ?Rve1 ?Rem1 ?Rn1_0 ?Rhi1 ?Rhf1 ?RlI1 ?RcI1 ?RkI1 ?Rkp12 ?Rga12 ?Rgh12 ?Rha12 ?Rhm12 ?Rsa12 ?Ro0_12 ?Ro1_12 ?Ro2_12 ?Ro3_12 ?Ro4_12 ?Ro5_12 ?Ro6_12 ?Ro7_12 ?Ro8_12 ?Ro9_12 ?Ro10_12 ?Ro11_12 ?Ro12_12 ?Rve12 ?Rem12 ?Rhn ?Rtk ?RzV ?aO ?lO ?aL ?lL ?aN ?lN ?aT ?aE ?aP ?aQ ?aM ?aV ?aH ?aS ?lS ?mS ?zA ?t0 ?t1 ?t2 ?t3 ?ca0 ?cp0 ?cd0_ ?co0 ?cs0 ?cf0_0 ?cm0_ ?ck0 ?am0_0 ?lm0_0 ?cm0_0 ?im0_0 ?km0_0 ?am0_1 ?lm0_1 ?cm0_1 ?im0_1 ?km0_1 ?am0_2 ?lm0_2 ?cm0_2 ?im0_2 ?km0_2 ?am0_3 ?lm0_3 ?cm0_3 ?im0_3 ?km0_3
    (case p0|p1|p2|p3|p4|p5|p6|p7|p8|p9|p10|p11|p12|p13|p14|p15|p16|p17|p18|p19|p20|p21|p22|p23|p24|p25|p26|p27=>exact ⟨_,_,_,_,_,_,_,_,_,_,by k_is,by k_is,by k_is,by k_is⟩)
    (case a28|l28|c28|k28=>k_is)
    (case zz=>intro x hx; unfold L2.yd7 at hx; simp only [List.mem_cons,List.not_mem_nil,or_false] at hx; rcases hx with rfl | rfl | rfl | rfl | rfl | rfl | rfl | rfl | rfl | rfl | rfl | rfl | rfl | rfl | rfl | rfl <;> k_is)
    (case RA0|RA1|RA2|RA3|RA4|RA5|RA6|RA7|RA8|RA9|RA10|RA11|RA12|RM_|Rlk1=>k_is)
    (case Rq1=>rfl)
    (case Rlk12=>k_is)
    (case Rq12=>rfl)
    (case Rex12=>k_exc)
    (case Rkp1|Rga1|Rgh1|Rha1|Rhm1|Rsa1=>k_is)
    (case Ro0_1|Ro1_1|Ro2_1|Ro3_1|Ro4_1|Ro5_1|Ro6_1|Ro7_1|Ro8_1|Ro9_1|Ro10_1|Ro11_1|Ro12_1|Rve1=>kit_is)
    (case Rem1=>kts_exm)
    (case Rn1_0|Rhi1|Rhf1|RlI1|RcI1|RkI1|Rkp12|Rga12|Rgh12|Rha12|Rhm12|Rsa12=>k_is)
    (case Ro0_12|Ro1_12|Ro2_12|Ro3_12|Ro4_12|Ro5_12|Ro6_12|Ro7_12|Ro8_12|Ro9_12|Ro10_12|Ro11_12|Ro12_12|Rve12=>kit_is)
    (case Rem12=>kts_exm)
    (case Rhn|Rtk|RzV|aO|lO|aL|lL|aN|lN|aT|aE|aP|aQ|aM|aV|aH|aS|lS=>k_is)
    (case mS=>rfl)
    (case zA|t0|t1|t2|t3|ca0|cp0|cd0_|co0|cs0|cf0_0|cm0_|ck0|am0_0|lm0_0|cm0_0|im0_0|km0_0|am0_1|lm0_1|cm0_1|im0_1|km0_1|am0_2|lm0_2|cm0_2|im0_2|km0_2|am0_3|lm0_3|cm0_3|im0_3|km0_3=>k_is)
#print axioms PySem.Challenge.cw_marchmend_k69_twenty_tests_holds
