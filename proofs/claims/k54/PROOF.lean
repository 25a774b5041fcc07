import PyProof.Rows.All
import Wide.All
import OpenK.AllK
import Wide.FinOn
import Lean
import PyProof.EqAt
import PyProof.EqKinds
import PyProof.TupleCall
import PyProof.StrLawsTight
import PyProof.Rows.StrJoin2
import PyProof.Rows.StrSplitJoin
import KE.KTab
import PyProof.ZipIter
import PyProof.Rows.TupIter
import PyProof.Rows.SortWalk
import PyProof.Rows.SortStr
import PyProof.ConsumeWalk
import KE.KRevSl
import KE.KTryMore
import PyProof.NsDelKeeps
import PyProof.NeKinds
import KE.KIntText
import KE.KDictLaws
import PyProof.DictIter
import PyProof.DictWalks
import PyProof.DictItems
import KE.KSortTup
import KE.KDictList
import PyProof.SetKind
import PyProof.SetRoads
import PyProof.Rows.SetFrom
import PyProof.CollectWalk
import PyProof.CollectIter
import PyProof.Rows.SortShell
import PyProof.Rows.MinMaxN
import KE.KNestM
import KE.KLam
import KE.KMinKey
import PyProof.Rows.CallKwBuiltin
import PySem.Challenge.RW_marchmend_k54_whole_covered_is_sound
set_option Elab.async false
set_option linter.all false
set_option maxRecDepth 100000
set_option maxHeartbeats 8000000
open List (length_map getElem?_eq_getElem map_append mem_map mem_cons size_toArray getD_eq_getElem?_getD mem_singleton mem_cons_of_mem getElem?_map mem_of_getElem? mem_cons_self mem_append map_cons take_length lookup_cons length_take length_append length_cons take_add_one nodup_cons map_map mem_append_right mem_append_left mem_range replicate_succ not_mem_nil mem_map_of_mem mem_filter getElem?_append_right getElem_mem getElem?_append_left all_cons take_of_length_le getElem?_eq_none length_set nodup_nil getElem?_set_ne any_cons flatten_cons find?_cons length_replicate getElem_map mem_of_mem_take foldl_cons getElem_of_mem any_eq_true length_range map_congr_left getElem?_of_mem map_take map_drop replicate_succ' flatMap_cons map_replicate map_nil)
open Nat (le_refl zero_le ne_of_lt le_trans lt_of_lt_of_le lt_irrefl le_of_lt le_succ lt_succ_of_lt ne_of_gt le_of_ble_eq_true not_lt_zero lt_succ_self le_add_right mod_lt)
open PySem.Heap (get?_push_of_some lt_size get?_push_size size_push get?_update_self get?_update_other)
open Array (length_toList getElem?_toList getD_eq_getD_getElem?)
open Int (emod_nonneg emod_lt_of_pos toNat_natCast zero_add)
namespace L2
open PySem PySem.Spec PyProof.Rows
theorem zl{n:Nat}(h:Nat.ble n 99=true:=by rfl):n<=sizeLine:=le_trans (le_of_ble_eq_true h) (by decide)
abbrev Key:=Sum Int Str
def qkb:Key->Value->Bool
 |.inl k,v=>Value.isInt k v
 |.inr x,v=>Value.isStrOf x v
def keyH(w:World):Key->Int
 |.inl k=>hashInt k
 |.inr x=>hashStr w x
theorem yav:∀{k:Key}{v:Value},qkb k v=true->(∃i t,k=Sum.inl i/\v=Value.int i t)\/(∃x t,k=Sum.inr x/\v=Value.str x t)
 |.inl i,v,h=>by
  obtain ⟨t,e⟩:=Value.isInt_shape (k:=i) (v:=v) h
  exact .inl ⟨i,t,rfl,e⟩
 |.inr x,v,h=>by
  obtain ⟨t,e⟩:=Value.isStrOf_shape (x:=x) (v:=v) h
  exact .inr ⟨x,t,rfl,e⟩
theorem qlc(i:Int)(t:Tok):qkb (.inl i) (.int i t)=true:=by simp[qkb,Value.isInt]
theorem yl8(x:Str)(t:Tok):qkb (.inr x) (.str x t)=true:=by simp[qkb,Value.isStrOf]
theorem key_ll(a b:Int):decide ((Sum.inl a:Key)=Sum.inl b)=(a == b):=by
 by_cases e:a=b
 ·subst e;simp
 ·have h:¬ (Sum.inl a:Key)=Sum.inl b:=λq=>e (Sum.inl.inj q)
  rw[decide_eq_false h]
  exact (beq_eq_false_iff_ne.mpr e).symm
theorem key_rr(a b:Str):decide ((Sum.inr a:Key)=Sum.inr b)=decide (a=b):=by
 by_cases e:a=b
 ·subst e;simp
 ·have h:¬ (Sum.inr a:Key)=Sum.inr b:=λq=>e (Sum.inr.inj q)
  rw[decide_eq_false h,decide_eq_false e]
theorem key_lr(a:Int)(b:Str):decide ((Sum.inl a:Key)=Sum.inr b)=false:=decide_eq_false (λq=>nomatch q)
theorem key_rl(a:Str)(b:Int):decide ((Sum.inr a:Key)=Sum.inl b)=false:=decide_eq_false (λq=>nomatch q)
def ya4(prog:Program)(w:World):PySem.KeyKind prog w Key where
 is:=qkb
 hash:=keyH w
 inj:=λv a b ha hb=>by
  rcases yav ha with ⟨i,t,rfl,rfl⟩|⟨x,t,rfl,rfl⟩
  ·rcases yav hb with ⟨j,u,rfl,e⟩|⟨y,u,rfl,e⟩
   ·injection e with e1 _;rw[e1]
   ·exact nomatch e
  ·rcases yav hb with ⟨j,u,rfl,e⟩|⟨y,u,rfl,e⟩
   ·exact nomatch e
   ·injection e with e1 _;rw[e1]
 byValue:=λk v h=>by
  rcases yav h with ⟨i,t,rfl,rfl⟩|⟨x,t,rfl,rfl⟩<;>rfl
 pyHash:=λhv h=>by
  rcases yav hv with ⟨i,t,rfl,rfl⟩|⟨x,t,rfl,rfl⟩
  ·exact wpAny_pyHash_int h
  ·exact wpAny_pyHash_str h
 eqBool:=λhu hv h=>by
  rcases yav hu with ⟨i,t,rfl,rfl⟩|⟨x,t,rfl,rfl⟩
  ·rcases yav hv with ⟨j,u,rfl,rfl⟩|⟨y,u,rfl,rfl⟩
   ·rw[key_ll]at h;exact wpAny_eqBool_int h
   ·rw[key_lr]at h;exact SeqAt.EqAt.int_str i t y u _ _ _ _ h
  ·rcases yav hv with ⟨j,u,rfl,rfl⟩|⟨y,u,rfl,rfl⟩
   ·rw[key_rl]at h;exact SeqAt.EqAt.str_int x t j u _ _ _ _ h
   ·rw[key_rr]at h;exact wpAny_eqBool_str h
 «strs»:=λk x t v h=>by
  rcases yav h with ⟨i,u,rfl,e⟩|⟨y,u,rfl,e⟩
  ·exact nomatch e
  ·injection e with e1 _
   subst e1
   cases v<;>rfl
theorem yi0(prog:Program)(w:World)(i:Int)(t:Tok):(ya4 prog w).is (.inl i) (.int i t)=true:=qlc i t
theorem yi2(prog:Program)(w:World)(x:Str)(t:Tok):(ya4 prog w).is (.inr x) (.str x t)=true:=yl8 x t
end L2
namespace L2
open PySem PySem.Spec PyProof.Rows
inductive V where
 |non|bl (b:Bool)|int (i:Int)|str (x:Str)|byt (b:Array UInt8)|flt (b:UInt64)|ref (a:Addr)|ty (n:String)
 deriving DecidableEq
def RelV:V->Value->Prop
 |.non,u=>u=Value.none
 |.bl b,u=>u=Value.bool b
 |.int i,u=>∃t,u=Value.int i t
 |.str x,u=>∃t,u=Value.str x t
 |.byt b,u=>∃t,u=Value.bytes b t
 |.flt b,u=>∃t,u=Value.float b t
 |.ref a,u=>u=Value.ref a
 |.ty n,u=>u=Value.type n
abbrev Vals:List V->List Value->Prop:=Paired RelV
theorem Vals.length{xs:List V}{us:List Value}(r:Vals xs us):xs.length=us.length:=Paired.length r
theorem Vals.get:∀{xs:List V}{us:List Value}{i:Nat}{x:V},Vals xs us->xs[i]?=some x->∃u,us[i]?=some u/\RelV x u
 |_,_,_,_,.nil,e=>by simp at e
 |_,_,0,_,.cons r _,e=>by simp at e;subst e;exact ⟨_,rfl,r⟩
 |_,_,i+1,x,.cons _ t,e=>by
  obtain ⟨u,h1,h2⟩:=Vals.get (i:=i) (x:=x) t (by simpa using e)
  exact ⟨u,by simpa using h1,h2⟩
theorem Vals.set{x:V}{u:Value}(r:RelV x u):∀{xs:List V}{us:List Value} (i:Nat),Vals xs us->Vals (xs.set i x) (us.set i u)
 |_,_,_,.nil=>.nil
 |_,_,0,.cons _ t=>.cons r t
 |_,_,i+1,.cons q t=>.cons q (Vals.set r i t)
theorem Vals.append:∀{xs ys:List V}{us ws:List Value},Vals xs us->Vals ys ws->Vals (xs++ys) (us++ws)
 |_,_,_,_,.nil,s=>s
 |_,_,_,_,.cons r t,s=>.cons r (Vals.append t s)
theorem Vals.take:∀{xs:List V}{us:List Value} (n:Nat),Vals xs us->Vals (xs.take n) (us.take n)
 |_,_,0,_=>.nil
 |_,_,_+1,.nil=>.nil
 |_,_,n+1,.cons r t=>.cons r (Vals.take n t)
theorem Vals.drop:∀{xs:List V}{us:List Value} (n:Nat),Vals xs us->Vals (xs.drop n) (us.drop n)
 |_,_,0,r=>r
 |_,_,_+1,.nil=>.nil
 |_,_,n+1,.cons _ t=>Vals.drop n t
theorem Vals.none_of:∀{xs:List V}{us:List Value}{i:Nat},Vals xs us->xs[i]?=none->us[i]?=none:=λ{xs us i} r e=>by
 have h1:=r.length
 have h2:xs.length<=i:=List.getElem?_eq_none_iff.mp e
 exact List.getElem?_eq_none_iff.mpr (by omega)
def RelO:Option V->Option Value->Prop
 |some v,some u=>RelV v u
 |none,none=>True
 |_,_=>False
def KV{κ:Type}:List (κ×V)->List (κ×Value)->Prop:=Paired λ(p:κ×V) (q:κ×Value)=>p.1=q.1/\RelV p.2 q.2
def kV:Key->V
 |.inl i=>.int i
 |.inr x=>.str x
inductive HO where
 |lst (xs:List V)
 |tup (xs:List V)
 |dK (kvs:List (Key×V))|dT (kvs:List (List Key×V))
 |set (S:Int->Bool) (n:Nat)
 |ins (C dx:Addr) (fs:List (Str×V))
 |own (x:Addr)
 |xd (fs:List (Str×V))
 |met (f x:Addr)
 |rng (lo hi:Int)
 |frz (o:Obj) (u:HO)
 |tbl (ps:Array Value)
 |ext (φ:Heap->Prop)
abbrev Hp:=Addr->Option HO
def upd(H:Hp)(a:Addr)(o:HO):Hp:=λb=>if b=a then some o else H b
theorem qab{H:Hp}{a:Addr}{o:HO}:upd H a o a=some o:=by unfold upd;rw[if_pos rfl]
theorem yae{H:Hp}{a b:Addr}{o:HO}(h:b≠a):upd H a o b=H b:=by unfold upd;rw[if_neg h]
theorem yks{H:Hp}{a:Addr}{o u:HO}:upd (upd H a o) a u=upd H a u:=by
 funext b;unfold upd;split<;>rfl
theorem qcg{H:Hp}{a b:Addr}{o u:HO}(h:H a=some o)(h':H b=some u)(d:o≠u):a≠b:=by
 intro e;subst e;rw[h]at h';exact d (Option.some.inj h')
theorem yab{H:Hp}{a b:Addr}{o:HO}(h:H a=some o)(h':H b=none):a≠b:=by
 intro e;subst e;rw[h]at h';cases h'
section
variable (P:Program) (w:World)
def ya7(H:Hp)(h:Heap)(a:Addr):HO->Prop
 |.lst xs=>xs.length<=sizeLine/\∃(its:List Value) (n:Nat),Vals xs its/\h.get? a=some { cls:=.type "list",data:=.seq its.toArray n }
 |.tup xs=>xs.length<=sizeLine/\∃its:List Value,Vals xs its/\IsTup h a its.toArray
 |.dK kvs=>kvs.length<=sizeLine/\(a == sysModules)=false/\∃vs,KV kvs vs/\h.DictOf (ya4 P w) a vs
 |.dT kvs=>kvs.length<=sizeLine/\(a == sysModules)=false/\∃xs:List (List Key×Addr×Value),
   Paired (λ(p:List Key×V) (q:List Key×Addr×Value)=>p.1=q.1/\H q.2.1=some (.tup (p.1.map kV))/\RelV p.2 q.2.2) kvs xs/\
   ∃o es ep,h.get? a=some o/\o.ExactDict/\o.data=.dict es ep/\es.toList=xs.map (entryOfKey (tupleKind (ya4 P w)))/\(xs.map (·.1)).Nodup
 |.set S n=>h.SetOf (intKind P w) a S n
 |.ins C dx fs=>H dx=some (.own a)/\fs.length<=1000/\dx≠a/\h.get? a=some (W.instObj C dx)/\
   ∃mA,h.Ns1 dx mA/\(∀f,RelO (fs.lookup f) (mA f))/\PySem.Within mA (fs.map (·.1))
 |.own _=>∃o,h.get? a=some o
 |.xd fs=>∃mA,h.Ns1 a mA/\∀f,RelO (fs.lookup f) (mA f)
 |.rng lo hi=>∃t u v,h.get? a=some { cls:=.type "range",data:=.fields #[.int lo t,.int hi u,.int 1 v] }
 |.frz o u=>h.get? a=some o/\ya7 H h a u
 |.tbl ps=>h.get? a=some { cls:=.none,data:=.fields ps }
 |.met f x=>h.get? a=some (W.methodObj (.ref f) (.ref x))
 |.ext φ=>φ h/\(∃o,h.get? a=some o)/\∀h1 h2:Heap,φ h1->(∀o,h1.get? a=some o->h2.get? a=some o)->φ h2
def HOk(H:Hp)(h:Heap):Prop:=∀a o,H a=some o->ya7 P w H h a o
end
section
variable {P:Program}{w:World}{H H':Hp}{h h':Heap}{a:Addr}{o:HO}
theorem ya7.lt(x:ya7 P w H h a o):a<h.objs.size:=by
 cases o with
 |lst xs=>obtain ⟨_,_,_,_,e⟩:=x;exact lt_size e
 |tup xs=>obtain ⟨_,_,_,p⟩:=x;exact p.lt
 |dK kvs=>obtain ⟨_,_,_,_,o,_,_,e,_⟩:=x;exact lt_size e
 |dT kvs=>obtain ⟨_,_,_,_,o,_,_,e,_⟩:=x;exact lt_size e
 |set S n=>obtain ⟨o,_,_,_,e,_⟩:=x;exact lt_size e
 |ins C dx fs=>obtain ⟨_,_,_,e,_⟩:=x;exact lt_size e
 |own y=>obtain ⟨_,e⟩:=x;exact lt_size e
 |xd fs=>obtain ⟨_,⟨_,_,_,e,_⟩,_⟩:=x;exact lt_size e
 |rng lo hi=>obtain ⟨_,_,_,e⟩:=x;exact lt_size e
 |frz ob u=>obtain ⟨e,_⟩:=x;exact lt_size e
 |tbl ps=>exact lt_size (show h.get? a=some _ from x)
 |met f y=>exact lt_size (show h.get? a=some _ from x)
 |ext φ=>obtain ⟨_,⟨_,e⟩,_⟩:=x;exact lt_size e
theorem Paired.mapP{α β:Type}{F G:α->β->Prop}:∀{l₁:List α}{l₂:List β},Paired F l₁ l₂->(∀a b,F a b->G a b)->Paired G l₁ l₂
 |_,_,.nil,_=>.nil
 |_,_,.cons r t,f=>.cons (f _ _ r) (Paired.mapP t f)
theorem ya7.stay(x:ya7 P w H h a o)(k:∀b u,(b=a\/H b=some (.own a))->h.get? b=some u->h'.get? b=some u)
  (ho:∀b,H b=some (.own a)->H' b=some (.own a)) (ht:∀b xs,H b=some (.tup xs)->H' b=some (.tup xs)):ya7 P w H' h' a o:=by
 induction o with
 |lst xs=>obtain ⟨z,its,n,r,e⟩:=x;exact ⟨z,its,n,r,k _ _ (.inl rfl) e⟩
 |tup xs=>obtain ⟨z,its,r,ob,e,c⟩:=x;exact ⟨z,its,r,ob,k _ _ (.inl rfl) e,c⟩
 |dK kvs=>obtain ⟨z,y,vs,r,ob,es,ep,e,c⟩:=x;exact ⟨z,y,vs,r,ob,es,ep,k _ _ (.inl rfl) e,c⟩
 |dT kvs=>
  obtain ⟨z,y,xs,r,ob,es,ep,e,c⟩:=x
  exact ⟨z,y,xs,Paired.mapP r λp q z=>⟨z.1,ht _ _ z.2.1,z.2.2⟩,ob,es,ep,k _ _ (.inl rfl) e,c⟩
 |set S n=>obtain ⟨ob,es,ep,t,e,c⟩:=x;exact ⟨ob,es,ep,t,k _ _ (.inl rfl) e,c⟩
 |ins C dx fs=>
  obtain ⟨d,z,ne,e,mA,⟨od,es,ep,e2,c⟩,r⟩:=x
  exact ⟨ho _ d,z,ne,k _ _ (.inl rfl) e,mA,⟨od,es,ep,k _ _ (.inr d) e2,c⟩,r⟩
 |own y=>obtain ⟨ob,e⟩:=x;exact ⟨ob,k _ _ (.inl rfl) e⟩
 |xd fs=>obtain ⟨mA,⟨od,es,ep,e,c⟩,r⟩:=x;exact ⟨mA,⟨od,es,ep,k _ _ (.inl rfl) e,c⟩,r⟩
 |rng lo hi=>obtain ⟨t,u,v,e⟩:=x;exact ⟨t,u,v,k _ _ (.inl rfl) e⟩
 |frz ob u ih=>obtain ⟨e,q⟩:=x;exact ⟨k _ _ (.inl rfl) e,ih q⟩
 |tbl ps=>
  have e:h.get? a=some { cls:=.none,data:=.fields ps }:=x
  show h'.get? a=some { cls:=.none,data:=.fields ps }
  exact k a _ (.inl rfl) e
 |met f y=>
  have e:h.get? a=some (W.methodObj (.ref f) (.ref y)):=x
  show h'.get? a=some (W.methodObj (.ref f) (.ref y))
  exact k a _ (.inl rfl) e
 |ext φ=>obtain ⟨p,⟨o,e⟩,st⟩:=x;exact ⟨st _ _ p λo q=>k _ _ (.inl rfl) q,⟨o,k _ _ (.inl rfl) e⟩,st⟩
theorem HOk.lt(x:HOk P w H h)(e:H a=some o):a<h.objs.size:=(x a o e).lt
theorem HOk.fresh(x:HOk P w H h)(e:h.objs.size<=a):H a=none:=by
 cases q:H a with
 |none=>rfl
 |some u=>exact absurd (lt_of_lt_of_le (x.lt q) e) (lt_irrefl _)
theorem HOk.kept(x:HOk P w H h)(k:∀b u,h.get? b=some u->h'.get? b=some u):HOk P w H h':=λa o e=>
 (x a o e).stay (λb u _ q=>k b u q) (λ_ q=>q) λ_ _ q=>q
theorem HOk.laid(x:HOk P w H h)(k:∀b u,h.get? b=some u->h'.get? b=some u)(hp:h.objs.size<=a)(new:ya7 P w (upd H a o) h' a o):HOk P w (upd H a o) h':=λb u e=>by
 have hn:=x.fresh hp
 by_cases hb:b=a
 ·subst hb;rw[qab]at e;cases e;exact new
 ·rw[yae hb]at e
  exact (x b u e).stay (λc v _ q=>k c v q) (λc q=>by rw[yae (yab q hn)];exact q) λc xs q=>by rw[yae (yab q hn)];exact q
end
def Rd(H:Hp)(a:Addr)(u:HO):Prop:=H a=some u\/∃o,H a=some (.frz o u)
theorem Rd.ok{P:Program}{w:World}{H:Hp}{h:Heap}{a:Addr}{u:HO}(r:Rd H a u)(x:HOk P w H h):ya7 P w H h a u:=by
 rcases r with r|⟨o,r⟩
 ·exact x a u r
 ·obtain ⟨_,q⟩:=x a _ r
  exact q
def Mut:Option HO->Prop
 |some (.lst _)=>True
 |some (.dK _)=>True
 |some (.dT _)=>True
 |some (.set _ _)=>True
 |some (.ins _ _ _)=>True
 |some (.ext _)=>True
 |_=>False
section
variable {P:Program}{w:World}{H:Hp}{h h':Heap}{x e:Addr}{o':HO}
theorem HOk.write(ok:HOk P w H h)(mu:Mut (H x))(he:e=x\/H e=some (.own x))(k:∀b u,b≠e->h.get? b=some u->h'.get? b=some u)(heo:∃u,h'.get? e=some u)
  (new:ya7 P w (upd H x o') h' x o'):HOk P w (upd H x o') h':=λb u q=>by
 have nown:∀c y,H c=some (.own y)->c≠x:=λc y r z=>by subst z;rw[r]at mu;exact mu
 have ntup:∀c xs,H c=some (.tup xs)->c≠x:=λc xs r z=>by subst z;rw[r]at mu;exact mu
 by_cases hb:b=x
 ·subst hb;rw[qab]at q;cases q;exact new
 ·rw[yae hb]at q
  by_cases hbe:b=e
  ·have q':H b=some (.own x):=by
    rcases he with z|z
    ·exact absurd (hbe.trans z) hb
    ·rw[hbe];exact z
   rw[q]at q';cases q'
   obtain ⟨v,hv⟩:=heo
   exact ⟨v,by rw[hbe];exact hv⟩
  ·refine (ok b u q).stay (λc v hc r=>k c v ?_ r) (λc r=>by rw[yae (nown c b r)];exact r) λc xs r=>by rw[yae (ntup c xs r)];exact r
   rcases hc with rfl|hc
   ·exact hbe
   ·rintro rfl
    rcases he with z|z
    ·exact nown c b hc z
    ·rw[hc]at z;cases z;exact hb rfl
end
structure Un(fs ex:List Addr)(H H':Hp)(h h':Heap):Prop where
 keep:∀b o,h.get? b=some o->H b=none->b∉fs->b∉ex->h'.get? b=some o
 slot:∀b o,h.get? b=some o->H b=none->b∈fs->b∉ex->∃sl,h'.get? b=some { o with slots:=sl }
 free:∀b o,h.get? b=some o->H b=none->b∉ex->H' b=none
 there:∀b o,h.get? b=some o->b∉ex->∃o',h'.get? b=some o'
 tups:∀b xs,H b=some (.tup xs)->H' b=some (.tup xs)
 frzs:∀b o u,H b=some (.frz o u)->H' b=some (.frz o u)
 tbls:∀b ps,H b=some (.tbl ps)->∃more,H' b=some (.tbl (ps++more))
section
variable {fs fs' ex ex':List Addr}{H H1 H2:Hp}{h h1 h2 h':Heap}{a x e:Addr}{o:HO}
theorem Un.any(u:Un fs ex H H1 h h1){b:Addr}{ob:Obj}(q:h.get? b=some ob)(n:H b=none)(hx:b∉ex):∃sl,h1.get? b=some { ob with slots:=sl }:=by
 by_cases hb:b∈fs
 ·exact u.slot b ob q n hb hx
 ·exact ⟨ob.slots,u.keep b ob q n hb hx⟩
theorem Un.kept(k:∀b u,h.get? b=some u->h'.get? b=some u):Un fs ex H H h h':=
 ⟨λb ob q _ _ _=>k b ob q,λb ob q _ _ _=>⟨ob.slots,k b ob q⟩,λ_ _ _ n _=>n,λb ob q _=>⟨ob,k b ob q⟩,λ_ _ q=>q,λ_ _ _ q=>q,λ_ ps q=>⟨#[],by rw[q];simp⟩⟩
theorem Un.refl:Un fs ex H H h h:=Un.kept λ_ _ q=>q
theorem Un.laid(k:∀b u,h.get? b=some u->h'.get? b=some u)(hp:h.objs.size<=a)(hn:H a=none):Un fs ex H (upd H a o) h h' where
 keep:=λb u q _ _ _=>k b u q
 slot:=λb u q _ _ _=>⟨u.slots,k b u q⟩
 free:=λb u q n _=>by rw[yae (ne_of_lt (lt_of_lt_of_le (lt_size q) hp))];exact n
 there:=λb u q _=>⟨u,k b u q⟩
 tups:=λb xs q=>by rw[yae (yab q hn)];exact q
 frzs:=λb u xs q=>by rw[yae (yab q hn)];exact q
 tbls:=λb ps q=>⟨#[],by rw[yae (yab q hn),q];simp⟩
theorem Un.write(mu:Mut (H x))(he:e=x\/H e=some (.own x))(k:∀b u,b≠e->h.get? b=some u->h'.get? b=some u)(heo:∃u,h'.get? e=some u):Un fs ex H (upd H x o) h h':=by
 have hx:∀b,H b=none->b≠x:=λb n z=>by subst z;rw[n]at mu;exact mu
 have hb:∀b,H b=none->b≠e:=λb n z=>by
  subst z
  rcases he with r|r
  ·exact hx b n r
  ·rw[n]at r;cases r
 have hm:∀b u,H b=some u->¬ Mut (some u)->b≠x:=λb u q nm z=>by subst z;rw[q]at mu;exact nm mu
 refine ⟨λb u q n _ _=>k b u (hb b n) q,λb u q n _ _=>⟨u.slots,k b u (hb b n) q⟩,λb u q n _=>by rw[yae (hx b n)];exact n,λb u q _=>?_,
  λb xs q=>by rw[yae (hm b _ q λz=>z)];exact q,λb u xs q=>by rw[yae (hm b _ q λz=>z)];exact q,λb ps q=>⟨#[],by rw[yae (hm b _ q λz=>z),q];simp⟩⟩
 by_cases hbe:b=e
 ·subst hbe;exact heo
 ·exact ⟨u,k b u hbe q⟩
end
def trk(h:Heap)(H:Hp):List Addr:=(List.range h.objs.size).filter λa=>(H a).isSome
def hidT(h:Heap)(H:Hp):Heap:=W.hideAll h (trk h H)
theorem qkr(h:Heap)(H:Hp):(hidT h H).objs.size=h.objs.size:=W.hideAll_size _ _
theorem hidT_get{h:Heap}{H:Hp}{b:Addr}{o:Obj}(e:h.get? b=some o)(n:H b=none):(hidT h H).get? b=some o:=
 W.hideAll_get _ e λhm=>by
  have q:(H b).isSome=true:=(mem_filter.mp hm).2
  rw[n]at q;simp at q
theorem of_hidT{h:Heap}{H:Hp}{b:Addr}{o:Obj}(e:(hidT h H).get? b=some o):h.get? b=some o/\H b=none:=by
 have e':h.get? b=some o:=W.of_hideAll (trk h H) e
 refine ⟨e',?_⟩
 cases q:H b with
 |none=>rfl
 |some x=>
  have hm:b∈trk h H:=mem_filter.mpr ⟨mem_range.mpr (lt_size e'),by simp[q]⟩
  have z:(hidT h H).get? b=none:=W.hideAll_none (trk h H) hm
  rw[z]at e;cases e
structure Mod(K:W.Frag)(mg:Str->Option Value)(base:Heap):Prop where
 kin:K.In base
 glob:base.Ns mainGlobals mg
 blt:∃mb,base.Ns builtinsNs mb/\∀x:Str,x≠"__name__"->mb x=bootBuiltins x
 nolimit:base.NoLimit
structure Cx where
 prog:Program
 w:World
 K:W.Frag
 mg:Str->Option Value
 base:Heap
 A:Around
 N:List Str
 s₀:Shared
 H₀:Hp
 env:Env
 outer:List Env
 stack:List Env
 ex:List Addr
 fn:Str->Bool
 calm:Bool
 pn:List (Addr×Obj)
 xe:Value->Shared->Prop
def frs(l:List Env):List Addr:=l.filterMap (·.frame)
abbrev Cx.fs(X:Cx):List Addr:=frs X.outer
def Vis(sc:Scope)(x:Str):Prop:=sc.names.lookup x=some .local\/sc.names.lookup x=some .cell\/sc.names.lookup x=some .free
def Loc(sc:Scope)(x:Str):Prop:=sc.names.lookup x=some .local\/sc.names.lookup x=some .cell
def Look(env:Env)(h:Heap)(m:Str->Option Value)(x:Str)(u:Value):Prop:=
 (env.kindOf x=some .local/\m x=some u)\/((env.kindOf x=some .cell\/env.kindOf x=some .free)/\∃c,env.cells.lookup x=some c/\h.IsCell c (some u))
structure Cx.Ok(X:Cx):Prop where
 mod:Mod X.K X.mg X.base
 kind:X.env.scope.kind=.function
 glob:X.env.globals=mainGlobals
 blt:X.env.builtins=builtinsNs
 above:X.s₀.heap.objs.size<=X.env.locals
 inj:∀x y c,X.env.cells.lookup x=some c->X.env.cells.lookup y=some c->x=y
 has:∀x,(X.env.kindOf x=some .cell\/X.env.kindOf x=some .free)->∃c,X.env.cells.lookup x=some c
 cab:∀x c,X.fn x=true->X.env.cells.lookup x=some c->X.s₀.heap.objs.size<=c
 hd:X.calm=true->X.A.handled=none
 frames:X.A.frames=some X.stack
 stk:X.stack=X.outer\/(X.stack=X.env::X.outer/\X.env.frame=some X.env.locals)
 exf:∀b∈X.ex,b≠X.env.locals/\∀x c,X.env.cells.lookup x=some c->c≠b
 bs:∀b o,X.base.get? b=some o->X.s₀.heap.get? b=some o/\X.H₀ b=none
 bsz:X.base.objs.size<=X.s₀.heap.objs.size
 noex:∀b o,X.base.get? b=some o->b∉X.ex
 exfs:∀b∈X.ex,b∉X.fs
 funs:X.s₀.heap.FunFrames X.base X.outer
 frf:∀b∈X.fs,X.H₀ b=none
structure Inv(X:Cx)(pins:List (Addr×Obj))(σ:List (Option V))(H:Hp)(s:Shared):Prop where
 ok:X.Ok
 os:s.os=X.s₀.os
 bare:AllBare s.gens
 base:Un X.fs X.ex X.H₀ H X.s₀.heap s.heap
 loc:∃m,s.heap.Ns X.env.locals m/\∀(i:Nat) (x:Str) (v:V),X.N[i]?=some x->σ[i]?=some (some v)->Vis X.env.scope x->∃u,RelV v u/\Look X.env s.heap m x u
 cell:∀x c,X.env.cells.lookup x=some c->∃v,s.heap.IsCell c v
 free:H X.env.locals=none
 freeC:∀x c,X.env.cells.lookup x=some c->H c=none
 pin:∀p∈X.pn++pins,s.heap.get? p.1=some p.2/\H p.1=none/\p.1≠X.env.locals/\p.1∉X.fs/\∀v,p.2.data≠.cell v
 hok:HOk X.prog X.w H s.heap
 len:σ.length=X.N.length
section
variable {X:Cx}{pins:List (Addr×Obj)}{σ:List (Option V)}{H H':Hp}{s:Shared}{h':Heap}
theorem Cx.Ok.nofr(ok:X.Ok){b:Addr}{o:Obj}(e:X.base.get? b=some o):b∉X.fs:=λhb=>by
 have:=(ok.funs.mem hb).1
 rw[e]at this;cases this
theorem Inv.bs(I:Inv X pins σ H s):∀b o,X.base.get? b=some o->s.heap.get? b=some o/\H b=none:=λb o e=>
 ⟨I.base.keep b o (I.ok.bs b o e).1 (I.ok.bs b o e).2 (I.ok.nofr e) (I.ok.noex b o e),I.base.free b o (I.ok.bs b o e).1 (I.ok.bs b o e).2 (I.ok.noex b o e)⟩
theorem Inv.bk(I:Inv X pins σ H s):∀b o,X.base.get? b=some o->s.heap.get? b=some o:=λb o e=>(I.bs b o e).1
theorem Inv.mod(I:Inv X pins σ H s):Mod X.K X.mg X.base:=I.ok.mod
theorem Inv.kIn(I:Inv X pins σ H s):X.K.In s.heap:=I.ok.mod.kin.keeps I.bk
theorem Inv.lt(I:Inv X pins σ H s):X.env.locals<s.heap.objs.size:=let ⟨_,hn,_⟩:=I.loc;hn.lt
theorem Inv.sz(I:Inv X pins σ H s):X.s₀.heap.objs.size<=s.heap.objs.size:=le_trans I.ok.above (le_of_lt I.lt)
theorem Inv.nofs(I:Inv X pins σ H s){a:Addr}(h:s.heap.objs.size<=a):a∉X.fs:=λhb=>by
 obtain ⟨_,o,ho,_⟩:=I.ok.funs.mem hb
 exact absurd (lt_of_lt_of_le (lt_size ho) (le_trans I.sz h)) (lt_irrefl _)
theorem Inv.cne(I:Inv X pins σ H s):∀x c,X.env.cells.lookup x=some c->c≠X.env.locals:=λx c e z=>by
 obtain ⟨v,o,ho,hd⟩:=I.cell x c e
 obtain ⟨m,⟨o',es,ep,ho',hd',_⟩,_⟩:=I.loc
 rw[z,ho']at ho;cases ho;rw[hd']at hd;cases hd
theorem Inv.funs(I:Inv X pins σ H s):s.heap.FunFrames X.base X.outer:=by
 have all:∀(l:List Env),(∀b∈frs l,b∈X.fs)->X.s₀.heap.FunFrames X.base l->s.heap.FunFrames X.base l:=by
  intro l
  induction l with
  |nil=>intro _ _;trivial
  |cons env r ih=>
   intro hs hl
   obtain ⟨hk,⟨L,o,hf,hn,ho,hd⟩,hr⟩:=hl
   have hL:L∈X.fs:=hs L (by unfold frs;rw[List.filterMap_cons,hf];exact mem_cons_self)
   obtain ⟨sl,e⟩:=I.base.slot L o ho (I.ok.frf L hL) hL λz=>I.ok.exfs L z hL
   exact ⟨hk,⟨L,_,hf,hn,e,hd⟩,ih (λb hb=>hs b (by unfold frs;rw[List.filterMap_cons,hf];exact mem_cons_of_mem _ hb)) hr⟩
 exact all X.outer (λ_ hb=>hb) I.ok.funs
theorem Inv.stack(I:Inv X pins σ H s):s.heap.FunFrames X.base X.stack:=by
 rcases I.ok.stk with e|⟨e,hf⟩
 ·rw[e];exact I.funs
 ·rw[e]
  obtain ⟨m,hn,_⟩:=I.loc
  refine .cons (by rw[I.ok.kind];decide) hf hn ?_ I.funs
  exact Heap.get?_none_of_le (le_trans I.ok.bsz I.ok.above)
theorem Inv.stkSub(I:Inv X pins σ H s):∀b∈frs X.stack,b∈X.env.locals::X.fs:=λb hb=>by
 rcases I.ok.stk with e|⟨e,hf⟩
 ·rw[e]at hb;exact mem_cons_of_mem _ hb
 ·rw[e]at hb
  unfold frs at hb
  rw[List.filterMap_cons,hf]at hb
  exact hb
theorem Inv.stkFree(I:Inv X pins σ H s):∀b∈frs X.stack,H b=none:=λb hb=>by
 rcases mem_cons.mp (I.stkSub b hb) with e|hb
 ·rw[e];exact I.free
 ·obtain ⟨_,o,ho,_⟩:=I.ok.funs.mem hb
  exact I.base.free b o ho (I.ok.frf b hb) λz=>I.ok.exfs b z hb
theorem Inv.step{g':Array GenState}{t':Nat}{d':Drawn}{ch:List Addr}(I:Inv X pins σ H s)
  (hch:∀b∈ch,(b∈X.ex\/X.s₀.heap.objs.size<=b)/\b≠X.env.locals/\(∀x c,X.env.cells.lookup x=some c->c≠b)/\∀p∈X.pn++pins,p.1≠b)
  (keep:∀b o,b≠X.env.locals->b∉X.fs->b∉ch->s.heap.get? b=some o->H b=none->h'.get? b=some o)
  (slot:∀b o,b≠X.env.locals->b∈X.fs->b∉ch->s.heap.get? b=some o->H b=none->∃sl,h'.get? b=some { o with slots:=sl }) (free:∀b o,b∉ch->s.heap.get? b=some o->H b=none->H' b=none)
  (there:∀b o,b∉ch->s.heap.get? b=some o->∃o',h'.get? b=some o')
  (tups:∀b xs,H b=some (.tup xs)->H' b=some (.tup xs)) (frzs:∀b o u,H b=some (.frz o u)->H' b=some (.frz o u)) (tbls:∀b ps,H b=some (.tbl ps)->∃more,H' b=some (.tbl (ps++more)))
  (ns:∀m,s.heap.Ns X.env.locals m->h'.Ns X.env.locals m) (hok:HOk X.prog X.w H' h') (hg:AllBare g') :
  Inv X pins σ H' { s with heap:=h',gens:=g',drawn:=d',toks:=t' }:=by
 have neL:∀b o,X.s₀.heap.get? b=some o->b≠X.env.locals:=λb o e=>ne_of_lt (lt_of_lt_of_le (lt_size e) I.ok.above)
 have neC:∀b o,X.s₀.heap.get? b=some o->b∉X.ex->b∉ch:=λb o e hx hb=>by
  rcases (hch b hb).1 with z|z
  ·exact hx z
  ·exact absurd (lt_of_lt_of_le (lt_size e) z) (lt_irrefl _)
 have cellK:∀x c,X.env.cells.lookup x=some c->∀v,s.heap.IsCell c v->h'.IsCell c v:=λx c e v ⟨o,ho,hd⟩=>by
  have nch:c∉ch:=λz=>(hch c z).2.2.1 x c e rfl
  by_cases hc:c∈X.fs
  ·obtain ⟨sl,q⟩:=slot c o (I.cne x c e) hc nch ho (I.freeC x c e)
   exact ⟨_,q,hd⟩
  ·exact ⟨o,keep c o (I.cne x c e) hc nch ho (I.freeC x c e),hd⟩
 refine ⟨I.ok,I.os,hg,⟨λb o e n hb hx=>?_,λb o e n hb hx=>?_,λb o e n hx=>?_,λb o e hx=>?_,λb xs e=>tups b xs (I.base.tups b xs e),λb o xs e=>frzs b o xs (I.base.frzs b o xs e),λb ps e=>?_⟩,?_,λx c e=>?_,?_,λx c e=>?_,λp hp=>?_,hok,I.len⟩
 ·exact keep b o (neL b o e) hb (neC b o e hx) (I.base.keep b o e n hb hx) (I.base.free b o e n hx)
 ·obtain ⟨sl,e1⟩:=I.base.slot b o e n hb hx
  obtain ⟨sl',e2⟩:=slot b _ (neL b o e) hb (neC b o e hx) e1 (I.base.free b o e n hx)
  exact ⟨sl',e2⟩
 ·obtain ⟨o',e1⟩:=I.base.there b o e hx
  exact free b o' (neC b o e hx) e1 (I.base.free b o e n hx)
 ·obtain ⟨o',e1⟩:=I.base.there b o e hx
  exact there b o' (neC b o e hx) e1
 ·obtain ⟨m1,e1⟩:=I.base.tbls b ps e
  obtain ⟨m2,e2⟩:=tbls b _ e1
  exact ⟨m1++m2,by rw[e2,Array.append_assoc]⟩
 ·obtain ⟨m,hn,hl⟩:=I.loc
  refine ⟨m,ns m hn,λi x v e1 e2 e3=>?_⟩
  obtain ⟨u,r,l⟩:=hl i x v e1 e2 e3
  refine ⟨u,r,?_⟩
  rcases l with l|⟨k,c,e,z⟩
  ·exact .inl l
  ·exact .inr ⟨k,c,e,cellK x c e _ z⟩
 ·obtain ⟨v,z⟩:=I.cell x c e
  exact ⟨v,cellK x c e v z⟩
 ·obtain ⟨m,⟨o,_,_,ho,_⟩,_⟩:=I.loc
  exact free _ o (λz=>(hch _ z).2.1 rfl) ho I.free
 ·obtain ⟨v,o,ho,hd⟩:=I.cell x c e
  exact free c o (λz=>(hch c z).2.2.1 x c e rfl) ho (I.freeC x c e)
 ·obtain ⟨e,n,ne,nf,d⟩:=I.pin p hp
  have nch:p.1∉ch:=λz=>(hch p.1 z).2.2.2 p hp rfl
  exact ⟨keep p.1 p.2 ne nf nch e n,free p.1 p.2 nch e n,ne,nf,d⟩
theorem Inv.un{t':Nat}(I:Inv X pins σ H s)(u:Un X.fs [] H H' s.heap h')(hok:HOk X.prog X.w H' h'):Inv X pins σ H' { s with heap:=h',toks:=t' }:=by
 obtain ⟨m,⟨o,es,ep,ho,r⟩,_⟩:=id I.loc
 obtain ⟨sl,hL⟩:=u.any ho I.free (by simp)
 exact I.step (g':=s.gens) (d':=s.drawn) (ch:=[]) (λ_ z=>nomatch z) (λb o _ hb _ e n=>u.keep b o e n hb (by simp)) (λb o _ hb _ e n=>u.slot b o e n hb (by simp)) (λb o _ e n=>u.free b o e n (by simp)) (λb o _ e=>u.there b o e (by simp)) u.tups u.frzs u.tbls (λm' hm=>by
  obtain ⟨o',es',ep',ho',r'⟩:=hm
  rw[ho]at ho';cases ho'
  exact ⟨_,es',ep',hL,r'⟩) hok I.bare
theorem Inv.call{g':Array GenState}{t':Nat}{d':Drawn}{ch:List Addr}(I:Inv X pins σ H s)(u:Un (frs X.stack) ch H H' s.heap h')(hok:HOk X.prog X.w H' h')(hg:AllBare g')
  (hch:∀b∈ch,(b∈X.ex\/X.s₀.heap.objs.size<=b)/\b≠X.env.locals/\(∀x c,X.env.cells.lookup x=some c->c≠b)/\∀p∈X.pn++pins,p.1≠b) :
  Inv X pins σ H' { s with heap:=h',gens:=g',drawn:=d',toks:=t' }:=by
 obtain ⟨m,⟨o,es,ep,ho,r⟩,_⟩:=id I.loc
 obtain ⟨sl,hL⟩:=u.any ho I.free λz=>(hch _ z).2.1 rfl
 exact I.step (ch:=ch) hch (λb o hL hb hc e n=>u.keep b o e n (λz=>(mem_cons.mp (I.stkSub b z)).elim hL hb) hc) (λb o _ _ hc e n=>u.any e n hc) (λb o hc e n=>u.free b o e n hc) (λb o hc e=>u.there b o e hc) u.tups u.frzs u.tbls (λm' hm=>by
  obtain ⟨o',es',ep',ho',r'⟩:=hm
  rw[ho]at ho';cases ho'
  exact ⟨_,es',ep',hL,r'⟩) hok hg
theorem Inv.turned{t':Nat}{it:Addr}(I:Inv X pins σ H s)(k:∀b o,b≠it->s.heap.get? b=some o->h'.get? b=some o)(hn:H it=none)(hL:it≠X.env.locals)
  (h1:it∈X.ex\/X.s₀.heap.objs.size<=it) (h2:∀x c,X.env.cells.lookup x=some c->c≠it) (h3:∀p∈X.pn++pins,p.1≠it):Inv X pins σ H { s with heap:=h',toks:=t' }:=by
 have nit:∀b u,H b=some u->b≠it:=λb u e z=>by rw[z,hn]at e;cases e
 refine I.step (g':=s.gens) (d':=s.drawn) (ch:=[it]) (λb hb=>?_) (λb o _ _ hc e _=>k b o (λz=>hc (by simp[z])) e) (λb o _ _ hc e _=>⟨o.slots,k b o (λz=>hc (by simp[z])) e⟩) (λ_ _ _ _ n=>n)
  (λb o hc e=>⟨o,k b o (λz=>hc (by simp[z])) e⟩) (λ_ _ e=>e) (λ_ _ _ e=>e) (λb ps e=>⟨#[],by rw[e];simp⟩) (λm hm=>?_) (λb u e=>?_) I.bare
 ·have e:b=it:=by simpa using hb
  subst e
  exact ⟨h1,hL,h2,h3⟩
 ·obtain ⟨o,es,ep,ho,r⟩:=hm
  exact ⟨o,es,ep,k _ o (Ne.symm hL) ho,r⟩
 ·refine (I.hok b u e).stay (λc v hc q=>k c v ?_ q) (λ_ q=>q) λ_ _ q=>q
  rcases hc with z|z
  ·rw[z];exact nit b u e
  ·exact nit c _ z
theorem Inv.tok(I:Inv X pins σ H s)(t:Nat):Inv X pins σ H { s with toks:=t }:=I.un (h':=s.heap) (t':=t) Un.refl I.hok
theorem Inv.kept{t':Nat}(I:Inv X pins σ H s)(k:∀b u,s.heap.get? b=some u->h'.get? b=some u):Inv X pins σ H { s with heap:=h',toks:=t' }:=I.un (Un.kept k) (I.hok.kept k)
theorem Inv.laid{a:Addr}{o:HO}{t':Nat}(I:Inv X pins σ H s)(k:∀b u,s.heap.get? b=some u->h'.get? b=some u)(hp:s.heap.objs.size<=a)(new:ya7 X.prog X.w (upd H a o) h' a o) :
  Inv X pins σ (upd H a o) { s with heap:=h',toks:=t' }:=I.un (Un.laid k hp (I.hok.fresh hp)) (I.hok.laid k hp new)
theorem Inv.write{x e:Addr}{o:HO}{t':Nat}(I:Inv X pins σ H s)(mu:Mut (H x))(he:e=x\/H e=some (.own x))(k:∀b u,b≠e->s.heap.get? b=some u->h'.get? b=some u)(heo:∃u,h'.get? e=some u)
  (new:ya7 X.prog X.w (upd H x o) h' x o):Inv X pins σ (upd H x o) { s with heap:=h',toks:=t' }:=I.un (Un.write mu he k heo) (I.hok.write mu he k heo new)
theorem Inv.weak{σ':List (Option V)}(I:Inv X pins σ H s)(hl:σ'.length=σ.length)(w:∀(i:Nat) v,σ'[i]?=some (some v)->σ[i]?=some (some v)):Inv X pins σ' H s:=
 ⟨I.ok,I.os,I.bare,I.base,let ⟨m,hn,hl'⟩:=I.loc;⟨m,hn,λi x v e1 e2 e3=>hl' i x v e1 (w i v e2) e3⟩,I.cell,I.free,I.freeC,I.pin,I.hok,hl.trans I.len⟩
theorem Inv.pins_of{pins':List (Addr×Obj)}(I:Inv X pins σ H s)(h:∀p∈pins',s.heap.get? p.1=some p.2/\H p.1=none/\p.1≠X.env.locals/\p.1∉X.fs/\∀v,p.2.data≠.cell v):Inv X pins' σ H s:=
 ⟨I.ok,I.os,I.bare,I.base,I.loc,I.cell,I.free,I.freeC,λp hp=>(mem_append.mp hp).elim (λz=>I.pin p (mem_append_left _ z)) (h p),I.hok,I.len⟩
theorem yjj{N:List Str}(hN:N.Nodup){i j:Nat}{x:Str}(a:N[i]?=some x)(b:N[j]?=some x):i=j:=by
 obtain ⟨h1,e1⟩:=List.getElem?_eq_some_iff.mp a
 obtain ⟨h2,e2⟩:=List.getElem?_eq_some_iff.mp b
 exact (List.getElem_inj hN).mp (e1.trans e2.symm)
theorem yhu{M:Model}{A:Around}{E:Value->Shared->Prop}{i:Nat}{x:Str}{v:V}{u:Value}{Q:Unit->Shared->Prop}(I:Inv X pins σ H s)(hN:X.N.Nodup)(hi:X.N[i]?=some x)(hx:Loc X.env.scope x)(r:RelV v u)
  (h:∀s',Inv X pins (σ.set i (some v)) H s'->(∃a,Heap.SameBut a s.heap s'.heap/\(a=X.env.locals\/X.env.cells.lookup x=some a))->Q () s') (hf:X.fn x=true\/X.env.scope.names.lookup x=some .local:=by first|exact .inl rfl|exact .inr rfl|assumption):wpAny M A (storeName X.env x u) Q E s:=by
 obtain ⟨m,hn,hl⟩:=id I.loc
 have hcls:(X.env.scope.kind == .class||(X.env.scope.kind == .module&&X.env.locals != X.env.globals))=false:=by rw[I.ok.kind];rfl
 have hiσ:i<σ.length:=by rw[I.len];exact (List.getElem?_eq_some_iff.mp hi).1
 have cne:=I.cne
 have tracked:∀{a:Addr}{h':Heap},(∃o,s.heap.get? a=some o/\H a=none)->Heap.SameBut a s.heap h'->HOk X.prog X.w H h':=λ{a h'} ha hs b ob e=>by
  obtain ⟨_,_,hfree⟩:=ha
  refine (I.hok b ob e).stay (λc w' hc q=>(hs.2 c ?_).trans q) (λ_ q=>q) λ_ _ q=>q
  rintro rfl
  rcases hc with rfl|hc
  ·rw[hfree]at e;cases e
  ·rw[hfree]at hc;cases hc
 rcases hx with hk|hk
 ·refine wpAny_storeName_local hk hn (λh' hn' hs=>?_) hcls
  obtain ⟨oL,_,_,hoL,_⟩:=id hn
  refine h _ ⟨I.ok,I.os,I.bare,⟨λb o e n hb hx=>?_,λb o e n hb hx=>?_,I.base.free,λb o e hx=>?_,I.base.tups,I.base.frzs,I.base.tbls⟩,⟨_,hn',λj y v' e1 e2 e3=>?_⟩,λy c e=>?_,I.free,I.freeC,λp hp=>?_,tracked ⟨oL,hoL,I.free⟩ hs,by simpa using I.len⟩ ⟨_,hs,.inl rfl⟩
  ·exact (hs.2 b (ne_of_lt (lt_of_lt_of_le (lt_size e) I.ok.above))).trans (I.base.keep b o e n hb hx)
  ·obtain ⟨sl,e1⟩:=I.base.slot b o e n hb hx
   exact ⟨sl,(hs.2 b (ne_of_lt (lt_of_lt_of_le (lt_size e) I.ok.above))).trans e1⟩
  ·obtain ⟨o',e1⟩:=I.base.there b o e hx
   exact ⟨o',(hs.2 b (ne_of_lt (lt_of_lt_of_le (lt_size e) I.ok.above))).trans e1⟩
  ·by_cases hj:j=i
   ·subst hj
    rw[hi]at e1;cases e1
    rw[List.getElem?_set_self hiσ]at e2
    cases e2
    exact ⟨u,r,.inl ⟨hk,by simp⟩⟩
   ·rw[getElem?_set_ne (Ne.symm hj)]at e2
    obtain ⟨u',r',q⟩:=hl j y v' e1 e2 e3
    refine ⟨u',r',?_⟩
    rcases q with ⟨k,e⟩|⟨k,c,e,z⟩
    ·refine .inl ⟨k,?_⟩
     have:y≠x:=λe=>hj (yjj hN e1 (e ▸ hi))
     simp[this,e]
    ·exact .inr ⟨k,c,e,z.sameBut hs (cne y c e)⟩
  ·obtain ⟨w',z⟩:=I.cell y c e
   exact ⟨w',z.sameBut hs (cne y c e)⟩
  ·obtain ⟨e,n,ne,nf,d⟩:=I.pin p hp
   exact ⟨(hs.2 p.1 ne).trans e,n,ne,nf,d⟩
 ·have hfn:X.fn x=true:=by
   rcases hf with z|z
   ·exact z
   ·rw[z]at hk;cases hk
  obtain ⟨c,hc⟩:=I.ok.has x (.inl hk)
  obtain ⟨w',z⟩:=I.cell x c hc
  refine wpAny_storeName_cell I.ok.kind hk hc z (λh' hc' hs=>?_)
  obtain ⟨oc,hoc,hocd⟩:=id z
  refine h { s with heap:=h' } ⟨I.ok,I.os,I.bare,⟨λb o e n hb hx=>?_,λb o e n hb hx=>?_,I.base.free,λb o e hx=>?_,I.base.tups,I.base.frzs,I.base.tbls⟩,⟨m,hn.sameBut hs (Ne.symm (cne x c hc)),λj y v' e1 e2 e3=>?_⟩,λy c' e=>?_,I.free,I.freeC,λp hp=>?_,tracked ⟨oc,hoc,I.freeC x c hc⟩ hs,by simpa using I.len⟩ ⟨c,hs,.inr hc⟩
  ·exact (hs.2 b (ne_of_lt (lt_of_lt_of_le (lt_size e) (I.ok.cab x c hfn hc)))).trans (I.base.keep b o e n hb hx)
  ·obtain ⟨sl,e1⟩:=I.base.slot b o e n hb hx
   exact ⟨sl,(hs.2 b (ne_of_lt (lt_of_lt_of_le (lt_size e) (I.ok.cab x c hfn hc)))).trans e1⟩
  ·obtain ⟨o',e1⟩:=I.base.there b o e hx
   exact ⟨o',(hs.2 b (ne_of_lt (lt_of_lt_of_le (lt_size e) (I.ok.cab x c hfn hc)))).trans e1⟩
  ·by_cases hj:j=i
   ·subst hj
    rw[hi]at e1;cases e1
    rw[List.getElem?_set_self hiσ]at e2
    cases e2
    exact ⟨u,r,.inr ⟨.inl hk,c,hc,hc'⟩⟩
   ·rw[getElem?_set_ne (Ne.symm hj)]at e2
    obtain ⟨u',r',q⟩:=hl j y v' e1 e2 e3
    refine ⟨u',r',?_⟩
    rcases q with q|⟨k,c',e,z'⟩
    ·exact .inl q
    ·refine .inr ⟨k,c',e,z'.sameBut hs ?_⟩
     rintro rfl
     exact hj (yjj hN e1 (I.ok.inj _ _ _ e hc ▸ hi))
  ·by_cases hcc:c'=c
   ·subst hcc;exact ⟨_,hc'⟩
   ·obtain ⟨w2,z2⟩:=I.cell y c' e
    exact ⟨w2,z2.sameBut hs hcc⟩
  ·obtain ⟨e,n,ne,nf,d⟩:=I.pin p hp
   refine ⟨(hs.2 p.1 ?_).trans e,n,ne,nf,d⟩
   intro q
   rw[q,hoc]at e
   have q':oc=p.2:=Option.some.inj e
   exact d w' (by rw[<-q'];exact hocd)
theorem yju{M:Model}{A:Around}{E:Value->Shared->Prop}{i:Nat}{x:Str}{v:V}{u:Value}{Q:Unit->Shared->Prop}(I:Inv X pins σ H s)(hN:X.N.Nodup)(hi:X.N[i]?=some x)(hx:Loc X.env.scope x)(r:RelV v u)
  (h:∀s',Inv X pins (σ.set i (some v)) H s'->Q () s') (hf:X.fn x=true\/X.env.scope.names.lookup x=some .local:=by first|exact .inl rfl|exact .inr rfl|assumption):wpAny M A (storeName X.env x u) Q E s:=
 yhu I hN hi hx r (λs' I' _=>h s' I') hf
theorem Inv.call'{s':Shared}{ch:List Addr}(I:Inv X pins σ H s)(ho:s'.os=s.os)(u:Un (frs X.stack) ch H H' s.heap s'.heap)(hok:HOk X.prog X.w H' s'.heap)(hg:AllBare s'.gens)
  (hch:∀b∈ch,(b∈X.ex\/X.s₀.heap.objs.size<=b)/\b≠X.env.locals/\(∀x c,X.env.cells.lookup x=some c->c≠b)/\∀p∈X.pn++pins,p.1≠b):Inv X pins σ H' s':=by
 obtain ⟨h',g',d',t',o'⟩:=s'
 have e:o'=s.os:=ho
 subst e
 exact I.call (g':=g') (t':=t') (d':=d') u hok hg hch
end
abbrev XK:=Value->Option Addr->Hp->Prop
abbrev St:=List (Option V)
abbrev VK:=V->Hp->Prop
abbrev TE:=St->Hp->VK->Prop
abbrev TT:=St->Hp->(Bool->Hp->Prop)->Prop
abbrev TA:=St->Hp->(List V->Hp->Prop)->Prop
structure Ends where
 nx:St->Hp->Prop
 rt:VK
 bk:St->Hp->Prop:=λ_ _=>False
 ct:St->Hp->Prop:=λ_ _=>False
abbrev TS:=Ends->St->Hp->Prop
def EP(X:Cx)(pins:List (Addr×Obj))(σ:St)(Q:VK)(u:Value)(s':Shared):Prop:=∃v H',Inv X pins σ H' s'/\RelV v u/\Q v H'
def TP(X:Cx)(pins:List (Addr×Obj))(σ:St)(Q:Bool->Hp->Prop)(b:Bool)(s':Shared):Prop:=∃H',Inv X pins σ H' s'/\Q b H'
def AP(X:Cx)(pins:List (Addr×Obj))(σ:St)(Q:List V->Hp->Prop)(us:List Value)(s':Shared):Prop:=∃vs H',Inv X pins σ H' s'/\Vals vs us/\Q vs H'
def SP(X:Cx)(pins:List (Addr×Obj))(D:Ends)(f:Flow)(s':Shared):Prop:=
 match f with
 |.next=>∃σ' H',Inv X pins σ' H' s'/\D.nx σ' H'
 |.brk=>∃σ' H',Inv X pins σ' H' s'/\D.bk σ' H'
 |.cont=>∃σ' H',Inv X pins σ' H' s'/\D.ct σ' H'
 |.ret u=>∃v σ' H',Inv X pins σ' H' s'/\RelV v u/\D.rt v H'
def PE(X:Cx)(e:Expr)(t:TE):Prop:=
 ∀(pins:List (Addr×Obj)) (s:Shared) (σ:St) (H:Hp) (Q:VK),Inv X pins σ H s->t σ H Q->wpAny (model X.prog X.w) X.A (eval e X.env) (EP X pins σ Q) X.xe s
def PT(X:Cx)(e:Expr)(t:TT):Prop:=
 ∀(pins:List (Addr×Obj)) (s:Shared) (σ:St) (H:Hp) (Q:Bool->Hp->Prop),Inv X pins σ H s->t σ H Q->wpAny (model X.prog X.w) X.A (isTrue e X.env (eval e X.env)) (TP X pins σ Q) X.xe s
def PW(X:Cx)(e:Expr)(t:TT):Prop:=
 ∀(whole:Sem Value) (pins:List (Addr×Obj)) (s:Shared) (σ:St) (H:Hp) (Q:Bool->Hp->Prop),Inv X pins σ H s->t σ H Q->wpAny (model X.prog X.w) X.A (isTrue e X.env whole) (TP X pins σ Q) X.xe s
theorem PW.pt{X:Cx}{e:Expr}{t:TT}(h:PW X e t):PT X e t:=h _
def PA(X:Cx)(es:List Expr)(t:TA):Prop:=
 ∀(pos:Pos) (pins:List (Addr×Obj)) (s:Shared) (σ:St) (H:Hp) (Q:List V->Hp->Prop),Inv X pins σ H s->t σ H Q->wpAny (model X.prog X.w) X.A (spliced (backTo pos (starEach es X.env))) (AP X pins σ Q) X.xe s
def PS(X:Cx)(st:Stmt)(t:TS):Prop:=
 ∀(pins:List (Addr×Obj)) (s:Shared) (σ:St) (H:Hp) (D:Ends),Inv X pins σ H s->t D σ H->wpAny (model X.prog X.w) X.A (exec st X.env) (SP X pins D) X.xe s
def PSs(X:Cx)(st:List Stmt)(t:TS):Prop:=
 ∀(pins:List (Addr×Obj)) (s:Shared) (σ:St) (H:Hp) (D:Ends),Inv X pins σ H s->t D σ H->wpAny (model X.prog X.w) X.A (execs st X.env) (SP X pins D) X.xe s
theorem thn{α:Type}{t:Sem α}{Q Q':α->Shared->Prop}{M:Model}{A:Around}{E:Value->Shared->Prop}{s:Shared}(h:wpAny M A t Q E s)(hQ:∀a s,Q a s->Q' a s):wpAny M A t Q' E s:=wpAny_mono h hQ λ_ _ x=>x
section
variable {X:Cx}
def tVar(i:Nat):TE:=λσ H Q=>∃v,σ[i]?=some (some v)/\Q v H
def tC(v:V):TE:=λ_ H Q=>Q v H
theorem pe_var{i:Nat}{x:Str}{pos:Pos}(hN:X.N[i]?=some x)(hv:Vis X.env.scope x)(hd:(x == ("__debug__" : Str))=false:=by decide)(hcd:(x == ("__classdict__" : Str))=false:=by decide):PE X (.Name x pos) (tVar i):=by
 intro pins s σ H Q I h
 obtain ⟨v,e,h⟩:=h
 obtain ⟨m,hn,hl⟩:=I.loc
 obtain ⟨u,r,l⟩:=hl i x v hN e hv
 have fin:EP X pins σ Q u s:=⟨v,H,I,r,h⟩
 rcases l with ⟨hk,hm⟩|⟨hk,c,hc,hcell⟩
 ·exact wpAny_Name (wpAny_loadName_local I.ok.kind hk hn hm fin) hd
 ·rcases hk with hk|hk
  ·exact wpAny_Name (wpAny_loadName_cell I.ok.kind hk hc hcell fin) hd
  ·exact wpAny_Name (wpAny_loadName_free I.ok.kind hk hc hcell fin hcd) hd
theorem qac{i j pos}:PE X (.Constant (.int i) j pos) (tC (.int i)):=λ_ _ _ H _ I h=>wpAny_Constant_int ⟨.int i,H,I.tok _,⟨_,rfl⟩,h⟩
theorem qfo{b j pos}:PE X (.Constant (.bool b) j pos) (tC (.bl b)):=λ_ _ _ H _ I h=>Constant_bool ⟨.bl b,H,I,rfl,h⟩
theorem pe_non{j pos}:PE X (.Constant .none j pos) (tC .non):=λ_ _ _ H _ I h=>Constant_none ⟨.non,H,I,rfl,h⟩
theorem yan{x j pos}:PE X (.Constant (.str x) j pos) (tC (.str x)):=λ_ _ _ H _ I h=>Calls.Constant_str ⟨.str x,H,I.tok _,⟨_,rfl⟩,h⟩
def Gl(X:Cx)(x:Str):Prop:=X.env.kindOf x=some .globalImplicit
theorem qi3{E:Value->Shared->Prop}{pins:List (Addr×Obj)}{s:Shared}{σ:St}{H:Hp}{x:Str}{u:Value}{pos:Pos}{Q:Value->Shared->Prop}(I:Inv X pins σ H s)(hg:Gl X x)(hm:X.mg x=some u)(h:Q u s)
  (hd:(x == ("__debug__" : Str))=false:=by decide):wpAny (model X.prog X.w) X.A (eval (.Name x pos) X.env) Q E s:=
 Calls.Name_function_global I.ok.kind hg (Calls.loadGlobal_global (by rw[I.ok.glob];exact I.mod.glob.keeps I.bk) hm h) hd
theorem yfx{E:Value->Shared->Prop}{pins:List (Addr×Obj)}{s:Shared}{σ:St}{H:Hp}{x:Str}{u:Value}{pos:Pos}{Q:Value->Shared->Prop}(I:Inv X pins σ H s)(hg:Gl X x)(hm:X.mg x=none)(hv:bootBuiltins x=some u)(h:Q u s)
  (hn:x≠"__name__":=by decide) (hd:(x == ("__debug__" : Str))=false:=by decide):wpAny (model X.prog X.w) X.A (eval (.Name x pos) X.env) Q E s:=by
 obtain ⟨mb,h1,h2⟩:=I.mod.blt
 exact Calls.Name_function_global I.ok.kind hg (Calls.loadGlobal_builtin (by rw[I.ok.glob];exact I.mod.glob.keeps I.bk) hm (by rw[I.ok.blt];exact h1.keeps I.bk) ((h2 x hn).trans hv) h) hd
theorem yfz{x:Str}{v:V}{u:Value}{pos:Pos}(hg:Gl X x)(hm:X.mg x=some u)(r:RelV v u)(hd:(x == ("__debug__" : Str))=false:=by decide):PE X (.Name x pos) (tC v):=
 λ_ _ _ H _ I h=>qi3 I hg hm ⟨v,H,I,r,h⟩ hd
theorem yb3{x:Str}{v:V}{u:Value}{pos:Pos}(hg:Gl X x)(hm:X.mg x=none)(hv:bootBuiltins x=some u)(r:RelV v u)(hn:x≠"__name__":=by decide)(hd:(x == ("__debug__" : Str))=false:=by decide):PE X (.Name x pos) (tC v):=
 λ_ _ _ H _ I h=>yfx I hg hm hv ⟨v,H,I,r,h⟩ hn hd
variable {a b:Expr}{ta tb:TE}{pos:Pos}
def PC(X:Cx)(op:CmpOp)(a b:Expr)(t:TE):Prop:=
 ∀(pins:List (Addr×Obj)) (s:Shared) (σ:St) (H:Hp) (Q:VK),Inv X pins σ H s->t σ H Q->
  wpAny (model X.prog X.w) X.A (eval a X.env) (λv s₁=>wpAny (model X.prog X.w) X.A (eval b X.env) (λu s₂=>wpAny (model X.prog X.w) X.A (compareOp op v u) (EP X pins σ Q) X.xe s₂) X.xe s₁) X.xe s
theorem nobehind(b:Expr){op:CmpOp}(h:op≠.In)(h2:op≠.NotIn):behindInMarks op b=false:=by
 have e1:(op == CmpOp.In)=false:=by cases op<;>first|rfl|exact absurd rfl h
 have e2:(op == CmpOp.NotIn)=false:=by cases op<;>first|rfl|exact absurd rfl h2
 cases b<;>simp[behindInMarks,e1,e2]
def tIsN(ta:TE):TE:=λσ H Q=>ta σ H λx H1=>Q (.bl (decide (x=.non))) H1
def tNotN(ta:TE):TE:=λσ H Q=>ta σ H λx H1=>Q (.bl (!decide (x=.non))) H1
theorem RelV.none_iff{x:V}{v:Value}(r:RelV x v):(v == Value.none)=decide (x=.non):=by
 cases x with
 |non=>cases r;rfl
 |bl _=>cases r;rfl
 |int _=>obtain ⟨t,rfl⟩:=r;rfl
 |str _=>obtain ⟨t,rfl⟩:=r;rfl
 |byt _=>obtain ⟨t,rfl⟩:=r;rfl
 |flt _=>obtain ⟨t,rfl⟩:=r;rfl
 |ref _=>cases r;rfl
 |ty _=>cases r;rfl
theorem pc_isN{j pos'}(ha:PE X a ta):PC X .Is a (.Constant .none j pos') (tIsN ta):=by
 intro pins s σ H Q I h
 refine thn (ha pins s σ H _ I h) λv s1 ⟨x,H1,I1,r1,q1⟩=>?_
 exact Constant_none (is_none_gen ⟨.bl _,H1,I1,by rw[r1.none_iff];rfl,q1⟩)
theorem pc_notN{j pos'}(ha:PE X a ta):PC X .IsNot a (.Constant .none j pos') (tNotN ta):=by
 intro pins s σ H Q I h
 refine thn (ha pins s σ H _ I h) λv s1 ⟨x,H1,I1,r1,q1⟩=>?_
 exact Constant_none (isnot_none_gen ⟨.bl _,H1,I1,by rw[r1.none_iff];rfl,q1⟩)
def tB(t:TE):TT:=λσ H Q=>t σ H λx H1=>∃c,x=.bl c/\Q c H1
theorem qe6{op:CmpOp}{t:TE}(h:PC X op a b t)(h1:behindInMarks op b=false:=by first|exact nobehind _ (by decide) (by decide)|rfl):PT X (.Compare a [op] [b] pos) (tB t):=by
 intro pins s σ H Q I hw
 refine wpAny_isTrue_Compare1 (thn (h pins s σ H _ I hw) λv s1 h1=>thn h1 λu s2 h2=>thn h2 λc s3 ⟨x,H1,I1,r1,q1⟩=>?_) h1
 obtain ⟨d,rfl,q⟩:=q1
 cases r1
 exact wpAny_truthy_bool ⟨H1,I1,q⟩
theorem qcl{e:Expr}{t:TE}(h:PE X e t)(he:∀whole,isTrue e X.env whole=(do let v <-whole;standAt e.pos;holding [v] (truthy v)):=by intro _;rfl):PT X e (tB t):=by
 intro pins s σ H Q I hw
 refine isTrue_plain (thn (h pins s σ H _ I hw) λv s1 ⟨x,H1,I1,r1,q1⟩=>?_) (he _)
 obtain ⟨d,rfl,q⟩:=q1
 cases r1
 exact wpAny_truthy_bool ⟨H1,I1,q⟩
variable {tA tB':TT}{rest:List Expr}
def tAnd(t u:TT):TT:=λσ H Q=>t σ H λc H1=>if c=true then u σ H1 Q else Q false H1
def tOr(t u:TT):TT:=λσ H Q=>t σ H λc H1=>if c=true then Q true H1 else u σ H1 Q
def tNot(t:TT):TT:=λσ H Q=>t σ H λc H1=>Q (!c) H1
theorem qcq(ha:PT X a tA):PW X (.BoolOp .And [a] pos) tA:=by
 intro wh pins s σ H Q I h
 refine isTrue_and (thn (ha pins s σ H Q I h) λc s1 e=>?_)
 cases c with
 |true=>exact isTrue_and_nil e
 |false=>exact e
theorem qjn(ha:PT X a tA):PW X (.BoolOp .Or [a] pos) tA:=by
 intro wh pins s σ H Q I h
 refine isTrue_or (thn (ha pins s σ H Q I h) λc s1 e=>?_)
 cases c with
 |false=>exact isTrue_or_nil e
 |true=>exact e
theorem ycv(ha:PT X a tA)(hb:PW X (.BoolOp .And (b::rest) pos) tB'):PW X (.BoolOp .And (a::b::rest) pos) (tAnd tA tB'):=by
 intro wh pins s σ H Q I h
 refine isTrue_and (thn (ha pins s σ H _ I h) λc s1 ⟨H1,I1,q1⟩=>?_)
 cases c with
 |true=>exact hb wh pins s1 σ H1 Q I1 q1
 |false=>exact ⟨H1,I1,q1⟩
theorem pw_or(ha:PT X a tA)(hb:PW X (.BoolOp .Or (b::rest) pos) tB'):PW X (.BoolOp .Or (a::b::rest) pos) (tOr tA tB'):=by
 intro wh pins s σ H Q I h
 refine isTrue_or (thn (ha pins s σ H _ I h) λc s1 ⟨H1,I1,q1⟩=>?_)
 cases c with
 |true=>exact ⟨H1,I1,q1⟩
 |false=>exact hb wh pins s1 σ H1 Q I1 q1
theorem qc2(ha:PT X a tA):PT X (.UnaryOp .Not a pos) (tNot tA):=by
 intro pins s σ H Q I h
 exact isTrue_not (ha pins s σ H (λc H1=>Q (!c) H1) I h)
def tAndV(ta tb:TE):TE:=λσ H Q=>ta σ H λx H1=>∃c,x=.bl c/\if c=true then tb σ H1 Q else Q (.bl false) H1
def tNotV(ta:TE):TE:=λσ H Q=>ta σ H λx H1=>∃c,x=.bl c/\Q (.bl (!c)) H1
theorem qbt{op}{t:TE}(h:PE X a t):PE X (.BoolOp op [a] pos) t:=λpins s σ H Q I hw=>BoolOp_one (h pins s σ H Q I hw)
theorem qa3(ha:PE X a ta)(hb:PE X (.BoolOp .And (b::rest) pos) tb):PE X (.BoolOp .And (a::b::rest) pos) (tAndV ta tb):=by
 intro pins s σ H Q I h
 refine BoolOp_and (thn (ha pins s σ H _ I h) λv s1 ⟨x,H1,I1,r1,q1⟩=>?_)
 obtain ⟨c,rfl,q1⟩:=q1
 cases r1
 refine wpAny_truthy_bool ?_
 cases c with
 |true=>exact hb pins s1 σ H1 Q I1 q1
 |false=>exact ⟨.bl false,H1,I1,rfl,q1⟩
theorem pe_not(ha:PE X a ta):PE X (.UnaryOp .Not a pos) (tNotV ta):=by
 intro pins s σ H Q I h
 refine UnaryOp_ (thn (ha pins s σ H _ I h) λv s1 ⟨x,H1,I1,r1,q1⟩=>?_)
 obtain ⟨c,rfl,q1⟩:=q1
 cases r1
 exact not_of (wpAny_truthy_bool ⟨.bl (!c),H1,I1,rfl,q1⟩)
def tIf(t:TT)(ta tb:TE):TE:=λσ H Q=>t σ H λc H1=>if c=true then ta σ H1 Q else tb σ H1 Q
theorem qfg{c:Expr}(hc:PT X c tA)(ha:PE X a ta)(hb:PE X b tb):PE X (.IfExp c a b pos) (tIf tA ta tb):=by
 intro pins s σ H Q I h
 refine wpAny_IfExp (thn (hc pins s σ H _ I h) λd s1 ⟨H1,I1,q1⟩=>?_)
 cases d with
 |true=>exact ha pins s1 σ H1 Q I1 q1
 |false=>exact hb pins s1 σ H1 Q I1 q1
end
def SqL(K:W.Frag)(H:Hp)(a:Addr)(xs:List V):Prop:=
 Rd H a (.lst xs)\/
  ∃(o:Obj) (its:Array Value) (n:Nat),K.lookup a=some o/\o.cls=.type "list"/\o.dict=none/\o.data=.seq its n/\its.size<=sizeLine/\Vals xs its.toList
def SqT(K:W.Frag)(H:Hp)(a:Addr)(xs:List V):Prop:=
 Rd H a (.tup xs)\/
  ∃(o:Obj) (its:Array Value) (n:Nat),K.lookup a=some o/\o.cls=.type "tuple"/\o.data=.seq its n/\its.size<=sizeLine/\Vals xs its.toList
def absV:Value->Option V
 |.none=>some .non
 |.bool b=>some (.bl b)
 |.int i _=>some (.int i)
 |.str x _=>some (.str x)
 |.bytes b _=>some (.byt b)
 |.float b _=>some (.flt b)
 |.ref a=>some (.ref a)
 |.type n=>some (.ty n)
 |_=>none
theorem RelV.abs{x:V}{u:Value}(r:RelV x u):absV u=some x:=by
 cases x with
 |non=>cases r;rfl
 |bl _=>cases r;rfl
 |int _=>obtain ⟨t,rfl⟩:=r;rfl
 |str _=>obtain ⟨t,rfl⟩:=r;rfl
 |byt _=>obtain ⟨t,rfl⟩:=r;rfl
 |flt _=>obtain ⟨t,rfl⟩:=r;rfl
 |ref _=>cases r;rfl
 |ty _=>cases r;rfl
theorem RelV.inj{x y:V}{u:Value}(r:RelV x u)(q:RelV y u):x=y:=Option.some.inj (r.abs.symm.trans q.abs)
theorem Vals.inj:∀{xs ys:List V}{us:List Value},Vals xs us->Vals ys us->xs=ys
 |_,_,_,.nil,.nil=>rfl
 |_,_,_,.cons r t,.cons r' t'=>by rw[r.inj r',Vals.inj t t']
section
variable {X:Cx}{pins:List (Addr×Obj)}{σ:St}{H:Hp}{s:Shared}{a:Addr}{xs ys:List V}
theorem sqlO{K:W.Frag}(h:H a=some (.lst xs)):SqL K H a xs:=.inl (.inl h)
theorem sqtO{K:W.Frag}(h:H a=some (.tup xs)):SqT K H a xs:=.inl (.inl h)
theorem Inv.list(I:Inv X pins σ H s)(h:SqL X.K H a xs):∃its:List Value,Vals xs its/\PlainL s.heap a its.toArray/\xs.length<=sizeLine:=by
 rcases h with h|⟨o,its,n,hk,hc,hd,hs,hz,r⟩
 ·obtain ⟨z,its,n,r,e⟩:=h.ok I.hok
  exact ⟨its,r,⟨_,n,e,rfl,rfl,rfl⟩,z⟩
 ·refine ⟨its.toList,r,⟨o,n,I.kIn a o hk,hc,hd,by simpa using hs⟩,?_⟩
  have e:=r.length
  simp only[length_toList]at e
  omega
theorem Inv.tuple(I:Inv X pins σ H s)(h:SqT X.K H a xs):∃its:List Value,Vals xs its/\IsTup s.heap a its.toArray/\xs.length<=sizeLine:=by
 rcases h with h|⟨o,its,n,hk,hc,hs,hz,r⟩
 ·obtain ⟨z,its,r,p⟩:=h.ok I.hok
  exact ⟨its,r,p,z⟩
 ·refine ⟨its.toList,r,⟨o,I.kIn a o hk,hc,n,by simpa using hs⟩,?_⟩
  have e:=r.length
  simp only[length_toList]at e
  omega
theorem Inv.list_inj(I:Inv X pins σ H s)(h:SqL X.K H a xs)(h':SqL X.K H a ys):xs=ys:=by
 obtain ⟨its,r,⟨o,n,e,_,_,d⟩,_⟩:=I.list h
 obtain ⟨its',r',⟨o',n',e',_,_,d'⟩,_⟩:=I.list h'
 rw[e]at e';cases e'
 rw[d]at d'
 injection d' with d1 _
 have:its=its':=by simpa using congrArg Array.toList d1
 subst this
 exact r.inj r'
theorem Inv.tuple_inj(I:Inv X pins σ H s)(h:SqT X.K H a xs)(h':SqT X.K H a ys):xs=ys:=by
 obtain ⟨its,r,⟨o,e,_,n,d⟩,_⟩:=I.tuple h
 obtain ⟨its',r',⟨o',e',_,n',d'⟩,_⟩:=I.tuple h'
 rw[e]at e';cases e'
 rw[d]at d'
 injection d' with d1 _
 have:its=its':=by simpa using congrArg Array.toList d1
 subst this
 exact r.inj r'
end
abbrev Cx.wish(X:Cx)(E:Value->Shared->Prop):Cx:={ X with xe:=E }
abbrev Cx.nox(X:Cx):Cx:=X.wish λ_ _=>False
theorem Cx.Ok.wish{X:Cx}(ok:X.Ok)(E:Value->Shared->Prop):(X.wish E).Ok:=
 ⟨ok.mod,ok.kind,ok.glob,ok.blt,ok.above,ok.inj,ok.has,ok.cab,ok.hd,ok.frames,ok.stk,ok.exf,ok.bs,ok.bsz,ok.noex,ok.exfs,ok.funs,ok.frf⟩
theorem Cx.Ok.unwish{X:Cx}{E:Value->Shared->Prop}(ok:(X.wish E).Ok):X.Ok:=
 ⟨ok.mod,ok.kind,ok.glob,ok.blt,ok.above,ok.inj,ok.has,ok.cab,ok.hd,ok.frames,ok.stk,ok.exf,ok.bs,ok.bsz,ok.noex,ok.exfs,ok.funs,ok.frf⟩
section
variable {X:Cx}{pins:List (Addr×Obj)}{σ:St}{H:Hp}{s:Shared}{E:Value->Shared->Prop}
theorem Inv.wish(I:Inv X pins σ H s)(E:Value->Shared->Prop):Inv (X.wish E) pins σ H s:=⟨I.ok.wish E,I.os,I.bare,I.base,I.loc,I.cell,I.free,I.freeC,I.pin,I.hok,I.len⟩
theorem Inv.unwish(I:Inv (X.wish E) pins σ H s):Inv X pins σ H s:=⟨I.ok.unwish,I.os,I.bare,I.base,I.loc,I.cell,I.free,I.freeC,I.pin,I.hok,I.len⟩
theorem SP.unwish{D:Ends}{f:Flow}{s':Shared}(h:SP (X.wish E) pins D f s'):SP X pins D f s':=by
 cases f with
 |next=>obtain ⟨σ',H',I,q⟩:=h;exact ⟨σ',H',I.unwish,q⟩
 |brk=>obtain ⟨σ',H',I,q⟩:=h;exact ⟨σ',H',I.unwish,q⟩
 |cont=>obtain ⟨σ',H',I,q⟩:=h;exact ⟨σ',H',I.unwish,q⟩
 |ret u=>obtain ⟨v,σ',H',I,r,q⟩:=h;exact ⟨v,σ',H',I.unwish,r,q⟩
theorem PSs.nox{st:List Stmt}{t:TS}(h:PSs X.nox st t):PSs X st t:=λpins s σ H D I hw=>
 wpAny_mono (h pins s σ H D (I.wish _) hw) (λ_ _ q=>q.unwish) λ_ _ z=>False.elim z
end
section
variable {X:Cx}{st:Stmt}{rest:List Stmt}{t u:TS}{e:Expr}{te:TE}{pos:Pos}
def tNext:TS:=λD σ H=>D.nx σ H
def tSeq(t u:TS):TS:=λD σ H=>t { D with nx:=u D } σ H
theorem yaq:PSs X [] tNext:=λ_ _ σ H _ I h=>wpAny_execs_nil ⟨σ,H,I,h⟩
theorem yai(h1:PS X st t)(h2:PSs X rest u):PSs X (st::rest) (tSeq t u):=by
 intro pins s σ H D I h
 refine wpAny_execs_cons (thn (h1 pins s σ H { D with nx:=u D } I h) λf s1 q=>?_)
 cases f with
 |next=>
  obtain ⟨σ',H',I',q⟩:=q
  exact h2 pins s1 σ' H' D I' q
 |ret v=>exact q
 |brk=>exact q
 |cont=>exact q
theorem qaf(h1:PS X st t):PSs X [st] t:=by
 intro pins s σ H D I h
 refine wpAny_execs_cons (thn (h1 pins s σ H D I h) λf s1 q=>?_)
 cases f with
 |next=>exact wpAny_execs_nil q
 |ret v=>exact q
 |brk=>exact q
 |cont=>exact q
theorem Inv.quiet{pins:List (Addr×Obj)}{σ:St}{H:Hp}{s:Shared}(I:Inv X pins σ H s):interactive X.env=false:=by simp[interactive,I.ok.kind]
def tDrop(te:TE):TS:=λD σ H=>te σ H λ_ H1=>D.nx σ H1
theorem qbk(he:PE X e te)(hs:swapsWith e none pos.line X.env=pure false:=by rfl):PS X (.Expr e pos) (tDrop te):=by
 intro pins s σ H D I h
 exact wpAny_Expr_any (thn (he pins s σ H _ I h) λv s1 ⟨x,H1,I1,r1,q1⟩=>⟨σ,H1,I1,q1⟩) I.quiet hs
def tRet(te:TE):TS:=λD σ H=>te σ H D.rt
theorem yap(he:PE X e te):PS X (.Return (some e) pos) (tRet te):=by
 intro pins s σ H D I h
 exact wpAny_Return_some (thn (he pins s σ H _ I h) λv s1 ⟨x,H1,I1,r1,q1⟩=>⟨x,σ,H1,I1,r1,q1⟩)
def tRetN:TS:=λD _ H=>D.rt .non H
theorem ps_retN:PS X (.Return none pos) tRetN:=λ_ _ σ H _ I h=>wpAny_Return_none ⟨.non,σ,H,I,rfl,h⟩
def tIfS(c:TT)(t u:TS):TS:=λD σ H=>c σ H λb H1=>if b=true then t D σ H1 else u D σ H1
theorem qbh{c:Expr}{a b:List Stmt}{tc:TT}(hc:PT X c tc)(ha:PSs X a t)(hb:PSs X b u):PS X (.If c a b pos) (tIfS tc t u):=by
 intro pins s σ H D I h
 refine wpAny_If (thn (hc pins s σ H _ I h) λd s1 ⟨H1,I1,q1⟩=>?_)
 cases d with
 |true=>exact ha pins s1 σ H1 D I1 q1
 |false=>exact hb pins s1 σ H1 D I1 q1
def tNever:TS:=λ_ _ _=>False
theorem ya6:PS X st tNever:=λ_ _ _ _ _ _ h=>h.elim
end
abbrev TG:=V->St->Hp->(St->Hp->Prop)->Prop
abbrev TGs:=List V->St->Hp->(St->Hp->Prop)->Prop
def PG(X:Cx)(target:Expr)(t:TG):Prop:=
 ∀(pins:List (Addr×Obj)) (s:Shared) (σ:St) (H:Hp) (v:V) (u:Value) (Q:St->Hp->Prop),Inv X pins σ H s->RelV v u->t v σ H Q->
  wpAny (model X.prog X.w) X.A (assign target X.env u) (λ_ s'=>∃σ' H',Inv X pins σ' H' s'/\Q σ' H') X.xe s
def PGs(X:Cx)(ts:List Expr)(t:TGs):Prop:=
 ∀(pins:List (Addr×Obj)) (s:Shared) (σ:St) (H:Hp) (vs:List V) (us:List Value) (Q:St->Hp->Prop),Inv X pins σ H s->Vals vs us->t vs σ H Q->
  wpAny (model X.prog X.w) X.A (assignInOrder ((assignEach ts X.env).map (·.2)) us) (λ_ s'=>∃σ' H',Inv X pins σ' H' s'/\Q σ' H') X.xe s
abbrev TSet:=V->V->V->Hp->(Hp->Prop)->Prop
def PSet(X:Cx)(t:TSet):Prop:=
 ∀(pins:List (Addr×Obj)) (s:Shared) (σ:St) (H:Hp) (o i v:V) (ov iv u:Value) (Q:Hp->Prop),Inv X pins σ H s->RelV o ov->RelV i iv->RelV v u->t o i v H Q->
  wpAny (model X.prog X.w) X.A (setItem ov iv u) (λ_ s'=>∃H',Inv X pins σ H' s'/\Q H') X.xe s
section
variable {X:Cx}{pos:Pos}
def ydm(i:Nat):TG:=λv σ H Q=>Q (σ.set i (some v)) H
theorem qa4{i:Nat}{x:Str}(hN:X.N.Nodup)(hi:X.N[i]?=some x)(hx:Loc X.env.scope x)(hf:X.fn x=true\/X.env.scope.names.lookup x=some .local:=by first|exact .inl rfl|exact .inr rfl|assumption):PG X (.Name x pos) (ydm i):=by
 intro pins s σ H v u Q I r h
 exact wpAny_assign_Name (yju I hN hi hx r (λs' I'=>⟨_,H,I',h⟩) hf)
theorem pgn(i:Nat){x:Str}(hN:X.N.Nodup)(hi:X.N[i]?=some x:=by rfl)(hx:Loc X.env.scope x:=by exact Or.inl rfl)(hf:X.fn x=true\/X.env.scope.names.lookup x=some .local:=by first|exact .inl rfl|exact .inr rfl|assumption):PG X (.Name x pos) (ydm i):=qa4 hN hi hx hf
def gNil:TGs:=λvs σ H Q=>vs=[]/\Q σ H
def gCons(t:TG)(u:TGs):TGs:=λvs σ H Q=>∃v r,vs=v::r/\t v σ H λσ' H'=>u r σ' H' Q
theorem qbj:PGs X [] gNil:=by
 intro pins s σ H vs us Q I r h
 obtain ⟨e,h⟩:=h
 subst e
 cases r
 exact assignInOrder_nil ⟨σ,H,I,h⟩
theorem qan{e:Expr}{es:List Expr}{t:TG}{u:TGs}(h1:PG X e t)(h2:PGs X es u)
  (hs:(assignEach (e::es) X.env).map (·.2)=assign e X.env::(assignEach es X.env).map (·.2):=by rfl):PGs X (e::es) (gCons t u):=by
 intro pins s σ H vs us Q I r h
 obtain ⟨v,vr,e1,h⟩:=h
 subst e1
 cases r with
 |cons r rr=>
  rw[hs]
  refine assignInOrder_cons (thn (h1 pins s σ H _ _ _ I r h) λ_ s1 ⟨σ1,H1,I1,q1⟩=>?_)
  exact h2 pins s1 σ1 H1 _ _ Q I1 rr q1
def gTup(K:W.Frag)(n:Nat)(t:TGs):TG:=λv σ H Q=>∃a xs,v=.ref a/\SqT K H a xs/\xs.length=n/\t xs σ H Q
theorem ydo{es:List Expr}{k:Nat}{t:TGs}{n:Nat}(hc:X.calm=true)(h:PGs X es t)
  (hn:(assignEach es X.env).length=n:=by rfl) (hst:(assignEach es X.env).findIdx? (·.1)=none:=by rfl):PG X (.Tuple es k pos) (gTup X.K n t):=by
 intro pins s σ H v u Q I r hw
 obtain ⟨a,xs,e1,hq,hl,hw⟩:=hw
 subst e1
 cases r
 obtain ⟨its,rv,ht,hz⟩:=I.tuple hq
 refine assign_Tuple_tuple (I.ok.hd hc) ht (by simp[hn,<-hl,rv.length]) hst λh' hx=>?_
 have I1:Inv X pins σ H { s with heap:=h' }:=I.kept (t':=s.toks) λb o e=>hx b o (ne_of_lt (lt_size e)) e
 exact h pins _ σ H xs _ Q I1 (by simpa using rv) hw
def gSub(to ti:TE)(t:TSet):TG:=λv σ H Q=>to σ H λo H1=>ti σ H1 λi H2=>t o i v H2 λH3=>Q σ H3
theorem qk2{o i:Expr}{to ti:TE}{t:TSet}(ho:PE X o to)(hi:PE X i ti)(hs:PSet X t)
  (ha:∀v,assign (.Subscript o i pos) X.env v=(do
   let ov <-holding [v] (eval o X.env)
   let iv <-holding [v,ov] (eval i X.env)
   standAt pos
   holding [v,ov,iv] (setItem ov iv v)
   release [v,ov,iv] []):=by intro _;rfl):PG X (.Subscript o i pos) (gSub to ti t):=by
 intro pins s σ H v u Q I r h
 rw[ha]
 refine wpAny_bind (wpAny_holding (thn (ho pins s σ H _ I h) λov s1 ⟨x,H1,I1,r1,q1⟩=>?_))
 refine wpAny_bind (wpAny_holding (thn (hi pins s1 σ H1 _ I1 q1) λiv s2 ⟨y,H2,I2,r2,q2⟩=>?_))
 refine wpAny_bind (wpAny_standAt (wpAny_bind (wpAny_holding (thn (hs pins s2 σ H2 x y v ov iv u _ I2 r1 r2 r q2) λ_ s3 ⟨H3,I3,q3⟩=>?_))))
 exact wpAny_release ⟨σ,H3,I3,q3⟩
def tAsg(te:TE)(g:TG):TS:=λD σ H=>te σ H λx H1=>g x σ H1 D.nx
theorem ylc{tg e:Expr}{te:TE}{g:TG}(he:PE X e te)(hg:PG X tg g)(hs:swapsWithSole [tg] e pos.line X.env=pure false:=by rfl)(hw:swappedStores [tg] e X.env=pure none:=by rfl)
  (h1:(assignEach [tg] X.env).map (·.2)=[assign tg X.env]:=by rfl):PS X (.Assign [tg] e pos) (tAsg te g):=by
 intro pins s σ H D I h
 refine wpAny_Assign_stores (thn (he pins s σ H _ I h) λv s1 ⟨x,H1,I1,r1,q1⟩=>?_) hs hw
 rw[h1]
 exact thn (hg pins s1 σ H1 x v _ I1 r1 q1) λ_ s2 q=>q
theorem ps_set{i:Nat}{x:Str}{e:Expr}{te:TE}{pos':Pos}(hN:X.N.Nodup)(hi:X.N[i]?=some x)(hx:Loc X.env.scope x)(he:PE X e te)(hs:swapsWith e (some (.Name x pos')) pos.line X.env=pure false:=by rfl)(hf:X.fn x=true\/X.env.scope.names.lookup x=some .local:=by first|exact .inl rfl|exact .inr rfl|assumption) :
  PS X (.Assign [.Name x pos'] e pos) (tAsg te (ydm i)):=by
 intro pins s σ H D I h
 refine wpAny_Assign_Name (thn (he pins s σ H _ I h) λv s1 ⟨y,H1,I1,r1,q1⟩=>?_) hs
 exact yju I1 hN hi hx r1 (λs2 I2=>⟨_,H1,I2,q1⟩) hf
theorem pst(i:Nat){x:Str}{e:Expr}{te:TE}{pos':Pos}(hN:X.N.Nodup)(he:PE X e te)(hi:X.N[i]?=some x:=by rfl)(hx:Loc X.env.scope x:=by exact Or.inl rfl)(hs:swapsWith e (some (.Name x pos')) pos.line X.env=pure false:=by rfl)(hf:X.fn x=true\/X.env.scope.names.lookup x=some .local:=by first|exact .inl rfl|exact .inr rfl|assumption):PS X (.Assign [.Name x pos'] e pos) (tAsg te (ydm i)):=ps_set hN hi hx he hs hf
end
structure It where
 go:Nat->Hp->Prop
 yld:Nat->Hp->V->Hp->Prop
 stop:Nat->Hp->Prop
def FpOk(X:Cx)(pins:List (Addr×Obj))(H:Hp)(b:Addr):Prop:=
 H b=none/\b≠X.env.locals/\b∉X.fs/\(b∈X.ex\/X.s₀.heap.objs.size<=b)/\(∀x c,X.env.cells.lookup x=some c->c≠b)/\∀p∈X.pn++pins,p.1≠b
theorem Inv.fpOk{X:Cx}{pins:List (Addr×Obj)}{σ:St}{H H':Hp}{s:Shared}{b:Addr}(I:Inv X pins σ H s)(hb:s.heap.objs.size<=b)(hn:H' b=none):FpOk X pins H' b:=by
 refine ⟨hn,ne_of_gt (lt_of_lt_of_le I.lt hb),I.nofs hb,.inr (le_trans I.sz hb),λx c e z=>?_,λp hp z=>?_⟩
 ·obtain ⟨v,q⟩:=I.cell x c e
  exact absurd (lt_of_lt_of_le q.lt (by rw[z];exact hb)) (lt_irrefl _)
 ·exact absurd (lt_of_lt_of_le (lt_size (I.pin p hp).1) (by rw[z];exact hb)) (lt_irrefl _)
structure Turn(P:Program)(w:World)(K:W.Frag)(tg:Expr)(J:It)(fp:List Addr)(it:Addr)(tn:Nat->Heap->Prop):Prop where
 mem:it∈fp
 obj:∀i h,tn i h->∀b∈fp,∃o,h.get? b=some o/\∀v,o.data≠.cell v
 keep:∀i h h',tn i h->(∀b∈fp,∀o,h.get? b=some o->h'.get? b=some o)->tn i h'
 item:∀(X:Cx),X.prog=P->X.w=w->X.K=K->X.calm=true->∀(i:Nat) (pins:List (Addr×Obj)) (s:Shared) (σ:St) (H:Hp) (E:Value->Shared->Prop),Inv X pins σ H s->(∀b∈fp,FpOk X pins H b)->tn i s.heap->J.go i H->
  wpAny (model P w) X.A (pyNext (.ref it)) (λr s1=>∃u,r=some u/\
   wpAny (model P w) X.A (letOwnedTupleGo tg (.ref it) u) (λ_ s2=>∃x H',Inv X pins σ H' s2/\RelV x u/\J.yld i H x H'/\tn (i+1) s2.heap/\∀b∈fp,H' b=none) E s1) E s
 done:∀(X:Cx),X.prog=P->X.w=w->X.K=K->X.calm=true->∀(i:Nat) (pins:List (Addr×Obj)) (s:Shared) (σ:St) (H:Hp) (E:Value->Shared->Prop),Inv X pins σ H s->(∀b∈fp,FpOk X pins H b)->tn i s.heap->J.stop i H->
  wpAny (model P w) X.A (pyNext (.ref it)) (λr s1=>r=none/\Inv X pins σ H s1) E s
 self:∀(A:Around) (i:Nat) (s:Shared) (Q:Value->Shared->Prop) (E:Value->Shared->Prop),tn i s.heap->Q (.ref it) s->wpAny (model P w) A (pyIter (.ref it)) Q E s
abbrev TI:=St->Hp->(It->Hp->Prop)->Prop
def PIE(X:Cx)(pins:List (Addr×Obj))(σ:St)(tg:Expr)(R:It->Hp->Prop)(itv:Value)(s2:Shared):Prop:=
 ∃(it:Addr) (fp:List Addr) (tn:Nat->Heap->Prop) (J:It) (H':Hp),itv=.ref it/\Inv X pins σ H' s2/\Turn X.prog X.w X.K tg J fp it tn/\tn 0 s2.heap/\(∀b∈fp,FpOk X pins H' b)/\R J H'
def PI(X:Cx)(tg iter:Expr)(wi:TI):Prop:=
 ∀(pins:List (Addr×Obj)) (s:Shared) (σ:St) (H:Hp) (R:It->Hp->Prop),Inv X pins σ H s->wi σ H R->
  wpAny (model X.prog X.w) X.A (eval iter X.env) (λv s1=>wpAny (model X.prog X.w) X.A (pyIter v) (PIE X pins σ tg R) X.xe s1) X.xe s
theorem go_of{M:Model}{A:Around}{E:Value->Shared->Prop}{s:Shared}{tg:Expr}{it:Addr}{u:Value}{o:Obj}{n:String}{vs:Array Value}{Q:Unit->Shared->Prop}(ho:s.heap.get? it=some o)(hc:o.cls=.type n)(hd:o.data=.fields vs)
    (hn:["enumerate","zip","dict_itemiterator","dict_reverseitemiterator","odict_iterator","itertools.zip_longest","itertools.pairwise"].contains n=false) (hQ:Q () s):wpAny M A (letOwnedTupleGo tg (.ref it) u) Q E s:=by
  unfold letOwnedTupleGo
  cases tg<;>first
    |exact wpAny_pure hQ
    | (cases u<;>first
        |exact wpAny_pure hQ
        | (refine wpAny_bind (wpAny_load ho ?_)
           rw[hc,hd]
           show wpAny M A (if (["enumerate","zip","dict_itemiterator","dict_reverseitemiterator","odict_iterator","itertools.zip_longest","itertools.pairwise"].contains n&&vs[0]? == some (rawInt _))=true then _ else _) Q E s
           rw[if_neg (by intro h;rw[hn,Bool.false_and]at h;cases h)]
           exact wpAny_pure hQ))
def Itl(K:W.Frag)(a:Addr):It:=
 ⟨λi H=>∃xs x,SqL K H a xs/\xs[i]?=some x,λi H x H'=>H'=H/\∀xs,SqL K H a xs->xs[i]?=some x,λi H=>∃xs,SqL K H a xs/\xs.length<=i⟩
def Itr(lo:Int)(n:Nat):It:=⟨λi _=>i<n,λi H x H'=>H'=H/\x=.int (lo+i),λi _=>n<=i⟩
theorem ymc{P:Program}{w:World}{K:W.Frag}{tg:Expr}(a it:Addr):Turn P w K tg (Itl K a) [it] it (λi h=>h.IsListIter it a i) where
 mem:=by simp
 obj:=λi h st b hb=>by
  have e:b=it:=by simpa using hb
  subst e
  obtain ⟨o,e,c,d⟩:=st
  exact ⟨o,e,λv z=>by rw[d]at z;cases z⟩
 keep:=λi h h' st k=>st.at λo e=>k it (by simp) o e
 item:=by
  intro X hP hw hK hc i pins s σ H E I hf st hg
  subst hP hw hK
  obtain ⟨xs,x,hq,hx⟩:=hg
  obtain ⟨its,rv,p,hz⟩:=I.list hq
  obtain ⟨u,hu,ru⟩:=rv.get hx
  obtain ⟨f0,f1,f2,f3,f4,f5⟩:=hf it (by simp)
  refine wpAny_pyNext_list_item st p.isList (x:=u) (by simpa using hu) λh' st' sb=>?_
  have I1:Inv X pins σ H { s with heap:=h' }:=I.turned (t':=s.toks) (λb o hb e=>(sb.2 b hb).trans e) f0 f1 f3 f4 f5
  obtain ⟨o,e,c,d⟩:=id st'
  exact ⟨u,rfl,go_of (s:={ s with heap:=h' }) e c d (by decide) ⟨x,H,I1,ru,⟨rfl,λys hy=>by rw[I.list_inj hy hq];exact hx⟩,st',λb hb=>(hf b hb).1⟩⟩
 done:=by
  intro X hP hw hK hc i pins s σ H E I hf st hg
  subst hP hw hK
  obtain ⟨xs,hq,hx⟩:=hg
  obtain ⟨its,rv,p,hz⟩:=I.list hq
  obtain ⟨f0,f1,f2,f3,f4,f5⟩:=hf it (by simp)
  have hl:=rv.length
  exact wpAny_pyNext_list_end (I.ok.hd hc) st p.isList (by simp;omega) λh' eb=>⟨rfl,I.turned (t':=s.toks) (λb o hb e=>eb b o hb e) f0 f1 f3 f4 f5⟩
 self:=λ_ _ _ _ _ st h=>wpAny_pyIter_listiter st h
theorem qki{P:Program}{w:World}{K:W.Frag}{tg:Expr}(it:Addr)(lo:Int)(n:Nat):Turn P w K tg (Itr lo n) [it] it (λi h=>IsRangeIter h it (lo+(i:Nat)*1) ((n:Int)-(i:Nat)) 1) where
 mem:=by simp
 obj:=λi h st b hb=>by
  have e:b=it:=by simpa using hb
  subst e
  exact ⟨_,st,λv z=>by
   have z':Data.fields _=Data.cell v:=z
   cases z'⟩
 keep:=λi h h' st k=>k it (by simp) _ st
 item:=by
  intro X hP hw hK hc i pins s σ H E I hf st hg
  subst hP hw hK
  obtain ⟨f0,f1,f2,f3,f4,f5⟩:=hf it (by simp)
  have W:=Walks.range (prog:=X.prog) (w:=X.w) (I.ok.hd hc) it lo 1 n
  refine W.item i s _ _ hg st λv h' tk hv st' kk=>?_
  obtain ⟨t,rfl⟩:=hv
  have I1:Inv X pins σ H { s with heap:=h',toks:=tk }:=I.turned (λb o hb e=>kk b o (by simpa using hb) e) f0 f1 f3 f4 f5
  refine ⟨_,rfl,go_of (s:={ s with heap:=h',toks:=tk }) (n:="range_iterator") st' rfl rfl (by decide) ⟨.int (lo+i),H,I1,⟨t,?_⟩,⟨rfl,rfl⟩,st',λb hb=>(hf b hb).1⟩⟩
  rw[Int.mul_one]
 done:=by
  intro X hP hw hK hc i pins s σ H E I hf st hg
  subst hP hw hK
  obtain ⟨f0,f1,f2,f3,f4,f5⟩:=hf it (by simp)
  exact wpAny_pyNext_range_end (I.ok.hd hc) st (by have:n<=i:=hg;omega) λh' eb=>⟨rfl,I.turned (t':=s.toks) (λb o hb e=>eb b o hb e) f0 f1 f3 f4 f5⟩
 self:=λ_ _ _ _ _ st h=>wpAny_pyIter_rangeiter st h
section
variable {X:Cx}{tg:Expr}
def iList(K:W.Frag)(tl:TE):TI:=λσ H R=>tl σ H λx H1=>∃a,x=.ref a/\(∃xs,SqL K H1 a xs)/\R (Itl K a) H1
theorem ya8{l:Expr}{tl:TE}(hl:PE X l tl):PI X tg l (iList X.K tl):=by
 intro pins s σ H R I h
 refine thn (hl pins s σ H _ I h) λv s1 ⟨x,H1,I1,r1,q1⟩=>?_
 obtain ⟨a,e,⟨xs,hq⟩,q⟩:=q1
 subst e
 cases r1
 obtain ⟨its,rv,p,hz⟩:=I1.list hq
 refine wpAny_pyIter_list p.isList ?_
 refine ⟨s1.heap.objs.size,[s1.heap.objs.size],_,_,H1,rfl,I1.kept (t':=s1.toks) λb o e=>get?_push_of_some _ e,ymc a _,⟨_,get?_push_size _ rfl,rfl,rfl⟩,λb hb=>?_,q⟩
 have e:b=s1.heap.objs.size:=by simpa using hb
 subst e
 exact I1.fpOk (le_refl _) (I1.hok.fresh (le_refl _))
theorem range_it{pins:List (Addr×Obj)}{σ:St}{H:Hp}{s:Shared}{R:It->Hp->Prop}{E:Value->Shared->Prop}{lo hi:Int}{t u v:Tok}{tk:Nat}(I:Inv X pins σ H s)(h1:-(2 ^ 62)<=lo)(h2:lo<2 ^ 62)(h3:-(2 ^ 62)<=hi)(h4:hi<2 ^ 62)
  (q:R (Itr lo (hi-lo).toNat) H):wpAny (model X.prog X.w) X.A (pyIter (.ref s.heap.objs.size)) (PIE X pins σ tg R) E { s with heap:=s.heap.push { cls:=.type "range",data:=.fields #[.int lo t,.int hi u,.int 1 v] },toks:=tk }:=by
 refine wpAny_pyIter_range (IsRange.new ..) (small_one h1 h2 h3 h4) ?_
 have I1:Inv X pins σ H { s with heap:=s.heap.push { cls:=.type "range",data:=.fields #[.int lo t,.int hi u,.int 1 v] },toks:=tk }:=I.kept λb o e=>get?_push_of_some _ e
 refine ⟨(s.heap.push { cls:=.type "range",data:=.fields #[.int lo t,.int hi u,.int 1 v] }).objs.size,[(s.heap.push { cls:=.type "range",data:=.fields #[.int lo t,.int hi u,.int 1 v] }).objs.size],_,_,H,rfl,
  I1.kept (t':=tk) λb o e=>get?_push_of_some _ e,qki _ lo (hi-lo).toNat,?_,λb hb=>?_,q⟩
 ·have e1:lo+((0:Nat):Int)*1=lo:=by simp
  have e2:(((hi-lo).toNat:Nat):Int)-((0:Nat):Int)=Builtin.Range.rangeSize lo hi 1:=by rw[rangeSize_one];split<;>omega
  show IsRangeIter _ _ (lo+((0:Nat):Int)*1) ((((hi-lo).toNat:Nat):Int)-((0:Nat):Int)) 1
  rw[e1,e2]
  exact get?_push_size _ rfl
 ·have e:b=(s.heap.push { cls:=.type "range",data:=.fields #[.int lo t,.int hi u,.int 1 v] }).objs.size:=by simpa using hb
  subst e
  exact I1.fpOk (le_refl _) (I1.hok.fresh (le_refl _))
def iRng1(ta:TA):TI:=λσ H R=>ta σ H λvs H1=>∃j:Int,vs=[.int j]/\-(2 ^ 62)<=j/\j<2 ^ 62/\R (Itr 0 j.toNat) H1
theorem qb0{a:Expr}{ta:TA}{p pos:Pos}(hg:Gl X "range")(hm:X.mg "range"=none)(ha:PA X [a] ta)(hs:starEach [a] X.env=[(false,eval a X.env)]:=by rfl):PI X tg (.Call (.Name "range" p) [a] [] pos) (iRng1 ta):=by
 intro pins s σ H R I h
 refine Call_ (yfx I hg hm boot_range (PyProof.Rows.callWith_type1 (thn (ha pos pins s σ H _ I h) λus s1 ⟨vs,H1,I1,r1,q1⟩=>?_) hs rfl))
 obtain ⟨j,e,q1,q2,q⟩:=q1
 subst e
 cases r1 with
 |cons r rr=>
  cases rr
  obtain ⟨t,rfl⟩:=r
  exact call_range_1 (range_it I1 (by omega) (by omega) q1 q2 (by simpa using q))
def tFor(wi:TI)(g:TG)(tb:TS):TS:=λD σ H=>wi σ H λJ H1=>∃W:Nat->Nat->St->Hp->Prop,(∃m,W 0 m σ H1)/\∀i m σ H,W i m σ H->
 (J.stop i H/\D.nx σ H)\/(J.go i H/\∃N:St->Hp->Prop,(∀σ' H',N σ' H'->∃m',m' < m/\W (i+1) m' σ' H')/\∀x H',J.yld i H x H'->g x σ H' λσ2 H2=>tb { D with nx:=N,ct:=N,bk:=D.nx } σ2 H2)
def yim(fp:List Addr)(h:Heap):List (Addr×Obj):=fp.filterMap λb=>(h.get? b).map λo=>(b,o)
theorem ydi{fp:List Addr}{h:Heap}{b:Addr}{o:Obj}(hb:b∈fp)(e:h.get? b=some o):(b,o)∈yim fp h:=List.mem_filterMap.mpr ⟨b,hb,by rw[e];rfl⟩
theorem qlm{fp:List Addr}{h:Heap}{p:Addr×Obj}(hp:p∈yim fp h):p.1∈fp/\h.get? p.1=some p.2:=by
 obtain ⟨b,hb,e⟩:=List.mem_filterMap.mp hp
 cases q:h.get? b with
 |none=>rw[q]at e;cases e
 |some o=>
  rw[q]at e
  have e':(b,o)=p:=Option.some.inj e
  subst e'
  exact ⟨hb,q⟩
theorem Inv.pinned{pins:List (Addr×Obj)}{σ:St}{H:Hp}{s:Shared}{fp:List Addr}(I:Inv X pins σ H s)(hf:∀b∈fp,FpOk X pins H b)(ho:∀b∈fp,∃o,s.heap.get? b=some o/\∀v,o.data≠.cell v):Inv X (pins++yim fp s.heap) σ H s:=
 I.pins_of λp hp=>(mem_append.mp hp).elim (λz=>I.pin p (mem_append_right _ z)) λz=>by
  obtain ⟨hb,e⟩:=qlm z
  obtain ⟨f0,f1,f2,_⟩:=hf p.1 hb
  obtain ⟨o,e',d⟩:=ho p.1 hb
  rw[e]at e';cases e'
  exact ⟨e,f0,f1,f2,d⟩
theorem Inv.unpinned{pins pl:List (Addr×Obj)}{σ:St}{H:Hp}{s:Shared}(I:Inv X (pins++pl) σ H s):Inv X pins σ H s:=I.pins_of λp hp=>I.pin p (mem_append_right _ (mem_append_left _ hp))
theorem qb5{iter:Expr}{body:List Stmt}{wi:TI}{g:TG}{tb:TS}{pos:Pos}(hp:PassesOwn (model X.prog X.w) X.A X.env X.xe)(hc:X.calm=true)(hi:PI X tg iter wi)(hg:PG X tg g)(hb:PSs X body tb)
  (hs:∀x,foldedSetIterable iter X.env x=pure x:=by intro _;rfl):PS X (.For tg iter body [] pos) (tFor wi g tb):=by
 intro pins s σ H D I h
 refine wpAny_For (thn (hi pins s σ H _ I h) λv s1 h1=>thn h1 λitv s2 h2=>?_) hs
 obtain ⟨it,fp,tn,J,H2,e,I2,T,st2,f2,W,⟨m0,w0⟩,turn⟩:=h2
 subst e
 -- what stays true of the iterator's objects through the loop
 have stat:∀{H':Hp},(∀b∈fp,H' b=none)->∀b∈fp,FpOk X pins H' b:=λhn b hb=>⟨hn b hb,(f2 b hb).2⟩
 refine codeAny_forLoop_any (λn s'=>∃i σ' H',Inv X pins σ' H' s'/\tn i s'.heap/\(∀b∈fp,H' b=none)/\W i n σ' H') ?_ m0 ⟨0,σ,H2,I2,st2,λb hb=>(f2 b hb).1,w0⟩
 rintro n s3 ⟨i,σ3,H3,I3,st3,fr3,w3⟩
 rcases turn i n σ3 H3 w3 with ⟨stop,qn⟩|⟨go,N,hN,step⟩
 ·refine wpAny_passesOwn hp (thn (T.done X rfl rfl rfl hc i pins s3 σ3 H3 X.xe I3 (stat fr3) st3 stop) λr s4 ⟨hr,I4⟩=>?_)
  subst hr
  exact wpAny_execs_nil ⟨σ3,H3,I4,qn⟩
 ·refine wpAny_passesOwn hp (thn (T.item X rfl rfl rfl hc i pins s3 σ3 H3 X.xe I3 (stat fr3) st3 go) λr s4 ⟨u,hr,h4⟩=>?_)
  subst hr
  refine wpAny_passesOwn hp (thn h4 λ_ s5 ⟨x,H5,I5,r5,y5,st5,fr5⟩=>?_)
  have I5':=I5.pinned (stat fr5) (T.obj _ _ st5)
  refine wpAny_passesOwn hp (thn (hg _ s5 σ3 H5 x u _ I5' r5 (step x H5 y5)) λ_ s6 ⟨σ6,H6,I6,q6⟩=>?_)
  refine wpAny_passesOwn hp (thn (hb _ s6 σ6 H6 _ I6 q6) λf s7 q7=>?_)
  have again:∀{σ7:St}{H7:Hp},Inv X (pins++yim fp s5.heap) σ7 H7 s7->N σ7 H7->∃m,m<n/\∃i σ' H',Inv X pins σ' H' s7/\tn i s7.heap/\(∀b∈fp,H' b=none)/\W i m σ' H':=λ{σ7 H7} I7 n7=>by
   obtain ⟨m',hm,w7⟩:=hN σ7 H7 n7
   refine ⟨m',hm,i+1,σ7,H7,I7.unpinned,T.keep _ _ _ st5 λb hb o e=>(I7.pin (b,o) (mem_append_right _ (mem_append_right _ (ydi hb e)))).1,λb hb=>?_,w7⟩
   obtain ⟨o,e,d⟩:=T.obj _ _ st5 b hb
   exact (I7.pin (b,o) (mem_append_right _ (mem_append_right _ (ydi hb e)))).2.1
  cases f with
  |next=>obtain ⟨σ7,H7,I7,n7⟩:=q7;exact again I7 n7
  |cont=>obtain ⟨σ7,H7,I7,n7⟩:=q7;exact again I7 n7
  |brk=>obtain ⟨σ7,H7,I7,q7⟩:=q7;exact ⟨σ7,H7,I7.unpinned,q7⟩
  |ret v=>obtain ⟨x7,σ7,H7,I7,r7,q7⟩:=q7;exact ⟨x7,σ7,H7,I7.unpinned,r7,q7⟩
end
theorem qa7{K:W.Frag}{a:Addr}{xs:List V}{g:TG}{tb:TS}{D:Ends}{σ:St}{H:Hp}(Pv:Nat->St->Hp->Prop)(h0:Pv 0 σ H)(hl:∀i σ H,i<=xs.length->Pv i σ H->SqL K H a xs)
  (hs:∀i x σ H,xs[i]?=some x->Pv i σ H->g x σ H λσ2 H2=>tb { D with nx:=Pv (i+1),ct:=Pv (i+1),bk:=D.nx } σ2 H2) (hd:∀σ H,Pv xs.length σ H->D.nx σ H) :
  ∃W:Nat->Nat->St->Hp->Prop,(∃m,W 0 m σ H)/\∀i m σ H,W i m σ H->
   ((Itl K a).stop i H/\D.nx σ H)\/((Itl K a).go i H/\∃N:St->Hp->Prop,(∀σ' H',N σ' H'->∃m',m' < m/\W (i+1) m' σ' H')/\∀x H',(Itl K a).yld i H x H'->g x σ H' λσ2 H2=>tb { D with nx:=N,ct:=N,bk:=D.nx } σ2 H2):=by
 refine ⟨λi m σ H=>m=xs.length-i/\i<=xs.length/\Pv i σ H,⟨xs.length,by simp,zero_le _,h0⟩,?_⟩
 rintro i m σ H ⟨rfl,hi,p⟩
 have q:=hl i σ H hi p
 by_cases hlt:i<xs.length
 ·refine .inr ⟨⟨xs,xs[i],q,by simp[hlt]⟩,Pv (i+1),λσ' H' p'=>⟨xs.length-(i+1),by omega,rfl,hlt,p'⟩,λx H' y=>?_⟩
  obtain ⟨e,y⟩:=y
  subst e
  exact hs i x σ _ (y xs q) p
 ·have e:i=xs.length:=by omega
  subst e
  exact .inl ⟨⟨xs,q,le_refl _⟩,hd σ H p⟩
theorem ycj{lo:Int}{n:Nat}{g:TG}{tb:TS}{D:Ends}{σ:St}{H:Hp}(Pv:Nat->St->Hp->Prop)(h0:Pv 0 σ H)
  (hs:∀i σ H,i<n->Pv i σ H->g (.int (lo+i)) σ H λσ2 H2=>tb { D with nx:=Pv (i+1),ct:=Pv (i+1),bk:=D.nx } σ2 H2) (hd:∀σ H,Pv n σ H->D.nx σ H) :
  ∃W:Nat->Nat->St->Hp->Prop,(∃m,W 0 m σ H)/\∀i m σ H,W i m σ H->
   ((Itr lo n).stop i H/\D.nx σ H)\/((Itr lo n).go i H/\∃N:St->Hp->Prop,(∀σ' H',N σ' H'->∃m',m' < m/\W (i+1) m' σ' H')/\∀x H',(Itr lo n).yld i H x H'->g x σ H' λσ2 H2=>tb { D with nx:=N,ct:=N,bk:=D.nx } σ2 H2):=by
 refine ⟨λi m σ H=>m=n-i/\i<=n/\Pv i σ H,⟨n,by simp,zero_le _,h0⟩,?_⟩
 rintro i m σ H ⟨rfl,hi,p⟩
 by_cases hlt:i<n
 ·refine .inr ⟨hlt,Pv (i+1),λσ' H' p'=>⟨n-(i+1),by omega,rfl,hlt,p'⟩,λx H' y=>?_⟩
  obtain ⟨e,y⟩:=y
  subst e y
  exact hs i σ _ hlt p
 ·have e:i=n:=by omega
  subst e
  exact .inl ⟨le_refl _,hd σ H p⟩
abbrev R2:=V->V->Hp->VK->Prop
def OpR(X:Cx)(f:Value->Value->Sem Value)(r:R2):Prop:=
 ∀(pins:List (Addr×Obj)) (s:Shared) (σ:St) (H:Hp) (x y:V) (v u:Value) (Q:VK),Inv X pins σ H s->RelV x v->RelV y u->r x y H Q->
  wpAny (model X.prog X.w) X.A (f v u) (EP X pins σ Q) X.xe s
def UnR(X:Cx)(f:Value->Sem Value)(r:V->Hp->VK->Prop):Prop:=
 ∀(pins:List (Addr×Obj)) (s:Shared) (σ:St) (H:Hp) (x:V) (v:Value) (Q:VK),Inv X pins σ H s->RelV x v->r x H Q->
  wpAny (model X.prog X.w) X.A (f v) (EP X pins σ Q) X.xe s
def yb6(X:Cx)(f:Value)(r:List V->Hp->VK->Prop):Prop:=
 ∀(pins:List (Addr×Obj)) (s:Shared) (σ:St) (H:Hp) (xs:List V) (us:List Value) (Q:VK),Inv X pins σ H s->Vals xs us->r xs H Q->
  wpAny (model X.prog X.w) X.A (call f us) (EP X pins σ Q) X.xe s
def tOp(r:R2)(ta tb:TE):TE:=λσ H Q=>ta σ H λx H1=>tb σ H1 λy H2=>r x y H2 Q
def tUn(r:V->Hp->VK->Prop)(ta:TE):TE:=λσ H Q=>ta σ H λx H1=>r x H1 Q
def rI(C:Int->Int->Prop)(g:Int->Int->V):R2:=λx y H Q=>∃i j,x=.int i/\y=.int j/\C i j/\Q (g i j) H
def rI0(g:Int->Int->V):R2:=λx y H Q=>∃i j,x=.int i/\y=.int j/\Q (g i j) H
def rU(g:Int->V):V->Hp->VK->Prop:=λx H Q=>∃i,x=.int i/\Q (g i) H
section
variable {X:Cx}{a b c:Expr}{ta tb tc:TE}{pos:Pos}
theorem binT(ha:PE X a ta)(hb:PE X b tb){pins:List (Addr×Obj)}{s:Shared}{σ:St}{H:Hp}{R:V->V->Hp->Prop}(I:Inv X pins σ H s)
  (h:ta σ H λx H1=>tb σ H1 λy H2=>R x y H2) {Q:Value->Shared->Prop}{f:Value->Value->Sem Value}
  (hf:∀v u s2 x y H2,Inv X pins σ H2 s2->RelV x v->RelV y u->R x y H2->wpAny (model X.prog X.w) X.A (f v u) Q X.xe s2) :
  wpAny (model X.prog X.w) X.A (eval a X.env) (λv s₁=>wpAny (model X.prog X.w) X.A (eval b X.env) (λu s₂=>wpAny (model X.prog X.w) X.A (f v u) Q X.xe s₂) X.xe s₁) X.xe s:=by
 refine thn (ha pins s σ H _ I h) λv s1 ⟨x,H1,I1,r1,q1⟩=>?_
 refine thn (hb pins s1 σ H1 _ I1 q1) λu s2 ⟨y,H2,I2,r2,q2⟩=>?_
 exact hf v u s2 x y H2 I2 r1 r2 q2
theorem qb7{op:Operator}{r:R2}(ho:OpR X (binaryOp op) r)(ha:PE X a ta)(hb:PE X b tb):PE X (.BinOp a op b pos) (tOp r ta tb):=by
 intro pins s σ H Q I h
 exact wpAny_BinOp (binT ha hb I h λv u s2 x y H2 I2 rx ry q=>ho pins s2 σ H2 x y v u Q I2 rx ry q)
theorem pe_un{op:UnaryOp}{r:V->Hp->VK->Prop}(ho:UnR X (unaryOp op) r)(ha:PE X a ta):PE X (.UnaryOp op a pos) (tUn r ta):=by
 intro pins s σ H Q I h
 exact UnaryOp_ (thn (ha pins s σ H _ I h) λv s1 ⟨x,H1,I1,r1,q1⟩=>ho pins s1 σ H1 x v Q I1 r1 q1)
theorem opI{f:Value->Value->Sem Value}{C:Int->Int->Prop}{g:Int->Int->Int}
  (rule:∀(i j:Int) (t u:Tok) (s:Shared) (Q:Value->Shared->Prop) (E:Value->Shared->Prop),C i j->Q (.int (g i j) s.toks) { s with toks:=s.toks+1 }->wpAny (model X.prog X.w) X.A (f (.int i t) (.int j u)) Q E s) :
  OpR X f (rI C λi j=>.int (g i j)):=by
 intro pins s σ H x y v u Q I rx ry h
 obtain ⟨i,j,rfl,rfl,hc,q⟩:=h
 obtain ⟨t,rfl⟩:=rx
 obtain ⟨t',rfl⟩:=ry
 exact rule i j t t' s _ _ hc ⟨.int (g i j),H,I.tok _,⟨_,rfl⟩,q⟩
theorem opI0{f:Value->Value->Sem Value}{g:Int->Int->Int}
  (rule:∀(i j:Int) (t u:Tok) (s:Shared) (Q:Value->Shared->Prop) (E:Value->Shared->Prop),Q (.int (g i j) s.toks) { s with toks:=s.toks+1 }->wpAny (model X.prog X.w) X.A (f (.int i t) (.int j u)) Q E s) :
  OpR X f (rI0 λi j=>.int (g i j)):=by
 intro pins s σ H x y v u Q I rx ry h
 obtain ⟨i,j,rfl,rfl,q⟩:=h
 obtain ⟨t,rfl⟩:=rx
 obtain ⟨t',rfl⟩:=ry
 exact rule i j t t' s _ _ ⟨.int (g i j),H,I.tok _,⟨_,rfl⟩,q⟩
theorem opB0{f:Value->Value->Sem Value}{g:Int->Int->Bool}
  (rule:∀(i j:Int) (t u:Tok) (s:Shared) (Q:Value->Shared->Prop) (E:Value->Shared->Prop),Q (.bool (g i j)) s->wpAny (model X.prog X.w) X.A (f (.int i t) (.int j u)) Q E s) :
  OpR X f (rI0 λi j=>.bl (g i j)):=by
 intro pins s σ H x y v u Q I rx ry h
 obtain ⟨i,j,rfl,rfl,q⟩:=h
 obtain ⟨t,rfl⟩:=rx
 obtain ⟨t',rfl⟩:=ry
 exact rule i j t t' s _ _ ⟨.bl (g i j),H,I,rfl,q⟩
def CDiv(i j:Int):Prop:=0<j/\j<1073741824
def CPow(i j:Int):Prop:=0<=j/\j<=1000000/\i.natAbs<2 ^ 64
def CMul(i j:Int):Prop:=(-(2 ^ 64)<i/\i<2 ^ 64)\/(-(2 ^ 64)<j/\j<2 ^ 64)
theorem CMul.ok{i j:Int}(h:CMul i j):IntMulOk i j:=by
 rcases h with ⟨h1,h2⟩|⟨h1,h2⟩
 ·exact .of_left (intBits_le_64 h1 h2)
 ·exact .of_right (intBits_le_64 h1 h2)
theorem ybg:OpR X (binaryOp .Add) (rI0 λi j=>.int (i+j)):=opI0 λ_ _ _ _ _ _ _ q=>add_int q
theorem yhx:OpR X (binaryOp .Sub) (rI0 λi j=>.int (i-j)):=opI0 λ_ _ _ _ _ _ _ q=>sub_int q
theorem qcb:OpR X (binaryOp .Mult) (rI CMul λi j=>.int (i*j)):=opI λ_ _ _ _ _ _ _ hc q=>mul_int q hc.ok
theorem qg3:OpR X (binaryOp .FloorDiv) (rI CDiv λi j=>.int (i / j)):=opI λi j _ _ _ _ _ hc q=>by
 have h1:(0:Int)<j:=hc.1
 have h2:j<1073741824:=hc.2
 exact floordiv_int (by omega) (by rw[Int.fdiv_eq_ediv_of_nonneg i (by omega)];exact q) (.inl (PyProof.noPylong_small (by omega)))
theorem qck:OpR X (binaryOp .Mod) (rI (λ_ j=>0<j) λi j=>.int (i % j)):=opI λi j _ _ _ _ _ hc q=>by
 have h1:(0:Int)<j:=hc
 exact mod_int' (by omega) (by rw[Int.fmod_eq_emod_of_nonneg i (by omega)];exact q)
theorem qk7:OpR X (binaryOp .Pow) (rI CPow λi j=>.int (i ^ j.toNat)):=opI λ_ _ _ _ _ _ _ hc q=>pow_int_small hc.1 hc.2.1 hc.2.2 q
theorem unI{f:Value->Sem Value}{g:Int->Int}
  (rule:∀(i:Int) (t:Tok) (s:Shared) (Q:Value->Shared->Prop) (E:Value->Shared->Prop),Q (.int (g i) s.toks) { s with toks:=s.toks+1 }->wpAny (model X.prog X.w) X.A (f (.int i t)) Q E s) :
  UnR X f (rU λi=>.int (g i)):=by
 intro pins s σ H x v Q I rx h
 obtain ⟨i,rfl,q⟩:=h
 obtain ⟨t,rfl⟩:=rx
 exact rule i t s _ _ ⟨.int (g i),H,I.tok _,⟨_,rfl⟩,q⟩
theorem un_neg:UnR X (unaryOp .USub) (rU λi=>.int (-i)):=unI λ_ _ _ _ _ q=>neg_int q
def scal:V->V->Bool
 |.non,.non=>true|.non,.int _=>true|.int _,.non=>true|.non,.bl _=>true|.bl _,.non=>true|.non,.str _=>true|.str _,.non=>true
 |.int _,.int _=>true|.bl _,.bl _=>true|.str _,.str _=>true|.byt _,.byt _=>true
 |.int _,.str _=>true|.str _,.int _=>true|.bl _,.str _=>true|.str _,.bl _=>true
 |_,_=>false
def rEq:R2:=λx y H Q=>scal x y=true/\Q (.bl (decide (x=y))) H
def rNe:R2:=λx y H Q=>scal x y=true/\Q (.bl (!decide (x=y))) H
theorem ql0{i j:Int}:decide (V.int i=V.int j)=(i == j):=by
 rw[Bool.eq_iff_iff]
 simp
theorem dec_bl{i j:Bool}:decide (V.bl i=V.bl j)=(i == j):=by
 rw[Bool.eq_iff_iff]
 simp
theorem ykw{i j:Str}:decide (V.str i=V.str j)=(i == j):=by
 rw[Bool.eq_iff_iff]
 simp
theorem yk7{i j:Array UInt8}:decide (V.byt i=V.byt j)=(i.toList == j.toList):=by
 rw[Bool.eq_iff_iff]
 cases i
 cases j
 simp
theorem yaw{pins:List (Addr×Obj)}{σ:St}{H:Hp}{s:Shared}{Q:VK}{k k':Bool}(I:Inv X pins σ H s)(q:Q (.bl k) H)(e:k=k'):EP X pins σ Q (.bool k') s:=by
 subst e
 exact ⟨.bl k,H,I,rfl,q⟩
theorem ybm:OpR X (compareOp .Eq) rEq:=by
 intro pins s σ H x y v u Q I rx ry h
 obtain ⟨hs,q⟩:=h
 cases x with
 |non=>
  cases rx
  cases y with
  |non=>cases ry;exact PySem.EqNone.eq_none_none (yaw I q (by simp))
  |bl j=>cases ry;exact PySem.EqNone.eq_none_bool (yaw I q (by simp))
  |int j=>obtain ⟨t',rfl⟩:=ry;exact PySem.EqNone.eq_none_int (yaw I q (by simp))
  |str j=>obtain ⟨t',rfl⟩:=ry;exact PySem.EqNone.eq_none_str (yaw I q (by simp))
  |_=>exact absurd (show false=true from hs) Bool.false_ne_true
 |bl i=>
  cases rx
  cases y with
  |non=>cases ry;exact PySem.EqNone.eq_bool_none (yaw I q (by simp))
  |bl j=>cases ry;exact eq_bool (yaw I q dec_bl)
  |str j=>obtain ⟨t',rfl⟩:=ry;exact PySem.EqMixed.eq_bool_str (yaw I q (by simp))
  |_=>exact absurd (show false=true from hs) Bool.false_ne_true
 |int i=>
  obtain ⟨t,rfl⟩:=rx
  cases y with
  |non=>cases ry;exact PySem.EqNone.eq_int_none (yaw I q (by simp))
  |int j=>obtain ⟨t',rfl⟩:=ry;exact eq_int (yaw I q ql0)
  |str j=>obtain ⟨t',rfl⟩:=ry;exact PySem.EqMixed.eq_int_str (yaw I q (by simp))
  |_=>exact absurd (show false=true from hs) Bool.false_ne_true
 |str i=>
  obtain ⟨t,rfl⟩:=rx
  cases y with
  |non=>cases ry;exact PySem.EqNone.eq_str_none (yaw I q (by simp))
  |bl j=>cases ry;exact PySem.EqMixed.eq_str_bool (yaw I q (by simp))
  |int j=>obtain ⟨t',rfl⟩:=ry;exact PySem.EqMixed.eq_str_int (yaw I q (by simp))
  |str j=>obtain ⟨t',rfl⟩:=ry;exact eq_str (yaw I q ykw)
  |_=>exact absurd (show false=true from hs) Bool.false_ne_true
 |byt i=>
  obtain ⟨t,rfl⟩:=rx
  cases y with
  |byt j=>obtain ⟨t',rfl⟩:=ry;exact W.eq_bytes (yaw I q yk7)
  |_=>exact absurd (show false=true from hs) Bool.false_ne_true
 |_=>cases y<;>exact absurd (show false=true from hs) Bool.false_ne_true
theorem op_ne:OpR X (compareOp .NotEq) rNe:=by
 intro pins s σ H x y v u Q I rx ry h
 obtain ⟨hs,q⟩:=h
 cases x with
 |non=>
  cases rx
  cases y with
  |non=>cases ry;exact PySem.EqNone.ne_none_none (yaw I q (by simp))
  |bl j=>cases ry;exact PySem.EqNone.ne_none_bool (yaw I q (by simp))
  |int j=>obtain ⟨t',rfl⟩:=ry;exact PySem.EqNone.ne_none_int (yaw I q (by simp))
  |str j=>obtain ⟨t',rfl⟩:=ry;exact PySem.EqNone.ne_none_str (yaw I q (by simp))
  |_=>exact absurd (show false=true from hs) Bool.false_ne_true
 |bl i=>
  cases rx
  cases y with
  |non=>cases ry;exact PySem.EqNone.ne_bool_none (yaw I q (by simp))
  |bl j=>cases ry;exact ne_bool (yaw I q (congrArg not dec_bl))
  |str j=>obtain ⟨t',rfl⟩:=ry;exact PySem.EqMixed.ne_bool_str (yaw I q (by simp))
  |_=>exact absurd (show false=true from hs) Bool.false_ne_true
 |int i=>
  obtain ⟨t,rfl⟩:=rx
  cases y with
  |non=>cases ry;exact PySem.EqNone.ne_int_none (yaw I q (by simp))
  |int j=>obtain ⟨t',rfl⟩:=ry;exact ne_int (yaw I q (congrArg not ql0))
  |str j=>obtain ⟨t',rfl⟩:=ry;exact PySem.EqMixed.ne_int_str (yaw I q (by simp))
  |_=>exact absurd (show false=true from hs) Bool.false_ne_true
 |str i=>
  obtain ⟨t,rfl⟩:=rx
  cases y with
  |non=>cases ry;exact PySem.EqNone.ne_str_none (yaw I q (by simp))
  |bl j=>cases ry;exact PySem.EqMixed.ne_str_bool (yaw I q (by simp))
  |int j=>obtain ⟨t',rfl⟩:=ry;exact PySem.EqMixed.ne_str_int (yaw I q (by simp))
  |str j=>obtain ⟨t',rfl⟩:=ry;exact ne_str (yaw I q (congrArg not ykw))
  |_=>exact absurd (show false=true from hs) Bool.false_ne_true
 |byt i=>
  obtain ⟨t,rfl⟩:=rx
  cases y with
  |byt j=>obtain ⟨t',rfl⟩:=ry;exact W.ne_bytes (yaw I q (congrArg not yk7))
  |_=>exact absurd (show false=true from hs) Bool.false_ne_true
 |_=>cases y<;>exact absurd (show false=true from hs) Bool.false_ne_true
theorem yi1:OpR X (compareOp .Lt) (rI0 λi j=>.bl (decide (i<j))):=opB0 λ_ _ _ _ _ _ _ q=>lt_int q
theorem op_le:OpR X (compareOp .LtE) (rI0 λi j=>.bl (decide (i<=j))):=opB0 λ_ _ _ _ _ _ _ q=>le_int q
theorem qis:OpR X (compareOp .Gt) (rI0 λi j=>.bl (decide (j<i))):=opB0 λ_ _ _ _ _ _ _ q=>gt_int q
theorem qji:OpR X (compareOp .GtE) (rI0 λi j=>.bl (decide (j<=i))):=opB0 λ_ _ _ _ _ _ _ q=>ge_int q
theorem yak(b:Expr){op:CmpOp}(h:op≠.In:=by decide)(h2:op≠.NotIn:=by decide):behindInMarks op b=false:=by
 have e1:(op == CmpOp.In)=false:=by cases op<;>first|rfl|exact absurd rfl h
 have e2:(op == CmpOp.NotIn)=false:=by cases op<;>first|rfl|exact absurd rfl h2
 cases b<;>simp[behindInMarks,e1,e2]
theorem qat{op:CmpOp}{r:R2}(ho:OpR X (compareOp op) r)(ha:PE X a ta)(hb:PE X b tb)(hm:behindInMarks op b=false):PE X (.Compare a [op] [b] pos) (tOp r ta tb):=by
 intro pins s σ H Q I h
 exact wpAny_Compare1 (binT ha hb I h λv u s2 x y H2 I2 rx ry q=>ho pins s2 σ H2 x y v u Q I2 rx ry q) hm
def tTest(t:TE):TT:=λσ H Q=>t σ H λx H'=>∃k,x=.bl k/\Q k H'
theorem qao{op:CmpOp}{r:R2}(ho:OpR X (compareOp op) r)(ha:PE X a ta)(hb:PE X b tb)(hm:behindInMarks op b=false):PT X (.Compare a [op] [b] pos) (tTest (tOp r ta tb)):=by
 intro pins s σ H Q I h
 refine wpAny_isTrue_Compare1 (thn (ha pins s σ H _ I h) λv s1 ⟨x,H1,I1,r1,q1⟩=>thn (hb pins s1 σ H1 _ I1 q1) λu s2 ⟨y,H2,I2,r2,q2⟩=>
  thn (ho pins s2 σ H2 x y v u _ I2 r1 r2 q2) λc s3 ⟨z,H3,I3,r3,k,e,q3⟩=>?_) hm
 subst e
 cases r3
 exact wpAny_truthy_bool ⟨H3,I3,q3⟩
theorem qia:(sizeLine:Nat)<2 ^ 63:=by rw[sizeLine_eq];decide
theorem vals1{x:V}{us:List Value}(r:Vals [x] us):∃u,us=[u]/\RelV x u:=by
 cases r with
 |cons r1 r2=>cases r2;exact ⟨_,rfl,r1⟩
theorem vals2{x y:V}{us:List Value}(r:Vals [x,y] us):∃u w',us=[u,w']/\RelV x u/\RelV y w':=by
 cases r with
 |cons r1 r2=>
  cases r2 with
  |cons r3 r4=>cases r4;exact ⟨_,_,rfl,r1,r3⟩
theorem call_abs:yb6 X (.builtin "abs") (λxs H Q=>∃i,xs=[.int i]/\Q (.int (if i<0 then -i else i)) H):=by
 intro pins s σ H xs us Q I r h
 obtain ⟨i,rfl,q⟩:=h
 obtain ⟨u,rfl,t,rfl⟩:=vals1 r
 exact call_abs_int λu tk=>⟨.int (if i<0 then -i else i),H,I.tok _,⟨_,rfl⟩,q⟩
theorem qh8(hc:X.calm=true):yb6 X (.builtin "max") (λxs H Q=>∃i j,xs=[.int i,.int j]/\Q (.int (if j>i then j else i)) H):=by
 intro pins s σ H xs us Q I r h
 obtain ⟨i,j,rfl,q⟩:=h
 obtain ⟨u,w',rfl,⟨t,rfl⟩,⟨t',rfl⟩⟩:=vals2 r
 refine max_two_ints (I.ok.hd hc) λh' tk k=>⟨_,H,I.kept k,?_,q⟩
 by_cases hj:j>i
 ·rw[if_pos hj,if_pos hj];exact ⟨_,rfl⟩
 ·rw[if_neg hj,if_neg hj];exact ⟨_,rfl⟩
theorem qk4(hc:X.calm=true):yb6 X (.builtin "min") (λxs H Q=>∃i j,xs=[.int i,.int j]/\Q (.int (if j<i then j else i)) H):=by
 intro pins s σ H xs us Q I r h
 obtain ⟨i,j,rfl,q⟩:=h
 obtain ⟨u,w',rfl,⟨t,rfl⟩,⟨t',rfl⟩⟩:=vals2 r
 refine min_two_ints (I.ok.hd hc) λh' tk k=>⟨_,H,I.kept k,?_,q⟩
 by_cases hj:j<i
 ·rw[if_pos hj,if_pos hj];exact ⟨_,rfl⟩
 ·rw[if_neg hj,if_neg hj];exact ⟨_,rfl⟩
theorem qi2:yb6 X (.builtin "divmod") (λxs H Q=>∃i j,xs=[.int i,.int j]/\CDiv i j/\∀p,H p=none->Q (.ref p) (upd H p (.tup [.int (i / j),.int (i % j)]))):=by
 intro pins s σ H xs us Q I r h
 obtain ⟨i,j,rfl,⟨h1,h2⟩,q⟩:=h
 obtain ⟨u,w',rfl,⟨t,rfl⟩,⟨t',rfl⟩⟩:=vals2 r
 refine divmod_int (by omega) ?_ (.inl (PyProof.noPylong_small (by omega)))
 rw[Int.fdiv_eq_ediv_of_nonneg i (by omega),Int.fmod_eq_emod_of_nonneg i (by omega)]
 have hn:H s.heap.objs.size=none:=I.hok.fresh (le_refl _)
 refine ⟨.ref s.heap.objs.size,_,?_,rfl,q _ hn⟩
 refine I.laid (λb o e=>get?_push_of_some _ e) (le_refl _) ⟨by simp only[length_cons,List.length_nil];rw[sizeLine_eq];decide,[.int (i / j) s.toks,.int (i % j) (s.toks+1)],.cons ⟨_,rfl⟩ (.cons ⟨_,rfl⟩ .nil),?_⟩
 exact ⟨_,get?_push_size s.heap rfl,rfl,0,rfl⟩
end
structure ObjM(h:Heap)(x dx C:Addr)(mA:Str->Option Value):Prop where
 obj:h.get? x=some (W.instObj C dx)
 ns:h.Ns1 dx mA
 ne:dx≠x
theorem qlb{h:Heap}{dx:Addr}{mA:Str->Option Value}(n:h.Ns1 dx mA):∃od,h.get? dx=some od/\∀name,W.lookIn name od=some (mA name):=by
 obtain ⟨o,es,ep,ho,hd,hk,_,hm⟩:=n
 refine ⟨o,ho,λname=>?_⟩
 have e:=hm name
 unfold nsFind findBy at e
 rw[<-Array.find?_toList]at e
 unfold W.lookIn
 rw[hd]
 dsimp only
 split
 ·rename_i y q
  rw[q]at e
  exact congrArg some e
 ·rename_i q
  rw[q]at e
  have a:es.toList.any (·.refKey)=false:=by
   rw[List.any_eq_false]
   intro y hy
   obtain ⟨z,t,hkey⟩:=hk y (Array.mem_toList_iff.mp hy)
   simp[DictEntry.refKey,hkey]
  have a':¬ es.toList.any (·.refKey)=true:=by rw[a];exact Bool.false_ne_true
  rw[if_neg a']
  exact congrArg some e
theorem ObjM.look{h:Heap}{x dx C:Addr}{mA:Str->Option Value}(I:ObjM h x dx C mA):∃od,W.InstAt h x (W.instObj C dx) C (some od)/\∀name,W.lookIn name od=some (mA name):=
 let ⟨od,ho,hl⟩:=qlb I.ns
 ⟨od,⟨I.obj,rfl,rfl,ho⟩,hl⟩
section
variable {prog:Program}{w:World}{A:Around}{E:Value->Shared->Prop}{s:Shared}{K:W.Frag}{x dx C f:Addr}{mA:Str->Option Value}{name:Str}{v:Value}
theorem get_map{expr:Bool}{Q:Value->Shared->Prop}(X:K.In s.heap)(I:ObjM s.heap x dx C mA)(hg:W.plainGet K C name=true)(hh:W.hasDictIn K C=true)
  (ha:W.findIn K (.ref C) name=some none) (hv:mA name=some v) (hv':W.handedIn v=true) (h:Q v { s with toks:=s.toks+1 }) :
  wpAny (model prog w) A (getAttr (.ref x) name expr) Q E s:=by
 obtain ⟨od,J,hl⟩:=I.look
 exact W.get_value X J (W.plainGet_of hg).1 (W.findObj_own hh ha rfl (by rw[hl,hv])) hv' h
theorem get_meth{pl:Sem Bool}{Q:Value×List Value->Shared->Prop}(X:K.In s.heap)(I:ObjM s.heap x dx C mA)(hg:W.plainGet K C name=true)
  (hf:W.findIn K (.ref C) name=some (some (.ref f))) (ht:W.isFn K (.ref f)=true) (hv:mA name=none) (h:Q (.ref f,[.ref x]) s) :
  wpAny (model prog w) A (getMethod (.ref x) name pl) Q E s:=by
 obtain ⟨od,J,hl⟩:=I.look
 exact W.method_fn X J (W.plainGet_of hg).1 (W.plainGet_of hg).2 hf (beq_iff_eq.mp ht) (by show (W.lookIn name od).map (·.isSome)=some false;rw[hl,hv];rfl) h
theorem set_map{ns:List Str}{Q:Unit->Shared->Prop}(X:K.In s.heap)(I:ObjM s.heap x dx C mA)
  (hs:W.findIn K (.ref C) "__setattr__"=some (some (.builtin "object.__setattr__"))) (hp:W.plainOver K C=true) (ht:W.takerIn K C name=some none) (hh:W.hasDictIn K C=true)
  (hw:PySem.Within mA ns) (hsz:ns.length<=sizeLine)
  (h:∀h',ObjM h' x dx C (λy=>if y=name then some v else mA y)->Heap.SameBut dx s.heap h'->Q () { s with heap:=h',toks:=s.toks+2 }) :
  wpAny (model prog w) A (setAttr (.ref x) name v) Q E s:=by
 obtain ⟨od,J,hl⟩:=I.look
 refine W.set_plain X J hs (W.osa_open (s:={ s with toks:=s.toks+1 }) (r:=none) X J hp ht λb=>?_)
 obtain ⟨cd,hc,hd'⟩:=W.any_some hh
 have hx:s.heap.get? x=some ⟨.ref C,some dx,.plain,#[]⟩:=I.obj
 refine wpAny_bind (wpAny_pure (wpAny_bind (wpAny_bind (wpAny_loadPart hx (wpAny_bind (W.Looks.here (s:={ s with toks:=s.toks+1 }) (W.looks_clsIn X hc) ?_))))))
 rw[hd']
 refine wpAny_pure (a:=some dx) (wpAny_bind (wpAny_pure (wpAny_bind ?_)))
 refine wpAny_nsSet1 (s:={ s with toks:=s.toks+1 }) I.ns λh' hn2 hs2=>?_
 obtain ⟨oD,esD,epD,hoD,hdD,hcD⟩:=hn2.count (PySem.Within.cons name v hw)
 refine wpAny_bind (wpAny_lookBehind hoD (by rw[hdD];exact pastItsLine_dict (le_trans hcD (by rw[length_cons];omega))) ?_)
 exact wpAny_pure (h _ ⟨(hs2.2 _ (Ne.symm I.ne)).trans I.obj,hn2,I.ne⟩ hs2)
theorem make_map{R:Result->Shared->Prop}{vs:List Value}{kw:List (Str×Value)}(X:K.In s.heap)(hm:W.makesIn K C=true)
  (hi:W.findIn K (.ref C) "__init__"=some (some (.ref f))) (hf:W.typeIn K (.ref f)=some (.type "function"))
  (h:codeAny (model prog w) (A.under (.builtin "type.__call__" ⟨.ref C::vs,kw⟩)) (.call (.ref f) ⟨.ref (s.heap.objs.size+1)::vs,kw⟩) (W.InitBack (s.heap.objs.size+1) R)
   {s with heap:=(s.heap.push W.emptyDict).push (W.instObj C s.heap.objs.size) }) :
  codeAny (model prog w) A (.call (.ref C) ⟨vs,kw⟩) R s:=by
 obtain ⟨hh,g,d,t,os⟩:=s
 exact W.make_core (W.makes_of X hm) (W.looks_findIn X hi) (λself=>W.bind_fn X self hf) (.inl rfl) h
end
def putF(f:Str)(v:V):List (Str×V)->List (Str×V)
 |[]=>[(f,v)]
 | (g,x)::r=>if g=f then (g,v)::r else (g,x)::putF f v r
theorem qfz(f g:Str)(v:V):∀fs:List (Str×V),(putF f v fs).lookup g=if g=f then some v else fs.lookup g
 |[]=>by
  show List.lookup g [(f,v)]=_
  by_cases h:g=f
  ·have hb:(g == f)=true:=beq_iff_eq.mpr h
   simp only[List.lookup,hb,if_pos h]
  ·have hb:(g == f)=false:=beq_eq_false_iff_ne.mpr h
   simp only[List.lookup,hb,if_neg h]
 | (k,x)::r=>by
  have ih:=qfz f g v r
  rw[show putF f v ((k,x)::r)=(if k=f then (k,v)::r else (k,x)::putF f v r) from rfl]
  by_cases hk:k=f
  ·rw[if_pos hk]
   by_cases h:g=k
   ·have hb:(g == k)=true:=beq_iff_eq.mpr h
    simp only[List.lookup,hb,if_pos (h.trans hk)]
   ·have hb:(g == k)=false:=beq_eq_false_iff_ne.mpr h
    simp only[List.lookup,hb,if_neg (λe:g=f=>h (e.trans hk.symm))]
  ·rw[if_neg hk]
   by_cases h:g=k
   ·have hb:(g == k)=true:=beq_iff_eq.mpr h
    simp only[List.lookup,hb,if_neg (λe:g=f=>hk (h.symm.trans e))]
   ·have hb:(g == k)=false:=beq_eq_false_iff_ne.mpr h
    simp only[List.lookup,hb]
    exact ih
theorem qga(f:Str)(v:V):∀fs:List (Str×V),f∈(putF f v fs).map (·.1)/\∀g,g∈fs.map (·.1)->g∈(putF f v fs).map (·.1)
 |[]=>⟨by simp[putF],λg h=>by simp at h⟩
 | (k,x)::r=>by
  obtain ⟨i1,i2⟩:=qga f v r
  rw[show putF f v ((k,x)::r)=(if k=f then (k,v)::r else (k,x)::putF f v r) from rfl]
  by_cases hk:k=f
  ·rw[if_pos hk]
   subst hk
   exact ⟨by simp,λg h=>by simpa using h⟩
  ·rw[if_neg hk]
   refine ⟨?_,λg h=>?_⟩
   ·rw[map_cons]
    exact mem_cons_of_mem _ i1
   ·rw[map_cons]at h ⊢
    rcases mem_cons.mp h with e|e
    ·exact mem_cons.mpr (.inl e)
    ·exact mem_cons_of_mem _ (i2 g e)
theorem qfl(f:Str)(v:V):∀fs:List (Str×V),(putF f v fs).length<=fs.length+1
 |[]=>by simp[putF]
 | (k,x)::r=>by
  have ih:=qfl f v r
  rw[show putF f v ((k,x)::r)=(if k=f then (k,v)::r else (k,x)::putF f v r) from rfl]
  by_cases hk:k=f
  ·rw[if_pos hk,length_cons,length_cons];omega
  ·rw[if_neg hk,length_cons,length_cons];omega
theorem RelO.some_of{v:V}{o:Option Value}(r:RelO (some v) o):∃u,o=some u/\RelV v u:=by
 cases o with
 |none=>exact (show False from r).elim
 |some u=>exact ⟨u,rfl,r⟩
theorem RelO.none_of{o:Option Value}(r:RelO none o):o=none:=by
 cases o with
 |none=>rfl
 |some u=>exact (show False from r).elim
theorem yle{v:V}{u:Value}(r:RelV v u):W.handedIn u=true:=by
 cases v with
 |non=>cases (show u=Value.none from r);rfl
 |bl b=>cases (show u=Value.bool b from r);rfl
 |int i=>obtain ⟨t,e⟩:=(show ∃t,u=Value.int i t from r);cases e;rfl
 |str x=>obtain ⟨t,e⟩:=(show ∃t,u=Value.str x t from r);cases e;rfl
 |byt b=>obtain ⟨t,e⟩:=(show ∃t,u=Value.bytes b t from r);cases e;rfl
 |flt b=>obtain ⟨t,e⟩:=(show ∃t,u=Value.float b t from r);cases e;rfl
 |ref a=>cases (show u=Value.ref a from r);rfl
 |ty n=>cases (show u=Value.type n from r);rfl
section
variable {P:Program}{w:World}{H H':Hp}{h h':Heap}{a C dx:Addr}{fs fs':List (Str×V)}
theorem yg1(hok:HOk P w H h)(e:H a=some (.ins C dx fs)):∃mA,ObjM h a dx C mA/\(∀f,RelO (fs.lookup f) (mA f))/\PySem.Within mA (fs.map (·.1))/\fs.length<=1000/\H dx=some (.own a):=by
 obtain ⟨d,z,ne,ob,mA,n,r,q⟩:=(show ya7 P w H h a (.ins C dx fs) from hok a _ e)
 exact ⟨mA,⟨ob,n,ne⟩,r,q,z,d⟩
end
structure Cls(K:W.Frag)(C:Addr):Prop where
 pg:W.plainGet K C Str.empty=true
 hd:W.hasDictIn K C=true
 po:W.plainOver K C=true
 sa:W.findIn K (.ref C) "__setattr__"=some (some (.builtin "object.__setattr__"))
theorem Cls.get{K:W.Frag}{C:Addr}(c:Cls K C)(f:Str):W.plainGet K C f=true:=c.pg
def qdn(K:W.Frag)(C:Addr)(f:Str):Prop:=W.findIn K (.ref C) f=some none
theorem qdn.taker{K:W.Frag}{C:Addr}{f:Str}(n:qdn K C f):W.takerIn K C f=some none:=by
 unfold W.takerIn
 rw[show W.findIn K (.ref C) f=some none from n]
 rfl
structure Meth(K:W.Frag)(C:Addr)(m:Str)(f:Addr):Prop where
 at_:W.findIn K (.ref C) m=some (some (.ref f))
 fn:W.isFn K (.ref f)=true
 kp:W.keepIn K (.ref f)=true
section
variable {X:Cx}{pins:List (Addr×Obj)}{σ:St}{H:Hp}{s:Shared}{a C dx:Addr}{fs:List (Str×V)}{f:Str}{v:V}{A:Around}{E:Value->Shared->Prop}
theorem qko{b:Bool}{Q:Value->Shared->Prop}(I:Inv X pins σ H s)(e:H a=some (.ins C dx fs))(c:Cls X.K C)(n:qdn X.K C f)(l:fs.lookup f=some v)
  (h:∀u s',Inv X pins σ H s'->RelV v u->Q u s'):wpAny (model X.prog X.w) A (getAttr (.ref a) f b) Q E s:=by
 obtain ⟨mA,O,r,_,_,_⟩:=yg1 I.hok e
 obtain ⟨u,hu,ru⟩:=RelO.some_of (v:=v) (o:=mA f) (by rw[<-l];exact r f)
 exact get_map I.kIn O (c.get f) c.hd n hu (yle ru) (h u _ (I.tok _) ru)
theorem qgm{m:Str}{g:Addr}{pl:Sem Bool}{Q:Value×List Value->Shared->Prop}(I:Inv X pins σ H s)(e:H a=some (.ins C dx fs))(c:Cls X.K C)(k:Meth X.K C m g)(l:fs.lookup m=none)
  (h:Q (.ref g,[.ref a]) s):wpAny (model X.prog X.w) A (getMethod (.ref a) m pl) Q E s:=by
 obtain ⟨mA,O,r,_,_,_⟩:=yg1 I.hok e
 have hn:mA m=none:=RelO.none_of (by rw[<-l];exact r m)
 exact get_meth I.kIn O (c.get m) k.at_ k.fn hn h
theorem qkd{y:V}{u:Value}{Q:Unit->Shared->Prop}(I:Inv X pins σ H s)(e:H a=some (.ins C dx fs))(c:Cls X.K C)(n:qdn X.K C f)(hl:fs.length<1000)(ry:RelV y u)
  (h:∀s',Inv X pins σ (upd H a (.ins C dx (putF f y fs))) s'->Q () s'):wpAny (model X.prog X.w) A (setAttr (.ref a) f u) Q E s:=by
 obtain ⟨mA,O,r,wi,_,ho⟩:=yg1 I.hok e
 have hz:(fs.map (·.1)).length<=sizeLine:=by rw[length_map,sizeLine_eq];omega
 refine set_map I.kIn O c.sa c.po n.taker c.hd wi hz λh' O' sb=>h _ ?_
 have hd:∃o,h'.get? dx=some o:=let ⟨o,_,_,e',_⟩:=O'.ns;⟨o,e'⟩
 refine I.write (x:=a) (e:=dx) (by rw[e];exact True.intro) (.inr ho) (λb q hb z=>(sb.2 b hb).trans z) hd ?_
 refine ⟨by rw[yae O.ne];exact ho,?_,O.ne,O'.obj,_,O'.ns,λg=>?_,λg hg=>?_⟩
 ·have:=qfl f y fs;omega
 ·show RelO ((putF f y fs).lookup g) (if g=f then some u else mA g)
  rw[qfz]
  by_cases q:g=f
  ·rw[if_pos q,if_pos q];exact ry
  ·rw[if_neg q,if_neg q];exact r g
 ·by_cases q:g=f
  ·rw[q];exact (qga f y fs).1
  ·refine (qga f y fs).2 g (wi g λz=>hg ?_)
   show (if g=f then some u else mA g)=none
   rw[if_neg q];exact z
theorem Inv.made(I:Inv X pins σ H s):Inv X pins σ (upd (upd H s.heap.objs.size (.own (s.heap.objs.size+1))) (s.heap.objs.size+1) (.ins C s.heap.objs.size []))
  {s with heap:=(s.heap.push W.emptyDict).push (W.instObj C s.heap.objs.size) }:=by
 have e1:(s.heap.push W.emptyDict).get? s.heap.objs.size=some W.emptyDict:=get?_push_size s.heap rfl
 have e2:((s.heap.push W.emptyDict).push (W.instObj C s.heap.objs.size)).get? (s.heap.objs.size+1)=some (W.instObj C s.heap.objs.size):=by
  have:=get?_push_size (s.heap.push W.emptyDict) (o:=W.instObj C s.heap.objs.size) rfl
  rwa [size_push]at this
 have e3:(s.heap.push W.emptyDict).Ns s.heap.objs.size (λ_=>none):=⟨W.emptyDict,#[],_,e1,rfl,(λe he=>absurd he (by simp)),λ_=>rfl⟩
 have I1:=I.laid (a:=s.heap.objs.size) (o:=.own (s.heap.objs.size+1)) (h':=s.heap.push W.emptyDict) (t':=s.toks) (λb u q=>get?_push_of_some _ q) (le_refl _) ⟨_,e1⟩
 refine I1.laid (a:=s.heap.objs.size+1) (o:=.ins C s.heap.objs.size []) (t':=s.toks) (λb u q=>get?_push_of_some _ q) (Nat.le_of_eq (size_push _ _)) ?_
 have ne:s.heap.objs.size≠s.heap.objs.size+1:=ne_of_lt (lt_succ_self _)
 refine ⟨by rw[yae ne,qab],zero_le _,ne,e2,λ_=>none,(Heap.Ns1.of_empty e3).at λo q=>get?_push_of_some _ q,λ_=>True.intro,λy hy=>absurd rfl hy⟩
theorem attr_of{prog:Program}{w:World}{env:Env}{e:Expr}{f:Str}{pos:Pos}{s:Shared}{Q:Value->Shared->Prop}(hb:attributeBase e f env (eval e env)=eval e env)
  (h:wpAny (model prog w) A (eval e env) (λo s₁=>wpAny (model prog w) A (getAttr o f true) Q E s₁) E s):wpAny (model prog w) A (eval (.Attribute e f pos) env) Q E s:=
 Attribute_any_ h (by rw[arm_eval_Attribute,hb])
end
def tFld(K:W.Frag)(ta:TE)(f:Str):TE:=λσ H Q=>ta σ H λx H1=>∃a C dx fs v,x=.ref a/\H1 a=some (.ins C dx fs)/\Cls K C/\qdn K C f/\fs.lookup f=some v/\Q v H1
def sFld(K:W.Frag)(ta tv:TE)(f:Str):TS:=λD σ H=>tv σ H λy H1=>ta σ H1 λx H2=>∃a C dx fs,x=.ref a/\H2 a=some (.ins C dx fs)/\Cls K C/\qdn K C f/\fs.length<1000/\
 D.nx σ (upd H2 a (.ins C dx (putF f y fs)))
section
variable {X:Cx}{o e value:Expr}{f:Str}{pos pos' tpos:Pos}{ta tv:TE}
theorem pe_fld(he:PE X e ta)(hb:attributeBase e f X.env (eval e X.env)=eval e X.env):PE X (.Attribute e f pos) (tFld X.K ta f):=by
 intro pins s σ H Q I h
 refine attr_of hb (thn (he pins s σ H _ I h) λu s1 ⟨x,H1,I1,rx,a,C,dx,fs,v,ex,ea,c,n,l,q⟩=>?_)
 subst ex
 obtain rfl:u=Value.ref a:=rx
 exact qko I1 ea c n l λu' s2 I2 ru=>⟨v,H1,I2,ru,q⟩
theorem ps_fld(ha:PE X o ta)(hv:PE X value tv)(hs:swapsWith value (some (.Attribute o f pos')) pos.line X.env=pure false):PS X (.Assign [.Attribute o f pos'] value pos) (sFld X.K ta tv f):=by
 intro pins s σ H D I h
 refine plainObj_wpAny_Assign_Attribute (thn (hv pins s σ H _ I h) λu s1 ⟨y,H1,I1,ry,q⟩=>thn (ha pins s1 σ H1 _ I1 q) λov s2 ⟨x,H2,I2,rx,a,C,dx,fs,ex,ea,c,n,l,q2⟩=>?_) hs
 subst ex
 obtain rfl:ov=Value.ref a:=rx
 exact qkd I2 ea c n l ry λs3 I3=>⟨σ,_,I3,q2⟩
end
section
variable {X:Cx}{pins:List (Addr×Obj)}{σ:St}{H:Hp}{s:Shared}{A:Around}{E:Value->Shared->Prop}{Q:Value->Shared->Prop}{c:Value}{b:Bool}
inductive TyOf(K:W.Frag)(H:Hp):V->Value->Prop where
 |non:TyOf K H .non (.type "NoneType")
 |bl (x:Bool):TyOf K H (.bl x) (.type "bool")
 |int (i:Int):TyOf K H (.int i) (.type "int")
 |str (x:Str):TyOf K H (.str x) (.type "str")
 |flt (x:UInt64):TyOf K H (.flt x) (.type "float")
 |lst {a:Addr}{xs:List V} (e:H a=some (.lst xs)):TyOf K H (.ref a) (.type "list")
 |frz {a:Addr}{o:Obj}{xs:List V} (e:H a=some (.frz o (.lst xs))):TyOf K H (.ref a) (.type "list")
 |tup {a:Addr}{xs:List V} (e:H a=some (.tup xs)):TyOf K H (.ref a) (.type "tuple")
 |dK {a:Addr}{kvs:List (Key×V)} (e:H a=some (.dK kvs)):TyOf K H (.ref a) (.type "dict")
 |dT {a:Addr}{kvs:List (List Key×V)} (e:H a=some (.dT kvs)):TyOf K H (.ref a) (.type "dict")
 |ins {a C dx:Addr}{fs:List (Str×V)} (e:H a=some (.ins C dx fs)) (cl:Cls K C) (ha:W.findIn K (.ref C) "__class__"=some (some (.builtin "object.__class__")))
   (hn:W.specialIn K (.builtin "object.__class__") "__get__"=some (some (.builtin "getset_descriptor.__get__"))) (htk:W.takesIn K (.builtin "object.__class__")=some true)
   (hm:W.mroIn K C (.type "object")=some true):TyOf K H (.ref a) (.ref C)
theorem qlv{x:V}{u t:Value}(I:Inv X pins σ H s)(rx:RelV x u)(ty:TyOf X.K H x t)(e:W.kitOne X.K t c=some b)(h:∀tk,Q (.bool b) { s with toks:=tk }) :
  wpAny (model X.prog X.w) A (call (.builtin "isinstance") [u,c]) Q E s:=by
 cases ty with
 |non=>cases (show u=Value.none from rx);exact W.kia_one W.kitx_none I.kIn True.intro e (λz=>nomatch z) h
 |bl y=>cases (show u=Value.bool y from rx);exact W.kia_one W.kitx_bool I.kIn True.intro e (λz=>nomatch z) h
 |int i=>obtain ⟨t,q⟩:=(show ∃t,u=Value.int i t from rx);cases q;exact W.kia_one W.kitx_int I.kIn True.intro e (λz=>nomatch z) h
 |str y=>obtain ⟨t,q⟩:=(show ∃t,u=Value.str y t from rx);cases q;exact W.kia_one W.kitx_str I.kIn True.intro e (λz=>nomatch z) h
 |flt y=>obtain ⟨t,q⟩:=(show ∃t,u=Value.float y t from rx);cases q;exact W.kia_one W.kitx_float I.kIn True.intro e (λz=>nomatch z) h
 |@lst a xs ea=>
  cases (show u=Value.ref a from rx)
  obtain ⟨_,_,n,_,h1⟩:=(show ya7 X.prog X.w H s.heap a (.lst xs) from I.hok a _ ea)
  exact W.kia_one W.kitx_list I.kIn ⟨_,h1,rfl⟩ e (λz=>nomatch z) h
 |@frz a ob xs ea=>
  cases (show u=Value.ref a from rx)
  obtain ⟨_,_,_,n,_,h1⟩:=(show ya7 X.prog X.w H s.heap a (.frz ob (.lst xs)) from I.hok a _ ea)
  exact W.kia_one W.kitx_list I.kIn ⟨_,h1,rfl⟩ e (λz=>nomatch z) h
 |@tup a xs ea=>
  cases (show u=Value.ref a from rx)
  obtain ⟨_,_,_,p⟩:=(show ya7 X.prog X.w H s.heap a (.tup xs) from I.hok a _ ea)
  obtain ⟨o,h1,h2,_⟩:=p
  exact W.kia_one W.kitx_tuple I.kIn ⟨o,h1,h2⟩ e (λz=>nomatch z) h
 |@dK a kvs ea=>
  cases (show u=Value.ref a from rx)
  obtain ⟨_,_,vs,_,p⟩:=(show ya7 X.prog X.w H s.heap a (.dK kvs) from I.hok a _ ea)
  obtain ⟨o,es,ep,h1,h2,_⟩:=p
  exact W.kia_one W.kitx_dict I.kIn ⟨o,h1,h2.1⟩ e (λz=>nomatch z) h
 |@dT a kvs ea=>
  cases (show u=Value.ref a from rx)
  obtain ⟨_,_,xs,_,o,es,ep,h1,h2,_⟩:=(show ya7 X.prog X.w H s.heap a (.dT kvs) from I.hok a _ ea)
  exact W.kia_one W.kitx_dict I.kIn ⟨o,h1,h2.1⟩ e (λz=>nomatch z) h
 |@ins a C dx fs ea cl ha hn htk hm=>
  cases (show u=Value.ref a from rx)
  obtain ⟨mA,O,_⟩:=yg1 I.hok ea
  obtain ⟨od,J,_⟩:=O.look
  exact W.kia_one (W.kitx_own (cl.get _) cl.hd ha hn htk hm) I.kIn J e (λz=>nomatch z) h
end
structure Room(k:Nat)(A:Around):Prop where
 hd:A.handled=none
 dp:A.depth+3*k+5<recursionLimit
 un:A.units+16*k+200<cLine
 gd:A.guards=some []
theorem Room.mono{j k:Nat}{A:Around}(r:Room k A)(h:j<=k):Room j A:=⟨r.hd,by have:=r.dp;omega,by have:=r.un;omega,r.gd⟩
theorem Room.deeper{k:Nat}{A:Around}(r:Room (k+1) A)(env:Env):Room k (A.deeper env):=
 ⟨r.hd,by have:=r.dp;show A.depth+1+3*k+5<_;omega,by have:=r.un;show A.units+3+16*k+200<_;omega,r.gd⟩
theorem qj4{A:Around}{C:Addr}{us:List Value}{kw:List (Str×Value)}:(A.under (.builtin "type.__call__" ⟨.ref C::us,kw⟩)).depth=A.depth+1:=by
 first|rfl|simp[Around.under,Code.weight,Code.isCreation,Code.isGuard,Code.isCaller,Code.frames,Code.isFrame,guardIds]
theorem qkh{A:Around}{C:Addr}{us:List Value}{kw:List (Str×Value)}:(A.under (.builtin "type.__call__" ⟨.ref C::us,kw⟩)).units=A.units+1:=by
 first|rfl|simp[Around.under,Code.cUnits,Code.frames,Code.isFrame]
theorem qi1{A:Around}{C:Addr}{us:List Value}{kw:List (Str×Value)}:(A.under (.builtin "type.__call__" ⟨.ref C::us,kw⟩)).guards=A.guards:=by
 first|rfl|(unfold Around.under Code.guards;cases A.guards<;>simp[pushGuards,Code.isGuard,guardIds])
theorem Room.make{k:Nat}{A:Around}(r:Room (k+1) A)(C:Addr)(us:List Value)(kw:List (Str×Value)):Room k (A.under (.builtin "type.__call__" ⟨.ref C::us,kw⟩)):=
 ⟨r.hd,by have:=r.dp;rw[qj4];omega,by have:=r.un;rw[qkh];omega,by rw[qi1];exact r.gd⟩
theorem Room.depth{k:Nat}{A:Around}(r:Room k A):A.depth<recursionLimit:=by have:=r.dp;omega
theorem Room.units{k:Nat}{A:Around}(r:Room k A):A.units+64<cLine:=by have:=r.un;omega
def tNil:TA:=λ_ H Q=>Q [] H
def qdm(ta:TE)(tr:TA):TA:=λσ H Q=>ta σ H λx H1=>tr σ H1 λxs H2=>Q (x::xs) H2
section
variable {X:Cx}{e:Expr}{es:List Expr}{te:TE}{t:TA}{pos:Pos}
theorem qad:PA X [] tNil:=λ_ _ _ _ H Q I h=>Calls.spliced_nil ⟨[],H,I,.nil,h⟩
theorem yaa(ha:PE X e te)(hr:PA X es t)(hs:starEach (e::es) X.env=(false,eval e X.env)::starEach es X.env:=by rfl):PA X (e::es) (qdm te t):=by
 intro pos pins s σ H Q I h
 rw[hs]
 show wpAny _ _ (spliced ((false,eval e X.env)::backTo pos (starEach es X.env))) _ _ s
 refine Calls.spliced_cons (thn (ha pins s σ H _ I h) λu s1 ⟨x,H1,I1,r1,q1⟩=>?_)
 exact thn (hr pos pins s1 σ H1 _ I1 q1) λus s2 ⟨xs,H2,I2,r2,q2⟩=>⟨x::xs,H2,I2,.cons r1 r2,q2⟩
def tTup(t:TA):TE:=λσ H Q=>t σ H λxs H1=>xs.length<=sizeLine/\∀p,H1 p=none->Q (.ref p) (upd H1 p (.tup xs))
def tLst(t:TA):TE:=λσ H Q=>t σ H λxs H1=>xs.length<=sizeLine/\∀p,H1 p=none->Q (.ref p) (upd H1 p (.lst xs))
theorem yda{x1}(h:PA X es t):PE X (.Tuple es x1 pos) (tTup t):=by
 intro pins s σ H Q I hq
 refine wpAny_Tuple_spliced (thn (h pos pins s σ H _ I hq) λus s1 ⟨xs,H1,I1,r,z,q⟩=>⟨by rw[<-r.length];exact z,?_⟩)
 have hf:H1 s1.heap.objs.size=none:=I1.hok.fresh (le_refl _)
 refine ⟨.ref s1.heap.objs.size,upd H1 s1.heap.objs.size (.tup xs),I1.laid (t':=s1.toks) (λb u e=>get?_push_of_some _ e) (le_refl _) ?_,rfl,q _ hf⟩
 exact ⟨z,us,r,⟨_,get?_push_size _ rfl,rfl,_,rfl⟩⟩
theorem ycw(h:PA X es t):PE X (.List es pos) (tLst t):=by
 intro pins s σ H Q I hq
 refine wpAny_List_spliced (thn (h pos pins s σ H _ I hq) λus s1 ⟨xs,H1,I1,r,z,q⟩=>⟨by rw[<-r.length];exact z,?_⟩)
 have hf:H1 s1.heap.objs.size=none:=I1.hok.fresh (le_refl _)
 refine ⟨.ref s1.heap.objs.size,upd H1 s1.heap.objs.size (.lst xs),I1.laid (t':=s1.toks) (λb u e=>get?_push_of_some _ e) (le_refl _) ?_,rfl,q _ hf⟩
 exact ⟨z,us,0,r,get?_push_size _ rfl⟩
end
abbrev Sp:=List V->Hp->VK->XK->Prop
abbrev CXT:=List Env->Hp->Shared->XK->Value->Shared->Prop
structure Env0(P:Program)(w:World)(K:W.Frag)(mg:Str->Option Value)(base:Heap)(A:Around)(outer:List Env)(s:Shared)(H:Hp):Prop where
 frames:A.frames=some outer
 mod:Mod K mg base
 bs:∀b o,base.get? b=some o->s.heap.get? b=some o/\H b=none
 bsz:base.objs.size<=s.heap.objs.size
 funs:s.heap.FunFrames base outer
 frf:∀b∈frs outer,H b=none
 hok:HOk P w H s.heap
 bare:AllBare s.gens
def CE(outer:List Env)(P:Program)(w:World)(H:Hp)(s:Shared)(Q:VK)(u:Value)(s':Shared):Prop:=
 ∃v H',s'.os=s.os/\AllBare s'.gens/\Un (frs outer) [] H H' s.heap s'.heap/\HOk P w H' s'.heap/\RelV v u/\Q v H'
def CR(CX:CXT)(outer:List Env)(P:Program)(w:World)(H:Hp)(s:Shared)(Q:VK)(E:XK)(r:Result)(s':Shared):Prop:=
 match r with
 |.ok (.ret u)=>CE outer P w H s Q u s'
 |.ok _=>False
 |.error e=>CX outer H s E e s'
structure FnOk(P:Program)(w:World)(K:W.Frag)(mg:Str->Option Value)(base:Heap)(CX:CXT)(k:Nat)(f:Addr)(fd:FuncData)(ps:List Str)(sp:Sp):Prop where
 len:∀vs H Q E,sp vs H Q E->vs.length=ps.length
 run:∀(A:Around) (outer:List Env) (s:Shared) (H:Hp) (args:Args) (us:List Value) (vs:List V) (Q:VK) (E:XK),Room k A->Env0 P w K mg base A outer s H->BindsTo s fd args (ps.zip us)->Vals vs us->sp vs H Q E->
  codeAny (model P w) A (.call (.ref f) args) (CR CX outer P w H s Q E) s
theorem Env0.make{P:Program}{w:World}{K:W.Frag}{mg:Str->Option Value}{base:Heap}{A:Around}{outer:List Env}{s:Shared}{H:Hp}(e:Env0 P w K mg base A outer s H)(C:Addr)(us:List Value)(kw:List (Str×Value)) :
  Env0 P w K mg base (A.under (.builtin "type.__call__" ⟨.ref C::us,kw⟩)) outer s H:=⟨by first|exact e.frames|(simpa [Around.under,Code.envs,Code.isFrame,pushEnvs] using e.frames),e.mod,e.bs,e.bsz,e.funs,e.frf,e.hok,e.bare⟩
section
variable {X:Cx}{pins:List (Addr×Obj)}{σ:St}{H:Hp}{s s':Shared}
theorem Inv.env0(I:Inv X pins σ H s):Env0 X.prog X.w X.K X.mg X.base X.A X.stack s H:=
 ⟨I.ok.frames,I.ok.mod,I.bs,le_trans I.ok.bsz I.sz,I.stack,I.stkFree,I.hok,I.bare⟩
theorem Inv.after{Q:VK}{u:Value}(I:Inv X pins σ H s)(h:CE X.stack X.prog X.w H s Q u s'):EP X pins σ Q u s':=by
 obtain ⟨v,H',os,bare,un,hok,r,q⟩:=h
 obtain ⟨hh,g,d,t,os'⟩:=s'
 obtain rfl:os'=s.os:=os
 exact ⟨v,H',I.call (h':=hh) (g':=g) (d':=d) (t':=t) (ch:=[]) un hok bare (λb z=>absurd z (by simp)),r,q⟩
end
def tCall(sp:Sp)(dvs:List V)(E:XK)(t:TA):TE:=λσ H Q=>t σ H λvs H1=>sp (vs++dvs) H1 Q E
def tMeth(C:Addr)(m:Str)(sp:Sp)(dvs:List V)(E:XK)(ta:TE)(t:TA):TE:=λσ H Q=>ta σ H λx H1=>∃a dx fs,x=.ref a/\H1 a=some (.ins C dx fs)/\fs.lookup m=none/\
 t σ H1 λvs H2=>sp (x::(vs++dvs)) H2 Q E
def tMake(C:Addr)(sp:Sp)(dvs:List V)(E:XK)(t:TA):TE:=λσ H Q=>t σ H λvs H1=>∀x dx,H1 x=none->H1 dx=none->dx≠x->
 sp (.ref x::(vs++dvs)) (upd (upd H1 dx (.own x)) x (.ins C dx [])) (λv H2=>v=.non/\Q (.ref x) H2) E
def qef(K:W.Frag)(fd:FuncData)(ps:List Str)(ds:List Value):Prop:=
 ∀(s:Shared) (us:List Value),K.In s.heap->(us++ds).length=ps.length->BindsTo s fd ⟨us,[]⟩ (ps.zip (us++ds))
theorem qef.all{K:W.Frag}{fd:FuncData}{ps:List Str}(h:∀us:List Value,us.length=ps.length->bindArgs fd ⟨us,[]⟩=pure (ps.zip us)):qef K fd ps []:=λs us _ hl=>by
 rw[List.append_nil]at hl ⊢
 exact .of_eq (h us hl)
def qfq(CX:CXT)(X:Cx)(E:XK):Prop:=∀(pins:List (Addr×Obj)) (σ:St) (H:Hp) (s:Shared) (e:Value) (s':Shared),Inv X pins σ H s->CX X.stack H s E e s'->X.xe e s'
section
variable {X:Cx}{CX:CXT}{k:Nat}{f C:Addr}{fd:FuncData}{ps:List Str}{sp:Sp}{dvs:List V}{ds:List Value}{E:XK}{x m:Str}{p pos apos:Pos}{e o:Expr}{es:List Expr}{ta:TE}{t:TA}
theorem yly{pins:List (Addr×Obj)}{σ:St}{H:Hp}{s:Shared}{Q:VK}{us:List Value}{vs:List V}(F:FnOk X.prog X.w X.K X.mg X.base CX k f fd ps sp)(hr:Room k X.A)(hb:qef X.K fd ps ds)(hd:Vals dvs ds)(hx:qfq CX X E)
  (I:Inv X pins σ H s) (r:Vals vs us) (h:sp (vs++dvs) H Q E):wpAny (model X.prog X.w) X.A (call (.ref f) us) (EP X pins σ Q) X.xe s:=by
 have r2:Vals (vs++dvs) (us++ds):=r.append hd
 have hl:(us++ds).length=ps.length:=by rw[<-r2.length];exact F.len _ _ _ _ h
 refine wpAny_call (codeAny_mono (F.run X.A X.stack s H ⟨us,[]⟩ (us++ds) (vs++dvs) Q E hr I.env0 (hb s us I.kIn hl) r2 h) λr s' hq=>?_)
 cases r with
 |error e=>exact hx pins σ H s e s' I hq
 |ok fl=>
  cases fl with
  |ret u=>exact I.after hq
  |next=>exact False.elim hq
  |brk=>exact False.elim hq
  |cont=>exact False.elim hq
theorem pe_call(F:FnOk X.prog X.w X.K X.mg X.base CX k f fd ps sp)(hr:Room k X.A)(hg:Gl X x)(hm:X.mg x=some (.ref f))(hk:W.keepIn X.K (.ref f)=true)(hb:qef X.K fd ps ds)(hd:Vals dvs ds)(hx:qfq CX X E)
  (ha:PA X (e::es) t) (hdb:(x == ("__debug__" : Str))=false:=by decide) (he:starEach (e::es) X.env=(false,eval e X.env)::starEach es X.env:=by rfl) (hpl:(backTo pos (starEach es X.env)).any (·.1)=false:=by rfl) :
  PE X (.Call (.Name x p) (e::es) [] pos) (tCall sp dvs E t):=by
 intro pins s σ H Q I h
 refine wpAny_Call_Name_kw (qi3 I hg hm ?_ hdb)
 refine W.callWith_K (h₀:=X.base) I.ok.mod.kin hk (thn (ha pos pins s σ H _ I h) λus s1 ⟨vs,H1,I1,r,q⟩=>⟨I1.kIn,?_⟩) he hpl
 exact yly F hr hb hd hx I1 r q
theorem pe_meth{pl:Sem Bool}(he:PE X o ta)(c:Cls X.K C)(hm:Meth X.K C m f)(F:FnOk X.prog X.w X.K X.mg X.base CX k f fd ps sp)(hr:Room k X.A)(hb:qef X.K fd ps ds)(hd:Vals dvs ds)(hx:qfq CX X E)(ha:PA X (e::es) t)
  (hst:starEach (e::es) X.env=(false,eval e X.env)::starEach es X.env:=by rfl) (hpl:(backTo pos (starEach es X.env)).any (·.1)=false:=by rfl)
  (ht:eval (.Call (.Attribute o m apos) (e::es) [] pos) X.env=(do
   let ov <-eval o X.env
   standAt apos.atName
   let (f,first) <-holding [ov] (getMethod ov m pl)
   callWith pos f first (backTo pos (starEach (e::es) X.env)) (backToKw pos (keywordEach [] X.env))):=by rfl) :
  PE X (.Call (.Attribute o m apos) (e::es) [] pos) (tMeth C m sp dvs E ta t):=by
 intro pins s σ H Q I h
 refine W.methodCall_KW (pl:=pl) (thn (he pins s σ H _ I h) λu s1 ⟨x,H1,I1,rx,a,dx,fs,ex,ea,l,q⟩=>?_) ht
 subst ex
 obtain rfl:u=Value.ref a:=rx
 refine qgm I1 ea c hm l ?_
 refine W.callWith_K (first:=[.ref a]) (h₀:=X.base) I.ok.mod.kin hm.kp (thn (ha pos pins s1 σ H1 _ I1 q) λus s2 ⟨vs,H2,I2,r,q2⟩=>⟨I2.kIn,?_⟩) hst hpl
 exact yly (us:=.ref a::us) (vs:=.ref a::vs) F hr hb hd hx I2 (.cons rfl r) q2
theorem pe_meth0{pl:Sem Bool}(he:PE X o ta)(c:Cls X.K C)(hm:Meth X.K C m f)(F:FnOk X.prog X.w X.K X.mg X.base CX k f fd ps sp)(hr:Room k X.A)(hb:qef X.K fd ps ds)(hd:Vals dvs ds)(hx:qfq CX X E)
  (ht:eval (.Call (.Attribute o m apos) [] [] pos) X.env=(do
   let ov <-eval o X.env
   standAt apos.atName
   let (f,first) <-holding [ov] (getMethod ov m pl)
   callWith pos f first (backTo pos (starEach [] X.env)) (backToKw pos (keywordEach [] X.env))):=by rfl) :
  PE X (.Call (.Attribute o m apos) [] [] pos) (tMeth C m sp dvs E ta tNil):=by
 intro pins s σ H Q I h
 refine W.methodCall_KW (pl:=pl) (thn (he pins s σ H _ I h) λu s1 ⟨x,H1,I1,rx,a,dx,fs,ex,ea,l,q⟩=>?_) ht
 subst ex
 obtain rfl:u=Value.ref a:=rx
 refine qgm I1 ea c hm l ?_
 exact W.callWith_K0 (first:=[.ref a]) I1.kIn hm.kp (yly (us:=[.ref a]) (vs:=[.ref a]) F hr hb hd hx I1 (.cons rfl .nil) q)
structure Mk(K:W.Frag)(C f:Addr):Prop where
 makes:W.makesIn K C=true
 init:W.findIn K (.ref C) "__init__"=some (some (.ref f))
 fn:W.isFn K (.ref f)=true
 kp:W.keepIn K (.ref C)=true
theorem run_make{pins:List (Addr×Obj)}{σ:St}{H:Hp}{s:Shared}{Q:VK}{us:List Value}{vs:List V}(M:Mk X.K C f)(F:FnOk X.prog X.w X.K X.mg X.base CX k f fd ps sp)(hr:Room (k+1) X.A)(hb:qef X.K fd ps ds)(hd:Vals dvs ds)
  (hx:qfq CX X E) (I:Inv X pins σ H s) (r:Vals vs us)
  (h:∀x dx,H x=none->H dx=none->dx≠x->sp (.ref x::(vs++dvs)) (upd (upd H dx (.own x)) x (.ins C dx [])) (λv H2=>v=.non/\Q (.ref x) H2) E) :
  wpAny (model X.prog X.w) X.A (call (.ref C) us) (EP X pins σ Q) X.xe s:=by
 have hq:=h (s.heap.objs.size+1) s.heap.objs.size (I.hok.fresh (le_succ _)) (I.hok.fresh (le_refl _)) (ne_of_lt (lt_succ_self _))
 have I2:=Inv.made (C:=C) I
 have r2:Vals (V.ref (s.heap.objs.size+1)::(vs++dvs)) (Value.ref (s.heap.objs.size+1)::(us++ds)):=.cons rfl (r.append hd)
 have hl:(Value.ref (s.heap.objs.size+1)::us++ds).length=ps.length:=by
  have e:=r2.length
  rw[F.len _ _ _ _ hq]at e
  exact e.symm
 refine wpAny_call (make_map (f:=f) I.kIn M.makes M.init (beq_iff_eq.mp M.fn) (codeAny_mono (F.run _ X.stack _ _ ⟨Value.ref (s.heap.objs.size+1)::us,[]⟩ (Value.ref (s.heap.objs.size+1)::(us++ds)) _ _ E (hr.make C us [])
  (I2.env0.make C us []) (hb _ (Value.ref (s.heap.objs.size+1)::us) I2.kIn hl) r2 hq) λr s' hq'=>?_))
 cases r with
 |error e=>exact hx pins σ _ _ e s' I2 hq'
 |ok fl=>
  cases fl with
  |ret u=>
   obtain ⟨v,H',I3,rv,ev,q3⟩:=I2.after hq'
   subst ev
   exact ⟨rv,⟨V.ref (s.heap.objs.size+1),H',I3,rfl,q3⟩⟩
  |next=>exact False.elim hq'
  |brk=>exact False.elim hq'
  |cont=>exact False.elim hq'
theorem pe_make(M:Mk X.K C f)(F:FnOk X.prog X.w X.K X.mg X.base CX k f fd ps sp)(hr:Room (k+1) X.A)(hg:Gl X x)(hm:X.mg x=some (.ref C))(hb:qef X.K fd ps ds)(hd:Vals dvs ds)(hx:qfq CX X E)
  (ha:PA X (e::es) t) (hdb:(x == ("__debug__" : Str))=false:=by decide) (he:starEach (e::es) X.env=(false,eval e X.env)::starEach es X.env:=by rfl) (hpl:(backTo pos (starEach es X.env)).any (·.1)=false:=by rfl) :
  PE X (.Call (.Name x p) (e::es) [] pos) (tMake C sp dvs E t):=by
 intro pins s σ H Q I h
 refine wpAny_Call_Name_kw (qi3 I hg hm ?_ hdb)
 refine W.callWith_K (h₀:=X.base) I.ok.mod.kin M.kp (thn (ha pos pins s σ H _ I h) λus s1 ⟨vs,H1,I1,r,q⟩=>⟨I1.kIn,?_⟩) he hpl
 exact run_make M F hr hb hd hx I1 r q
end
structure FnScope(N P:List Str)(sc:Scope):Prop where
 kind:sc.kind=.function
 co:sc.isCoroutine=false
 gen:sc.isGenerator=false
 nd:N.Nodup
 pre:N.take P.length=P
 par:∀x∈P,sc.names.lookup x=some .local\/sc.names.lookup x=some .cell
 nofree:∀y∈sc.names,y.2≠.free
theorem fsc{N P:List Str}{sc:Scope}(a:sc.kind=.function:=by rfl)(b:sc.isCoroutine=false:=by rfl)(c:sc.isGenerator=false:=by rfl)(d:N.Nodup:=by decide +kernel)(e:N.take P.length=P:=by rfl)(f:∀x∈P,sc.names.lookup x=some .local\/sc.names.lookup x=some .cell:=by decide +kernel)(g:∀y∈sc.names,y.2≠.free:=by decide +kernel):FnScope N P sc:=⟨a,b,c,d,e,f,g⟩
theorem yhz{kindOf:Str->Option NameKind}{x:Str}:∀{binds:List (Str×Value)}{m:Str->Option Value},(∀v,(x,v)∉binds)->bindL kindOf binds m x=m x
 |[],_,_=>rfl
 | (n,v)::r,m,h=>by
  unfold bindL
  rw[yhz λw hw=>h w (mem_cons_of_mem _ hw)]
  split
  ·have:x≠n:=by rintro rfl;exact h v mem_cons_self
   simp[this]
  ·rfl
theorem yh2{kindOf:Str->Option NameKind}{x:Str}:∀{binds:List (Str×Value)}{m:Str->Option Value},(∀v,(x,v)∉binds)->bindC kindOf binds m x=m x
 |[],_,_=>rfl
 | (n,v)::r,m,h=>by
  unfold bindC
  rw[yh2 λw hw=>h w (mem_cons_of_mem _ hw)]
  split
  ·rfl
  ·have:x≠n:=by rintro rfl;exact h v mem_cons_self
   simp[this]
theorem yh6{kindOf:Str->Option NameKind}{x:Str}{v:Value}:∀{P:List Str}{vs:List Value}{i:Nat}{m:Str->Option Value},P.Nodup->P[i]?=some x->vs[i]?=some v->kindOf x=some .local->
  bindL kindOf (P.zip vs) m x=some v
 |[],_,_,_,_,h,_,_=>by simp at h
 |_::_,[],_,_,_,_,h,_=>by simp at h
 |p::P,w::vs,0,m,nd,h1,h2,hk=>by
  simp at h1 h2;subst h1;subst h2
  show bindL kindOf ((p,w)::P.zip vs) m p=_
  unfold bindL
  rw[yhz λv hv=>(nodup_cons.mp nd).1 (List.of_mem_zip hv).1,if_pos hk]
  simp
 |p::P,w::vs,i+1,m,nd,h1,h2,hk=>by
  show bindL kindOf ((p,w)::P.zip vs) m x=_
  unfold bindL
  exact yh6 (i:=i) (nodup_cons.mp nd).2 (by simpa using h1) (by simpa using h2) hk
theorem qin{kindOf:Str->Option NameKind}{x:Str}{v:Value}:∀{P:List Str}{vs:List Value}{i:Nat}{m:Str->Option Value},P.Nodup->P[i]?=some x->vs[i]?=some v->kindOf x≠some .local->
  bindC kindOf (P.zip vs) m x=some v
 |[],_,_,_,_,h,_,_=>by simp at h
 |_::_,[],_,_,_,_,h,_=>by simp at h
 |p::P,w::vs,0,m,nd,h1,h2,hk=>by
  simp at h1 h2;subst h1;subst h2
  show bindC kindOf ((p,w)::P.zip vs) m p=_
  unfold bindC
  rw[yh2 λv hv=>(nodup_cons.mp nd).1 (List.of_mem_zip hv).1,if_neg hk]
  simp
 |p::P,w::vs,i+1,m,nd,h1,h2,hk=>by
  show bindC kindOf ((p,w)::P.zip vs) m x=_
  unfold bindC
  exact qin (i:=i) (nodup_cons.mp nd).2 (by simpa using h1) (by simpa using h2) hk
def start(N:List Str)(vs:List V):St:=vs.map some++List.replicate (N.length-vs.length) none
def cxOf(CX:CXT)(P:Program)(w:World)(K:W.Frag)(mg:Str->Option Value)(base:Heap)(N:List Str)(qual:Str)(scope:Scope)(f:Addr)(cd:Value)(A:Around)(outer:List Env)(s:Shared)(H:Hp)(E:XK):Cx where
 prog:=P
 w:=w
 K:=K
 mg:=mg
 base:=base
 A:=A.deeper (envOfC qual scope s.heap.objs.size f cd)
 N:=N
 s₀:=s
 H₀:=H
 env:=envOfC qual scope s.heap.objs.size f cd
 outer:=outer
 stack:=envOfC qual scope s.heap.objs.size f cd::outer
 ex:=[]
 calm:=true
 fn:=λ_=>true
 pn:=[]
 xe:=λe s'=>wpAny (model P w) (A.deeper (envOfC qual scope s.heap.objs.size f cd)) (leaving (envOfC qual scope s.heap.objs.size f cd) e) (λ_ s''=>CX outer H s E e s'') (λe' s''=>CX outer H s E e' s'') s'
theorem qj0{sc:Scope}{n:Nat}{x:Str}(h:sc.names.lookup x=some .cell):∃c,(cellsFrom n sc.names []).lookup x=some c:=by
 have q:=W.cellsFrom_some sc.names n [] (.inl h)
 exact Option.isSome_iff_exists.mp q
theorem qmf{CX:CXT}{P:Program}{w:World}{K:W.Frag}{mg:Str->Option Value}{base:Heap}{N ps:List Str}{qual:Str}{scope:Scope}{f:Addr}{cd:Value}{A:Around}{outer:List Env}{s s1:Shared}{H:Hp}{E:XK}{us:List Value}{vs:List V}
  (S:FnScope N ps scope) (hd:A.handled=none) (e0:Env0 P w K mg base A outer s H) (hl:vs.length=ps.length) (r:Vals vs us)
  (x:InCallC s s.heap.objs.size (bindL (envOfC qual scope s.heap.objs.size f cd).kindOf (ps.zip us) λ_=>none) (cellsFrom (s.heap.objs.size+1) scope.names []) (bindC (envOfC qual scope s.heap.objs.size f cd).kindOf (ps.zip us) λ_=>none) s1) :
  Inv (cxOf CX P w K mg base N qual scope f cd A outer s H E) [] (start N vs) H s1:=by
 have hpl:ps.length<=N.length:=by have:=congrArg List.length S.pre;rw[length_take]at this;omega
 obtain ⟨h1,tk,rfl,hk⟩:=x.done
 have noA:∀b:Addr,b∉(cxOf CX P w K mg base N qual scope f cd A outer s H E).ex:=λb z=>absurd (show b∈([]:List Addr) from z) (by simp)
 refine ⟨⟨e0.mod,S.kind,rfl,rfl,le_refl _,λy z c h1 h2=>?_,λy hy=>?_,λy c _ h=>?_,λ_=>hd,Around.frames_deeper e0.frames,.inr ⟨rfl,rfl⟩,λb z=>absurd z (noA b),e0.bs,e0.bsz,λb _ _=>noA b,λb z=>absurd z (noA b),e0.funs,e0.frf⟩,
  rfl,e0.bare,Un.kept hk,⟨_,x.toInCall.ns,λi y v h1 h2 h3=>?_⟩,λy c h=>⟨_,x.cell y c h⟩,e0.hok.fresh (le_refl _),λy c h=>?_,λp hp=>absurd (show p∈([]:List (Addr×Obj)) from hp) (by simp),e0.hok.kept hk,?_⟩
 ·exact name_of_addr x.apart (PySem.mem_of_lookup h1) (PySem.mem_of_lookup h2)
 ·have hy:scope.names.lookup y=some .cell\/scope.names.lookup y=some .free:=hy
  rcases hy with hy|hy
  ·exact qj0 hy
  ·exact absurd rfl (S.nofree _ (PySem.mem_of_lookup hy))
 ·exact le_of_lt (x.above y c (PySem.mem_of_lookup h))
 ·have hi:i<vs.length:=by
   unfold start at h2
   by_cases hi:i<vs.length
   ·exact hi
   ·rw[getElem?_append_right (by simpa using hi)]at h2
    rw[List.getElem?_replicate]at h2
    split at h2<;>cases h2
  have ha:vs[i]?=some v:=by
   unfold start at h2
   rw[getElem?_append_left (by simpa using hi),getElem?_map]at h2
   cases e:vs[i]? with
   |none=>rw[e]at h2;cases h2
   |some a=>rw[e]at h2;cases h2;rfl
  obtain ⟨u,hu,rv⟩:=r.get ha
  have hp:ps[i]?=some y:=by
   rw[<-S.pre,List.getElem?_take_of_lt (by omega)];exact h1
  have ndP:ps.Nodup:=by rw[<-S.pre];exact S.nd.sublist (List.take_sublist _ _)
  refine ⟨u,rv,?_⟩
  rcases S.par y (mem_of_getElem? hp) with k|k
  ·exact .inl ⟨k,yh6 ndP hp hu k⟩
  ·obtain ⟨c,e⟩:=qj0 (n:=s.heap.objs.size+1) k
   refine .inr ⟨.inl k,c,e,?_⟩
   have q:=x.cell y c e
   rw[qin ndP hp hu (by show scope.names.lookup y≠_;rw[k];decide)]at q
   exact q
 ·exact e0.hok.fresh (le_of_lt (x.above y c (PySem.mem_of_lookup h)))
 ·unfold start
  show _=N.length
  rw[length_append,length_map,length_replicate]
  omega
theorem fn_of{CX:CXT}{P:Program}{w:World}{K:W.Frag}{mg:Str->Option Value}{base:Heap}{k:Nat}{f:Addr}{name qual:Str}{params:Arguments}{body:List Stmt}{scope:Scope}{dV kV doc pm cdv ct oc:Value}{an od:Option Addr}
  {osl:Array (Option Value)}{N ps:List Str}{sp:Sp} (lk:K.lookup f=some ⟨oc,od,.func (W.fnOf name qual params body scope dV kV doc pm an cdv ct),osl⟩) (hcd:W.codeIn K cdv qual=true) (S:FnScope N ps scope)
  (len:∀vs H Q E,sp vs H Q E->vs.length=ps.length)
  (hbody:∀(A:Around) (outer:List Env) (s:Shared) (H:Hp) (vs:List V) (Q:VK) (E:XK),Room k (A.deeper (envOfC qual scope s.heap.objs.size f cdv))->sp vs H Q E->
   ∃t,PSs (cxOf CX P w K mg base N qual scope f cdv A outer s H E) body t/\t { nx:=λ_ H'=>Q .non H',rt:=Q } (start N vs) H) :
  FnOk P w K mg base CX (k+1) f (W.fnOf name qual params body scope dV kV doc pm an cdv ct) ps sp:=by
 refine ⟨len,λA outer s H args us vs Q E hr e0 hb r hsp=>?_⟩
 have hl:=len _ _ _ _ hsp
 have KX:K.In s.heap:=e0.mod.kin.keeps λb o e=>(e0.bs b o e).1
 have lim:s.heap.NoLimit:=e0.mod.nolimit.keeps λb o e=>(e0.bs b o e).1
 have hkind:∀y∈ps.zip us,scope.names.lookup y.1=some .local\/(scope.names.lookup y.1=some .cell/\((cellsFrom (s.heap.objs.size+1) scope.names []).lookup y.1).isSome=true):=λ⟨n,v⟩ hy=>by
  rcases S.par n (List.of_mem_zip hy).1 with q|q
  ·exact .inl q
  ·exact .inr ⟨q,W.cellsFrom_some _ _ _ (.inl q)⟩
 refine codeAny_call_function hr.depth (KX _ _ lk) rfl S.co S.gen rfl (W.codeRec_of KX hcd) (hb _ _ _ _ ?_)
 refine wpAny_newFunctionEnv_cells S.kind hkind λenv he s1 x=>?_
 subst he
 refine ⟨lim.keeps x.toInCall.keep,codeAny_func ?_⟩
 obtain ⟨t,ht,hq⟩:=hbody A outer s H vs Q E (hr.deeper _) hsp
 have I:Inv (cxOf CX P w K mg base N qual scope f cdv A outer s H E) [] (start N vs) H s1:=qmf S hr.hd e0 hl r x
 refine wpAny_mono (ht [] s1 (start N vs) H _ I hq) (λfl s' hs=>?_) λe s' hs=>hs
 have fin:∀{σ':St}{H':Hp}{v:V}{u:Value},Inv (cxOf CX P w K mg base N qual scope f cdv A outer s H E) [] σ' H' s'->RelV v u->Q v H'->CE outer P w H s Q u s':=
  λ{σ' H' v u} J rv q=>⟨v,H',J.os,J.bare,J.base,J.hok,rv,q⟩
 cases fl with
 |ret u=>
  obtain ⟨v,σ',H',J,rv,q⟩:=hs
  exact fin J rv q
 |next=>
  obtain ⟨σ',H',J,q⟩:=hs
  exact fin (v:=V.non) (u:=Value.none) J rfl q
 |brk=>
  obtain ⟨_,_,_,q⟩:=hs
  exact False.elim q
 |cont=>
  obtain ⟨_,_,_,q⟩:=hs
  exact False.elim q
section
variable {X:Cx}{x:Str}{p pos:Pos}{e:Expr}{es:List Expr}{t:TA}{id T:String}{r:List V->Hp->VK->Prop}
def tCB(r:List V->Hp->VK->Prop)(t:TA):TE:=λσ H Q=>t σ H λvs H1=>r vs H1 Q
theorem qai(hc:yb6 X (.builtin id) r)(hg:Gl X x)(hm:X.mg x=none)(hv:bootBuiltins x=some (.builtin id))(ha:PA X (e::es) t)(hn:x≠"__name__":=by decide)(hdb:(x == ("__debug__" : Str))=false:=by decide)
  (he:starEach (e::es) X.env=(false,eval e X.env)::starEach es X.env:=by rfl) (hpl:(backTo pos (starEach es X.env)).any (·.1)=false:=by rfl):PE X (.Call (.Name x p) (e::es) [] pos) (tCB r t):=by
 intro pins s σ H Q I h
 refine wpAny_Call_Name_kw (yfx I hg hm hv ?_ hn hdb)
 exact PyProof.Rows.callWith_builtin1 (thn (ha pos pins s σ H _ I h) λus s1 ⟨vs,H1,I1,r1,q1⟩=>hc pins s1 σ H1 vs us Q I1 r1 q1) he hpl
theorem yc7(hc:yb6 X (.type T) r)(hg:Gl X x)(hm:X.mg x=none)(hv:bootBuiltins x=some (.type T))(ha:PA X (e::es) t)(hn:x≠"__name__":=by decide)(hdb:(x == ("__debug__" : Str))=false:=by decide)
  (he:starEach (e::es) X.env=(false,eval e X.env)::starEach es X.env:=by rfl) (hpl:(backTo pos (starEach es X.env)).any (·.1)=false:=by rfl):PE X (.Call (.Name x p) (e::es) [] pos) (tCB r t):=by
 intro pins s σ H Q I h
 refine wpAny_Call_Name_kw (yfx I hg hm hv ?_ hn hdb)
 exact PyProof.Rows.callWith_type1 (thn (ha pos pins s σ H _ I h) λus s1 ⟨vs,H1,I1,r1,q1⟩=>hc pins s1 σ H1 vs us Q I1 r1 q1) he hpl
end
end L2
namespace HT
open PySem PyProof.Rows
section
variable {prog:Program}{w:World}{A:Around}{E:Value->Shared->Prop}{s:Shared}
def sIx(n d:Nat):Option Int->Nat
 |none=>d
 |some v=>if v<0 then (v+(n:Int)).toNat else min v.toNat n
theorem sIx_none(n d:Nat):sIx n d none=d:=rfl
theorem sIx_nat(n d k:Nat):sIx n d (some (k:Int))=min k n:=by
 show (if (k:Int)<0 then ((k:Int)+(n:Int)).toNat else min (k:Int).toNat n)=min k n
 rw[if_neg (by omega),toNat_natCast]
theorem sIx_le(n d:Nat)(hd:d<=n)(o:Option Int):sIx n d o<=n:=by
 cases o with
 |none=>exact hd
 |some v=>
  show (if v<0 then (v+(n:Int)).toNat else min v.toNat n)<=n
  by_cases hv:v<0
  ·rw[if_pos hv];omega
  ·rw[if_neg hv];exact Nat.min_le_right _ _
theorem qmb(v:Int)(n d:Nat):(if v<0 then max (v+(n:Int)) 0 else min v (n:Int))=((sIx n d (some v):Nat):Int):=by
 show (if v<0 then max (v+(n:Int)) 0 else min v (n:Int))=(((if v<0 then (v+(n:Int)).toNat else min v.toNat n):Nat):Int)
 by_cases hv:v<0
 ·simp only[if_pos hv];omega
 ·simp only[if_neg hv];omega
theorem qkg(lo hi:Option Int)(n:Nat):Builtin.Slice.sliceAdjust lo hi 1 (n:Int)=(((sIx n 0 lo:Nat):Int),((sIx n n hi:Nat):Int)):=by
 have h1:¬ ((1:Int)<0):=by omega
 unfold Builtin.Slice.sliceAdjust
 simp only[h1,if_false]
 refine Prod.ext ?_ ?_
 ·cases lo with
  |none=>rfl
  |some v=>exact qmb v n 0
 ·cases hi with
  |none=>rfl
  |some v=>exact qmb v n n
theorem ykd(i j:Nat):Builtin.Slice.slicePlaces (i:Int) (j:Int) 1=j-i:=by
 unfold Builtin.Slice.slicePlaces
 have h1:(1:Int)>0:=by omega
 simp only[h1,if_true,Int.ediv_one]
 split<;>omega
theorem ygs{v:Value}{o:Option Int}{Q:Option Int->Shared->Prop}(p:IsPart v o)(h:Q o s):wpAny (model prog w) A (Builtin.Slice.slicePartIndex v) Q E s:=by
 cases p with
 |none=>exact slicePart_none h
 |int i t=>exact slicePart_int h
theorem yfe{sl:Addr}{vl vu:Value}{lo hi:Option Int}{n:Nat}{Q:Int×Int×Nat->Shared->Prop}(hs:s.heap.IsSliceOf sl vl vu .none)(pl:IsPart vl lo)(pu:IsPart vu hi)
  (h:Q (((sIx n 0 lo:Nat):Int),1,sIx n n hi-sIx n 0 lo) s):wpAny (model prog w) A (Builtin.Slice.sliceApplied (.ref sl) (pure (n:Int))) Q E s:=by
 obtain ⟨os,hos,hcs,hds⟩:=id hs
 unfold Builtin.Slice.sliceApplied Builtin.Slice.sliceFields
 refine wpAny_bind (wpAny_bind (wpAny_field hos hds (x:=vl) rfl (wpAny_bind (wpAny_field hos hds (x:=vu) rfl (wpAny_bind (wpAny_field hos hds (x:=.none) rfl (wpAny_pure ?_)))))))
 refine wpAny_bind (slicePart_none ?_)
 show wpAny _ _ (if ((1:Int) == 0)=true then _ else _) _ _ s
 rw[if_neg (by decide)]
 refine wpAny_bind (ygs pl (wpAny_bind (ygs pu (wpAny_bind (wpAny_pure ?_)))))
 show wpAny _ _ (match Builtin.Slice.sliceAdjust lo hi 1 (n:Int) with|(lo,hi)=>pure (lo,(1:Int),Builtin.Slice.slicePlaces lo hi 1)) _ _ s
 rw[qkg lo hi n]
 show wpAny _ _ (pure (((sIx n 0 lo:Nat):Int),(1:Int),Builtin.Slice.slicePlaces ((sIx n 0 lo:Nat):Int) ((sIx n n hi:Nat):Int) 1)) _ _ s
 rw[ykd]
 exact wpAny_pure h
theorem pick_gen(xs:Array Value)(i k:Nat):((List.range k).filterMap λ(m:Nat)=>xs[((i:Int)+(m:Int)*1).toNat]?).toArray=((xs.toList.drop i).take k).toArray:=by
 have e:(λ(m:Nat)=>xs[((i:Int)+(m:Int)*1).toNat]?)=λm=>xs[i+m]?:=by
  funext m
  have:((i:Int)+(m:Int)*1).toNat=i+m:=by omega
  rw[this]
 rw[e]
 have:=pick_run xs i k
 rw[List.filterMap_map]at this
 have e2:((λx=>xs[x]?) ∘ λx=>i+x)=λm=>xs[i+m]?:=rfl
 rw[e2]at this
 rw[this]
theorem getItem_tuple_cut{t sl:Addr}{items:Array Value}{vl vu:Value}{lo hi:Option Int}{Q:Value->Shared->Prop}(ht:IsTup s.heap t items)(hs:s.heap.IsSliceOf sl vl vu .none)(pl:IsPart vl lo)(pu:IsPart vu hi)
  (hw:¬ (sIx items.size 0 lo=0/\sIx items.size items.size hi=items.size))
  (h:Q (.ref s.heap.objs.size) { s with heap:=s.heap.push { cls:=.type "tuple",data:=.seq ((items.toList.drop (sIx items.size 0 lo)).take (sIx items.size items.size hi-sIx items.size 0 lo)).toArray } })
  (hsz:items.size<=sizeLine):wpAny (model prog w) A (getItem (.ref t) (.ref sl)) Q E s:=by
 have htake:sizeOk (.seq ((items.toList.drop (sIx items.size 0 lo)).take (sIx items.size items.size hi-sIx items.size 0 lo)).toArray):=by
  show ((items.toList.drop (sIx items.size 0 lo)).take (sIx items.size items.size hi-sIx items.size 0 lo)).toArray.size<=sizeLine
  rw[size_toArray,length_take,List.length_drop,length_toList]
  omega
 have hj:sIx items.size items.size hi<=items.size:=sIx_le _ _ (le_refl _) hi
 obtain ⟨os,hos,hcs,hds⟩:=id hs
 have hTs:s.TypeIs (.ref sl) "slice":=⟨os,hos,hcs⟩
 unfold getItem
 try with_reducible refine wpAny_holding ?_
 first|refine wpAny_bind (wpAny_pure ?_)|skip
 refine wpAny_bind (wpAny_sequenceKey ht.typeIs (by decide) ?_)
 refine wpAny_bind (wpAny_callSpecial?_slot (name:=Str.ofString "__getitem__") ht.typeIs PyProof.Rows.slot_tuple_getitem
  (wpAny_call_entry PyProof.Rows.slot_tuple_getitem ht.typeIs entry_tuple_getitem ?_ (args_tuple_getitem _ _)))
 show wpAny _ _ (Builtin.Tuple.tupleItemsOf (.ref t) >>= _) _ _ s
 refine wpAny_bind (tupleItemsOf_ ht ?_)
 refine wpAny_bind (wpAny_typeOf hTs ?_)
 rw[if_pos (by decide)]
 refine wpAny_bind (yfe hs pl pu ?_)
 have hno:¬ ((((sIx items.size 0 lo:Nat):Int) == 0&&(1:Int) == 1&&(sIx items.size items.size hi-sIx items.size 0 lo) == items.size)=true):=by
  intro q
  rw[Bool.and_eq_true,Bool.and_eq_true]at q
  have q1:((sIx items.size 0 lo:Nat):Int)=0:=eq_of_beq q.1.1
  have q2:sIx items.size items.size hi-sIx items.size 0 lo=items.size:=eq_of_beq q.2
  exact hw ⟨by omega,by omega⟩
 show wpAny _ _ (if (((sIx items.size 0 lo:Nat):Int) == 0&&(1:Int) == 1&&(sIx items.size items.size hi-sIx items.size 0 lo) == items.size)=true then _ else _) _ _ s
 rw[if_neg hno,pick_gen]
 first
  |exact wpAny_bind (m:=Builtin.Tuple.tupleExact _) (wpAny_newObj_type (wpAny_pure ⟨_,rfl,wpAny_pure h⟩) htake)
  |exact wpAny_bind (m:=Builtin.Tuple.tupleExact _) (wpAny_newObj_type (wpAny_bind (wpAny_pure (wpAny_pure ⟨_,rfl,wpAny_pure h⟩))) htake)
  |exact wpAny_bind (wpAny_bind (m:=Builtin.Tuple.tupleExact _) (wpAny_newObj_type (wpAny_pure (wpAny_pure ⟨_,rfl,wpAny_pure h⟩)) htake))
  |exact wpAny_bind (wpAny_bind (m:=Builtin.Tuple.tupleExact _) (wpAny_newObj_type (wpAny_pure ⟨_,rfl,wpAny_pure h⟩) htake))
end
end HT
namespace L2
open PySem PySem.Spec PyProof.Rows
abbrev TO:=St->Hp->(Option Int->Hp->Prop)->Prop
def PO(X:Cx)(e:Option Expr)(t:TO):Prop:=
 ∀(pins:List (Addr×Obj)) (s:Shared) (σ:St) (H:Hp) (Q:Option Int->Hp->Prop),Inv X pins σ H s->t σ H Q->
  wpAny (model X.prog X.w) X.A (evalPart e X.env) (λu s'=>∃o H',Inv X pins σ H' s'/\IsPart u o/\Q o H') X.xe s
def tNoPart:TO:=λ_ H Q=>Q none H
def tPart(t:TE):TO:=λσ H Q=>t σ H λx H1=>∃i,x=.int i/\Q (some i) H1
theorem qcn{ns:List Int}:∀{us:List Value},Vals (ns.map V.int) us->IntsAre us ns:=by
 induction ns with
 |nil=>intro us r;rw[map_nil]at r;cases r;exact .nil
 |cons n ns ih=>
  intro us r
  rw[map_cons]at r
  cases r with
  |cons r1 r2=>
   obtain ⟨t,e⟩:=r1
   subst e
   exact .cons n t (ih r2)
section
variable {X:Cx}{e:Expr}{te:TE}{lo hi:Option Expr}{tl th:TO}{pos p2:Pos}
theorem yhn:PO X none tNoPart:=by
 intro pins s σ H Q I h
 rw[evalPart_none]
 exact wpAny_pure ⟨none,H,I,.none,h⟩
theorem qc6(h:PE X e te):PO X (some e) (tPart te):=by
 intro pins s σ H Q I hw
 rw[evalPart_some]
 refine thn (h pins s σ H _ I hw) λu s1 ⟨x,H1,I1,r1,q1⟩=>?_
 obtain ⟨i,rfl,q⟩:=q1
 obtain ⟨t,rfl⟩:=r1
 exact ⟨some i,H1,I1,.int i t,q⟩
def SlR(X:Cx)(r:V->Option Int->Option Int->Hp->VK->Prop):Prop:=
 ∀(pins:List (Addr×Obj)) (s:Shared) (σ:St) (H:Hp) (x:V) (v vl vu:Value) (lo hi:Option Int) (sl:Addr) (Q:VK),Inv X pins σ H s->RelV x v->s.heap.IsSliceOf sl vl vu .none->IsPart vl lo->IsPart vu hi->r x lo hi H Q->
  ∃T id,typeLookup (.type T) "__getitem__"=pure (some (.builtin id))/\s.TypeIs v T/\wpAny (model X.prog X.w) X.A (getItem v (.ref sl)) (EP X pins σ Q) X.xe s
def tSl(r:V->Option Int->Option Int->Hp->VK->Prop)(te:TE)(tl th:TO):TE:=λσ H Q=>te σ H λx H1=>tl σ H1 λl H2=>th σ H2 λu H3=>r x l u H3 Q
theorem qg5{r:V->Option Int->Option Int->Hp->VK->Prop}(hr:SlR X r)(he:PE X e te)(hl:PO X lo tl)(hu:PO X hi th):PE X (.Subscript e (.Slice lo hi none p2) pos) (tSl r te tl th):=by
 intro pins s σ H Q I h
 refine Subscript_ (thn (he pins s σ H _ I h) λv s1 ⟨x,H1,I1,r1,q1⟩=>?_)
 refine wpAny_Slice (thn (hl pins s1 σ H1 _ I1 q1) λvl s2 ⟨l,H2,I2,pl,q2⟩=>thn (hu pins s2 σ H2 _ I2 q2) λvu s3 ⟨u,H3,I3,pu,q3⟩=>?_)
 rw[evalPart_none]
 refine wpAny_pure ?_
 have I4:Inv X pins σ H3 { s3 with heap:=s3.heap.push { cls:=.type "slice",data:=.fields #[vl,vu,.none] } }:=I3.kept (t':=s3.toks) λb ob q=>get?_push_of_some _ q
 obtain ⟨T,id,hT,ht,hg⟩:=hr pins { s3 with heap:=s3.heap.push { cls:=.type "slice",data:=.fields #[vl,vu,.none] } } σ H3 x v vl vu l u s3.heap.objs.size Q I4 r1 (Heap.IsSliceOf.new ..) pl pu q3
 show wpAny (model X.prog X.w) X.A (subscriptTail e (.Slice lo hi none p2) v (.ref s3.heap.objs.size)) (EP X pins σ Q) X.xe { s3 with heap:=s3.heap.push { cls:=.type "slice",data:=.fields #[vl,vu,.none] } }
 exact tail_any (ops:=[.ref s3.heap.objs.size,v]) ht hT hg (by with_unfolding_all rfl)
def cutV(xs:List V)(lo hi:Option Int):List V:=(xs.drop (HT.sIx xs.length 0 lo)).take (HT.sIx xs.length xs.length hi-HT.sIx xs.length 0 lo)
theorem qfv(xs:List V)(lo hi:Option Int):(cutV xs lo hi).length<=xs.length:=by
 unfold cutV
 rw[length_take,List.length_drop]
 omega
def rSlT(K:W.Frag):V->Option Int->Option Int->Hp->VK->Prop:=λx lo hi H Q=>∃a xs,x=.ref a/\SqT K H a xs/\
 ¬ (HT.sIx xs.length 0 lo=0/\HT.sIx xs.length xs.length hi=xs.length)/\∀p,H p=none->Q (.ref p) (upd H p (.tup (cutV xs lo hi)))
theorem sl_tup:SlR X (rSlT X.K):=by
 intro pins s σ H x v vl vu lo hi sl Q I rx hs pl pu h
 obtain ⟨a,xs,rfl,hx,hw,q⟩:=h
 cases rx
 obtain ⟨its,r,ht,hz⟩:=I.tuple hx
 have hlen:its.toArray.size=xs.length:=by rw[size_toArray];exact r.length.symm
 refine ⟨"tuple",_,PyProof.Rows.slot_tuple_getitem.lookup,ht.typeIs,?_⟩
 refine HT.getItem_tuple_cut ht hs pl pu (by rw[hlen];exact hw) ?_ (by rw[hlen];exact hz)
 rw[hlen]
 refine ⟨.ref s.heap.objs.size,_,I.laid (t':=s.toks) (o:=.tup (cutV xs lo hi)) (λb ob q=>get?_push_of_some _ q) (le_refl _) ?_,rfl,q _ (I.hok.fresh (le_refl _))⟩
 exact ⟨le_trans (qfv xs lo hi) hz,_,(r.drop (HT.sIx xs.length 0 lo)).take (HT.sIx xs.length xs.length hi-HT.sIx xs.length 0 lo),IsTup.new _ _⟩
end
def ixN(n:Nat)(i:Int):Option Nat:=if 0<=i then (if i<n then some i.toNat else none) else if -(n:Int)<=i then some (i+n).toNat else none
def atI{α:Type}(xs:List α)(i:Int):Option α:=(ixN xs.length i).bind λj=>xs[j]?
theorem ylj{n:Nat}{i:Int}{j:Nat}(h:ixN n i=some j):seqIndex? i n=some j/\j<n/\-(n:Int)<=i/\i<n:=by
 unfold ixN at h
 by_cases h0:0<=i
 ·rw[if_pos h0]at h
  by_cases h1:i<n
  ·rw[if_pos h1]at h
   have e:i.toNat=j:=Option.some.inj h
   exact ⟨by rw[seqIndex_of h0 h1,e],by omega,by omega,h1⟩
  ·rw[if_neg h1]at h;cases h
 ·rw[if_neg h0]at h
  by_cases h1:-(n:Int)<=i
  ·rw[if_pos h1]at h
   have e:(i+n).toNat=j:=Option.some.inj h
   exact ⟨by rw[seqIndex_neg (by omega) h1,e],by omega,h1,by omega⟩
  ·rw[if_neg h1]at h;cases h
theorem qjg{α:Type}{xs:List α}{i:Int}{v:α}(h:atI xs i=some v):∃j,seqIndex? i xs.length=some j/\xs[j]?=some v/\j<xs.length/\-(xs.length:Int)<=i/\i<xs.length:=by
 unfold atI at h
 cases e:ixN xs.length i with
 |none=>rw[e]at h;cases h
 |some j=>
  rw[e]at h
  obtain ⟨h1,h2,h3,h4⟩:=ylj e
  exact ⟨j,h1,h,h2,h3,h4⟩
theorem qb2{α:Type}{xs:List α}{j:Nat}{v:α}(h:xs[j]?=some v):atI xs (j:Int)=some v:=by
 have hj:j<xs.length:=(List.getElem?_eq_some_iff.mp h).1
 have e:ixN xs.length (j:Int)=some j:=by
  unfold ixN
  rw[if_pos (by omega),if_pos (by omega)];simp
 unfold atI;rw[e];exact h
theorem atI_last{α:Type}(xs:List α)(v:α):atI (xs++[v]) (-1)=some v:=by
 have hl:(xs++[v]).length=xs.length+1:=by simp
 have e:ixN (xs++[v]).length (-1)=some xs.length:=by
  unfold ixN
  rw[hl,if_neg (by decide),if_pos (by omega)]
  congr 1
  omega
 unfold atI
 rw[e]
 show (xs++[v])[xs.length]?=some v
 simp
def ql2(b:Expr):Prop:=∀o i,subscripted b false o i=operate [o,i] (getItem o i)
def IxR(X:Cx)(r:R2):Prop:=
 ∀(value slice:Expr) (pins:List (Addr×Obj)) (s:Shared) (σ:St) (H:Hp) (x y:V) (v u:Value) (Q:VK),Inv X pins σ H s->RelV x v->RelV y u->r x y H Q->
  subscripted slice false v u=operate [v,u] (getItem v u)->wpAny (model X.prog X.w) X.A (subscriptTail value slice v u) (EP X pins σ Q) X.xe s
def MtR(X:Cx)(id:String)(r:V->List V->Hp->VK->Prop):Prop:=
 ∀(pins:List (Addr×Obj)) (s:Shared) (σ:St) (H:Hp) (x:V) (xs:List V) (v:Value) (us:List Value) (Q:VK),Inv X pins σ H s->RelV x v->Vals xs us->r x xs H Q->
  wpAny (model X.prog X.w) X.A (call (.builtin id) (v::us)) (EP X pins σ Q) X.xe s
section
variable {X:Cx}{a b:Expr}{ta tb:TE}{pos:Pos}
theorem IxR.or{r r':R2}(h:IxR X r)(h':IxR X r'):IxR X (λx y H Q=>r x y H Q\/r' x y H Q):=by
 intro value slice pins s σ H x y v u Q I rx ry q hs
 rcases q with q|q
 ·exact h value slice pins s σ H x y v u Q I rx ry q hs
 ·exact h' value slice pins s σ H x y v u Q I rx ry q hs
theorem qaq{r:R2}(hr:IxR X r)(ha:PE X a ta)(hb:PE X b tb)(hs:ql2 b:=by intro _ _;rfl):PE X (.Subscript a b pos) (tOp r ta tb):=by
 intro pins s σ H Q I h
 exact Subscript_ (binT ha hb I h λv u s2 x y H2 I2 rx ry q=>hr a b pins s2 σ H2 x y v u Q I2 rx ry q (hs _ _))
def rIxL(K:W.Frag):R2:=λx y H Q=>∃p xs i v,x=.ref p/\y=.int i/\SqL K H p xs/\atI xs i=some v/\Q v H
def rIxT(K:W.Frag):R2:=λx y H Q=>∃p xs i v,x=.ref p/\y=.int i/\SqT K H p xs/\atI xs i=some v/\Q v H
def rIxS:R2:=λx y H Q=>∃z i c,x=.str z/\y=.int i/\z.length<=sizeLine/\atI z.cps.toList i=some c/\Q (.str ⟨#[c]⟩) H
theorem yaj:IxR X (rIxL X.K):=by
 intro value slice pins s σ H x y v u Q I rx ry h hs
 obtain ⟨p,xs,i,z,rfl,rfl,hq,he,q⟩:=h
 cases rx
 obtain ⟨t,rfl⟩:=ry
 obtain ⟨its,r,pl,hz⟩:=I.list hq
 obtain ⟨j,h1,h2,h3,h4,h5⟩:=qjg he
 obtain ⟨w,ew,rw'⟩:=r.get h2
 have hl:=r.length
 have hn:=qia
 have fin:EP X pins σ Q w s:=⟨z,H,I,rw',q⟩
 by_cases h0:0<=i
 ·have hj:i.toNat=j:=by
   rw[seqIndex_of h0 h5]at h1
   exact Option.some.inj h1
  exact item_listR pl.isList h0 (by omega) (by rw[hj];simpa using ew) fin hs
 ·have hj:(i+(its.toArray.size:Int)).toNat=j:=by
   rw[seqIndex_neg (by omega) h4]at h1
   rw[size_toArray,<-hl]
   exact Option.some.inj h1
  exact subscriptTail_builtinR (x:=w) pl.isList.typeIs slot_list_getitem.lookup
   (wpAny_getItem_list_neg (Q:=λr s'=>r=w/\EP X pins σ Q r s') pl.isList (by omega) (by rw[size_toArray]<;>omega) (by omega) (by rw[hj];simpa using ew) ⟨rfl,fin⟩) hs
theorem yal:IxR X (rIxT X.K):=by
 intro value slice pins s σ H x y v u Q I rx ry h hs
 obtain ⟨p,xs,i,z,rfl,rfl,hq,he,q⟩:=h
 cases rx
 obtain ⟨t,rfl⟩:=ry
 obtain ⟨its,r,pl,hz⟩:=I.tuple hq
 obtain ⟨j,h1,h2,h3,h4,h5⟩:=qjg he
 obtain ⟨w,ew,rw'⟩:=r.get h2
 have hl:=r.length
 have hn:=qia
 have fin:EP X pins σ Q w s:=⟨z,H,I,rw',q⟩
 exact subscriptTail_builtinR (x:=w) pl.typeIs slot_tuple_getitem.lookup
  (getItem_tuple (j:=j) (Q:=λr s'=>r=w/\EP X pins σ Q r s') pl (by omega) (by omega) (by rw[size_toArray,<-hl];exact h1) (by simpa using ew) ⟨rfl,fin⟩) hs
theorem ix_str:IxR X rIxS:=by
 intro value slice pins s σ H x y v u Q I rx ry h hs
 obtain ⟨z,i,c,rfl,rfl,hz,he,q⟩:=h
 obtain ⟨t,rfl⟩:=rx
 obtain ⟨t',rfl⟩:=ry
 obtain ⟨j,h1,h2,h3,h4,h5⟩:=qjg he
 have hl:z.cps.toList.length=z.length:=by simp[Str.length]
 rw[hl]at h1 h4 h5
 have hn:=qia
 exact tail_any (typeIs_str s z t) slot_str_getitem.lookup (getItem_str (c:=c) (by
  have e1:decide (i < -(2 ^ 63:Int))=false:=decide_eq_false (by omega)
  have e2:decide (i≥2 ^ 63)=false:=decide_eq_false (by omega)
  rw[e1,e2,Bool.or_false]) (by rw[h1];simpa using h2) ⟨.str ⟨#[c]⟩,H,I.tok _,⟨_,rfl⟩,q⟩) hs
def rIx(K:W.Frag):R2:=λx y H Q=>rIxL K x y H Q\/rIxT K x y H Q\/rIxS x y H Q
theorem ix_seq:IxR X (rIx X.K):=yaj.or (yal.or ix_str)
theorem qj5(its:List Value)(n j:Nat)(u:Value):Obj.mapSeq (·.setIfInBounds j u) { cls:=.type "list",data:=.seq its.toArray n }={ cls:=.type "list",data:=.seq (its.set j u).toArray n }:=by
 simp[Obj.mapSeq]
theorem Inv.lst{pins:List (Addr×Obj)}{σ:St}{H:Hp}{s:Shared}{p:Addr}{xs:List V}(I:Inv X pins σ H s)(h:H p=some (.lst xs)) :
  ∃(its:List Value) (n:Nat),Vals xs its/\s.heap.get? p=some { cls:=.type "list",data:=.seq its.toArray n }/\xs.length<=sizeLine:=by
 obtain ⟨z,its,n,r,e⟩:=I.hok p _ h
 exact ⟨its,n,r,e,z⟩
theorem Inv.lstUpd{pins:List (Addr×Obj)}{σ:St}{H:Hp}{s:Shared}{p:Addr}{xs ys:List V}{its its':List Value}{n n':Nat}{f:Obj->Obj}(I:Inv X pins σ H s)(h:H p=some (.lst xs))
  (ho:s.heap.get? p=some { cls:=.type "list",data:=.seq its.toArray n }) (hf:f { cls:=.type "list",data:=.seq its.toArray n }={ cls:=.type "list",data:=.seq its'.toArray n' }) (r:Vals ys its') (hz:ys.length<=sizeLine) (t:Nat) :
  Inv X pins σ (upd H p (.lst ys)) { s with heap:=s.heap.update p f,toks:=t }:=by
 have e:(s.heap.update p f).get? p=some { cls:=.type "list",data:=.seq its'.toArray n' }:=by
  rw[get?_update_self f ho (by rw[hf]<;>rfl),hf]
 refine I.write (x:=p) (e:=p) (by rw[h];trivial) (.inl rfl) (λb u hb q=>(get?_update_other _ _ (Ne.symm hb)).trans q) ⟨_,e⟩ ?_
 exact ⟨hz,its',n',r,e⟩
def rSetL:V->V->V->Hp->(Hp->Prop)->Prop:=λo i v H Q=>∃p xs k j,o=.ref p/\i=.int k/\H p=some (.lst xs)/\ixN xs.length k=some j/\Q (upd H p (.lst (xs.set j v)))
theorem qhq:PSet X rSetL:=by
 intro pins s σ H o i v ov iv u Q I ro ri rv h
 obtain ⟨p,xs,k,j,rfl,rfl,hp,hj,q⟩:=h
 cases ro
 obtain ⟨t,rfl⟩:=ri
 obtain ⟨its,n,r,ho,hz⟩:=I.lst hp
 obtain ⟨h1,h2,h3,h4⟩:=ylj hj
 have hl:=r.length
 have hn:=qia
 have I':Inv X pins σ (upd H p (.lst (xs.set j v))) { s with heap:=s.heap.update p (Obj.mapSeq (·.setIfInBounds j u)) }:=
  I.lstUpd hp ho (qj5 its n j u) (r.set rv j) (by rw[length_set];exact hz) s.toks
 by_cases h0:0<=k
 ·have hk:k.toNat=j:=by
   rw[seqIndex_of h0 h4]at h1
   exact Option.some.inj h1
  exact W.ki_setAt ho h0 (by omega) (by rw[size_toArray,<-hl];exact h4) (by rw[hk];exact ⟨_,I',q⟩)
 ·have hk:(k+(its.toArray.size:Int)).toNat=j:=by
   rw[seqIndex_neg (by omega) h3]at h1
   rw[size_toArray,<-hl]
   exact Option.some.inj h1
  exact W.ki_setBack ho (by omega) (by rw[size_toArray,<-hl];exact h3) (by omega) (by rw[hk];exact ⟨_,I',q⟩)
theorem qhy(lo hi:Option Int)(n:Nat):(sliceBounds lo hi none n).1=((HT.sIx n 0 lo:Nat):Int)/\(sliceBounds lo hi none n).2.1=((HT.sIx n n hi:Nat):Int)/\(sliceBounds lo hi none n).2.2=1:=by
 refine ⟨?_,?_,rfl⟩
 ·cases lo with
  |none=>simp[sliceBounds,HT.sIx]
  |some i=>
   simp only[sliceBounds,HT.sIx,Option.getD_none,show (1:Int)>0 by decide,if_true]
   by_cases h:i<0
   ·simp only[h,if_true]<;>omega
   ·simp only[h,if_false]<;>omega
 ·cases hi with
  |none=>simp[sliceBounds,HT.sIx]
  |some i=>
   simp only[sliceBounds,HT.sIx,Option.getD_none,show (1:Int)>0 by decide,if_true]
   by_cases h:i<0
   ·simp only[h,if_true]<;>omega
   ·simp only[h,if_false]<;>omega
theorem yhf(its:List Value)(lo hi:Option Int):slicePick its.toArray lo hi none=((its.drop (HT.sIx its.length 0 lo)).take (HT.sIx its.length its.length hi-HT.sIx its.length 0 lo)).toArray:=by
 obtain ⟨h1,h2,h3⟩:=qhy lo hi its.toArray.size
 unfold slicePick
 rw[h1,h2,h3]
 simp only[sliceRange_one,pick_run,size_toArray]<;>rfl
def rSlL(K:W.Frag):V->Option Int->Option Int->Hp->VK->Prop:=λx lo hi H Q=>∃a xs,x=.ref a/\SqL K H a xs/\∀p,H p=none->Q (.ref p) (upd H p (.lst (cutV xs lo hi)))
theorem yhl:SlR X (rSlL X.K):=by
 intro pins s σ H x v vl vu lo hi sl Q I rx hs pl pu h
 obtain ⟨a,xs,rfl,hx,q⟩:=h
 cases rx
 obtain ⟨its,r,ht,hz⟩:=I.list hx
 have hlen:=r.length
 refine ⟨"list",_,slot_list_getitem.lookup,ht.isList.typeIs,?_⟩
 refine wpAny_getItem_list_slice ht.isList hs pl pu .none (by simp) ?_ (by rw[size_toArray]<;>omega)
 rw[yhf,<-hlen]
 refine ⟨.ref s.heap.objs.size,_,I.laid (t':=s.toks) (o:=.lst (cutV xs lo hi)) (λb ob q=>get?_push_of_some _ q) (le_refl _) ?_,rfl,q _ (I.hok.fresh (le_refl _))⟩
 exact ⟨le_trans (qfv xs lo hi) hz,_,0,(r.drop (HT.sIx xs.length 0 lo)).take (HT.sIx xs.length xs.length hi-HT.sIx xs.length 0 lo),get?_push_size _ rfl⟩
def qct:V->Bool
 |.non=>true
 |.bl _=>true
 |.int _=>true
 |.str _=>true
 |_=>false
def eqV:V->V->Bool
 |.non,.non=>true
 |.bl a,.bl b=>a == b
 |.bl a,.int b=>(if a then 1 else 0) == b
 |.int a,.bl b=>a == (if b then 1 else 0)
 |.int a,.int b=>a == b
 |.str a,.str b=>a == b
 |_,_=>false
theorem eqAt_V{A:Around}{s:Shared}{y x:V}{u v:Value}(ry:RelV y u)(rx:RelV x v)(fy:qct y=true)(fx:qct x=true):SeqAt.EqAt A s u v (eqV y x):=by
 cases y with
 |non=>
  cases ry
  cases x with
  |non=>cases rx;exact SeqAt.EqAt.same _
  |bl b=>cases rx;exact SeqAt.EqAt.none_bool b
  |int b=>obtain ⟨t,rfl⟩:=rx;exact SeqAt.EqAt.none_int b t
  |str b=>obtain ⟨t,rfl⟩:=rx;exact SeqAt.EqAt.none_str b t
  |_=>exact absurd (show false=true from fx) Bool.false_ne_true
 |bl a=>
  cases ry
  cases x with
  |non=>cases rx;exact SeqAt.EqAt.bool_none a
  |bl b=>cases rx;exact SeqAt.EqAt.bool_bool a b
  |int b=>obtain ⟨t,rfl⟩:=rx;exact SeqAt.EqAt.bool_int a b t
  |str b=>obtain ⟨t,rfl⟩:=rx;exact SeqAt.EqAt.bool_str a b t
  |_=>exact absurd (show false=true from fx) Bool.false_ne_true
 |int a=>
  obtain ⟨t',rfl⟩:=ry
  cases x with
  |non=>cases rx;exact SeqAt.EqAt.int_none a t'
  |bl b=>cases rx;exact SeqAt.EqAt.int_bool a t' b
  |int b=>obtain ⟨t,rfl⟩:=rx;exact SeqAt.EqAt.int_int a t' b t
  |str b=>obtain ⟨t,rfl⟩:=rx;exact SeqAt.EqAt.int_str a t' b t
  |_=>exact absurd (show false=true from fx) Bool.false_ne_true
 |str a=>
  obtain ⟨t',rfl⟩:=ry
  cases x with
  |non=>cases rx;exact SeqAt.EqAt.str_none a t'
  |bl b=>cases rx;exact SeqAt.EqAt.str_bool a t' b
  |int b=>obtain ⟨t,rfl⟩:=rx;exact SeqAt.EqAt.str_int a t' b t
  |str b=>obtain ⟨t,rfl⟩:=rx;exact SeqAt.EqAt.str_str a t' b t
  |_=>exact absurd (show false=true from fx) Bool.false_ne_true
 |_=>exact absurd (show false=true from fy) Bool.false_ne_true
def eqU(x:V)(u:Value):Bool:=match u with
 |.none=>eqV .non x
 |.bool b=>eqV (.bl b) x
 |.int i _=>eqV (.int i) x
 |.str z _=>eqV (.str z) x
 |_=>false
theorem eqU_of{x y:V}{u:Value}(r:RelV y u)(f:qct y=true):eqU x u=eqV y x:=by
 cases y with
 |non=>cases r;rfl
 |bl b=>cases r;rfl
 |int i=>obtain ⟨t,rfl⟩:=r;rfl
 |str z=>obtain ⟨t,rfl⟩:=r;rfl
 |_=>exact absurd (show false=true from f) Bool.false_ne_true
theorem yf0{x:V}:∀{xs:List V}{us:List Value},Vals xs us->xs.all qct=true->us.any (eqU x)=xs.any λy=>eqV y x
 |_,_,.nil,_=>rfl
 |y::xs,u::us,.cons r t,f=>by
  rw[all_cons,Bool.and_eq_true]at f
  rw[any_cons,any_cons,eqU_of r f.1,yf0 t f.2]
theorem qd6{A:Around}{s:Shared}{x:V}{v:Value}(rx:RelV x v)(fx:qct x=true):∀{xs:List V}{us:List Value},Vals xs us->xs.all qct=true->∀u∈us,SeqAt.EqAt A s u v (eqU x u)
 |_,_,.nil,_=>λu hu=>by cases hu
 |y::xs,u::us,.cons r t,f=>λu' hu=>by
  rw[all_cons,Bool.and_eq_true]at f
  rcases mem_cons.mp hu with rfl|hu
  ·rw[eqU_of r f.1];exact eqAt_V r rx f.1 fx
  ·exact qd6 rx fx t f.2 u' hu
def inV(x:V)(xs:List V):Bool:=xs.any λy=>eqV y x
def rIn(K:W.Frag)(neg:Bool):R2:=λx y H Q=>∃p xs,y=.ref p/\(SqL K H p xs\/SqT K H p xs)/\qct x=true/\xs.all qct=true/\Q (.bl (if neg then !inV x xs else inV x xs)) H
theorem qbd:OpR X (compareOp .In) (rIn X.K false):=by
 intro pins s σ H x y v u Q I rx ry h
 obtain ⟨p,xs,rfl,hq,fx,fs,q⟩:=h
 cases ry
 rcases hq with hq|hq
 ·obtain ⟨its,r,pl,hz⟩:=I.list hq
  refine SeqAt.in_listAt (eqU x) pl.isList (λw hw=>qd6 rx fx r fs w (by simpa using hw)) ⟨.bl _,H,I,rfl,?_⟩
  rw[show its.toArray.any (eqU x)=its.any (eqU x) by simp,yf0 r fs]
  exact q
 ·obtain ⟨its,r,pl,hz⟩:=I.tuple hq
  refine SeqAt.in_tupleAt (eqU x) pl (λw hw=>qd6 rx fx r fs w (by simpa using hw)) ⟨.bl _,H,I,rfl,?_⟩
  rw[show its.toArray.any (eqU x)=its.any (eqU x) by simp,yf0 r fs]
  exact q
theorem qe8:OpR X (compareOp .NotIn) (rIn X.K true):=by
 intro pins s σ H x y v u Q I rx ry h
 obtain ⟨p,xs,rfl,hq,fx,fs,q⟩:=h
 cases ry
 rcases hq with hq|hq
 ·obtain ⟨its,r,pl,hz⟩:=I.list hq
  refine SeqAt.notIn_listAt (eqU x) pl.isList (λw hw=>qd6 rx fx r fs w (by simpa using hw)) ⟨.bl _,H,I,rfl,?_⟩
  rw[show its.toArray.any (eqU x)=its.any (eqU x) by simp,yf0 r fs]
  exact q
 ·obtain ⟨its,r,pl,hz⟩:=I.tuple hq
  refine SeqAt.notIn_tupleAt (eqU x) pl (λw hw=>qd6 rx fx r fs w (by simpa using hw)) ⟨.bl _,H,I,rfl,?_⟩
  rw[show its.toArray.any (eqU x)=its.any (eqU x) by simp,yf0 r fs]
  exact q
theorem qah:yb6 X (.builtin "len") (λxs H Q=>∃p ys,xs=[.ref p]/\(SqL X.K H p ys\/SqT X.K H p ys)/\Q (.int ys.length) H):=by
 intro pins s σ H xs us Q I r h
 obtain ⟨p,ys,rfl,hq,q⟩:=h
 obtain ⟨u,rfl,rx⟩:=vals1 r
 cases rx
 have hn:=qia
 rcases hq with hq|hq
 ·obtain ⟨its,r',pl,hz⟩:=I.list hq
  have hlen:=r'.length
  exact Calls.call_len_list pl.isList (by simp only[size_toArray]<;>omega) ⟨.int ys.length,H,I.tok _,⟨s.toks+1,by rw[size_toArray,hlen]⟩,q⟩
 ·obtain ⟨its,r',pl,hz⟩:=I.tuple hq
  have hlen:=r'.length
  exact len_tuple pl (by simp only[size_toArray]<;>omega) ⟨.int ys.length,H,I.tok _,⟨s.toks+1,by rw[size_toArray,hlen]⟩,q⟩
theorem qb9:yb6 X (.type "list") (λxs H Q=>∃p ys,xs=[.ref p]/\(SqL X.K H p ys\/SqT X.K H p ys)/\∀l,H l=none->Q (.ref l) (upd H l (.lst ys))):=by
 intro pins s σ H xs us Q I r h
 obtain ⟨p,ys,rfl,hq,q⟩:=h
 obtain ⟨u,rfl,rx⟩:=vals1 r
 cases rx
 have fin:∀(its:List Value),Vals ys its->ys.length<=sizeLine->∀(h':Heap) (c':Nat),(∀b o',s.heap.get? b=some o'->h'.get? b=some o')->
   h'.get? s.heap.objs.size=some { cls:=.type "list",dict:=none,data:=.seq its.toArray c',slots:=#[] }->EP X pins σ Q (.ref s.heap.objs.size) { s with heap:=h' }:=λits r' hz h' c' kp e=>
  ⟨.ref s.heap.objs.size,_,I.laid (t':=s.toks) kp (le_refl _) (show ya7 X.prog X.w _ h' _ (.lst ys) from ⟨hz,its,c',r',e⟩),rfl,q _ (I.hok.fresh (le_refl _))⟩
 rcases hq with hq|hq
 ·obtain ⟨its,r',pl,hz⟩:=I.list hq
  have hlen:=r'.length
  obtain ⟨o,ho,hc,n,hd⟩:=pl.isList
  exact call_list_seq p (.inl rfl) ho hc hd (λh' c' kp e=>fin its r' hz h' c' kp e) (by simp only[size_toArray]<;>omega)
 ·obtain ⟨its,r',pl,hz⟩:=I.tuple hq
  have hlen:=r'.length
  obtain ⟨o,ho,hc,n,hd⟩:=pl
  exact call_list_seq p (.inr rfl) ho hc hd (λh' c' kp e=>fin its r' hz h' c' kp e) (by simp only[size_toArray]<;>omega)
def tyV(K:W.Frag)(T:String)(x:V)(H:Hp):Prop:=match x with
 |.str _=>T="str"
 |.int _=>T="int"
 |.ref p=>(T="list"/\∃xs,SqL K H p xs)\/(T="tuple"/\∃o,K.lookup p=some o/\o.cls=.type "tuple"/\o.dict=none)\/
   (T="dict"/\((∃kvs,H p=some (.dK kvs))\/∃kvs,H p=some (.dT kvs)))\/(T="set"/\∃S n,H p=some (.set S n))
 |_=>False
theorem tyV_is{pins:List (Addr×Obj)}{σ:St}{H:Hp}{s:Shared}{T:String}{x:V}{v:Value}(I:Inv X pins σ H s)(r:RelV x v)(ty:tyV X.K T x H) :
  s.TypeIs v T/\∀a,v=.ref a->∃ob,s.heap.get? a=some ob/\ob.dict=none:=by
 cases x with
 |str z=>
  obtain ⟨t,rfl⟩:=r
  cases (show T="str" from ty)
  exact ⟨typeIs_str s z t,λ_ e=>nomatch e⟩
 |int i=>
  obtain ⟨t,rfl⟩:=r
  cases (show T="int" from ty)
  exact ⟨typeIs_int s i t,λ_ e=>nomatch e⟩
 |ref p=>
  cases r
  rcases ty with ⟨rfl,xs,hq⟩|⟨rfl,o,hk,hc,hd⟩|⟨rfl,hk⟩|⟨rfl,S,n,hk⟩
  ·obtain ⟨its,_,pl,_⟩:=I.list hq
   refine ⟨pl.isList.typeIs,λa e=>?_⟩
   cases e
   obtain ⟨o,n,e,c,hd,_⟩:=pl
   exact ⟨o,e,hd⟩
  ·refine ⟨⟨o,I.kIn p o hk,hc⟩,λa e=>?_⟩
   cases e
   exact ⟨o,I.kIn _ o hk,hd⟩
  ·have z:∃o,s.heap.get? p=some o/\o.ExactDict:=by
    rcases hk with ⟨kvs,hk⟩|⟨kvs,hk⟩
    ·obtain ⟨_,_,_,_,o,_,_,e,ex,_⟩:=I.hok p _ hk
     exact ⟨o,e,ex⟩
    ·obtain ⟨_,_,_,_,o,_,_,e,ex,_⟩:=I.hok p _ hk
     exact ⟨o,e,ex⟩
   obtain ⟨o,e,ex⟩:=z
   refine ⟨⟨o,e,ex.1⟩,λa e2=>?_⟩
   cases e2
   exact ⟨o,e,ex.2.1⟩
  ·obtain ⟨o,_,_,_,e,ex,_⟩:=I.hok p _ hk
   refine ⟨⟨o,e,ex.1⟩,λa e2=>?_⟩
   cases e2
   exact ⟨o,e,ex.2.1⟩
 |_=>exact False.elim ty
def tBM(K:W.Frag)(T:String)(r:V->List V->Hp->VK->Prop)(to:TE)(t:TA):TE:=λσ H Q=>to σ H λx H1=>tyV K T x H1/\t σ H1 λxs H2=>r x xs H2 Q
variable {o e:Expr}{es:List Expr}{to:TE}{t:TA}{name:Str}{apos cpos:Pos}{T id:String}{r:V->List V->Hp->VK->Prop}
theorem yga(pa:PlainAttrs T)(slot:Slot T name id)(hty:typeOf (.builtin id)=pure (.type "method_descriptor"))(hm:MtR X id r)(ho:PE X o to)(ha:PA X (e::es) t)
  (hbase:attributeBase o name X.env (eval o X.env)=eval o X.env:=by rfl)
  (hfew:((backTo cpos (starEach (e::es) X.env)).all (λx=>!x.1)&&(backToKw cpos (keywordEach [] X.env)).all (λx=>x.1.isSome)
   && decide ((e::es).length+([]:List Keyword).length+(if ([]:List Keyword).isEmpty then 0 else 1)<30))=true:=by rfl)
  (hline:(apos.endLine == cpos.line)=true:=by rfl) (hs:starEach (e::es) X.env=(false,eval e X.env)::starEach es X.env:=by rfl) (hplain:(backTo cpos (starEach es X.env)).any (·.1)=false:=by rfl) :
  PE X (.Call (.Attribute o name apos) (e::es) [] cpos) (tBM X.K T r to t):=by
 intro pins s σ H Q I h
 refine wpAny_Call_method_late hbase hfew hline rfl (thn (ho pins s σ H _ I h) λv s1 ⟨x,H1,I1,r1,ty,q1⟩=>?_)
 obtain ⟨h1,h2⟩:=tyV_is I1 r1 ty
 refine ⟨T,id,pa,slot,hty,h1,h2,?_⟩
 have hA:=ha cpos pins s1 σ H1 _ I1 q1
 rw[hs]at hA ⊢
 refine Calls.callWith_builtin (by show (false||(backTo cpos (starEach es X.env)).any (·.1))=false;rw[hplain]<;>rfl) (Calls.evalArgs_plain ?_)
 exact thn hA λus s2 ⟨vs,H2,I2,r2,q2⟩=>hm pins s2 σ H2 x vs v us Q I2 r1 r2 q2
end
def MtM(X:Cx)(id:String)(r:V->List V->Hp->VK->Prop):Prop:=
 ∀(pins:List (Addr×Obj)) (s:Shared) (σ:St) (H:Hp) (x:V) (xs:List V) (v:Value) (us:List Value) (Q:VK),Inv X pins σ H s->RelV x v->Vals xs us->r x xs H Q->
  wpAny (model X.prog X.w) X.A (call (.builtin id) (v::us)) (EP X pins σ Q) X.xe s
theorem Vals.one:∀{x:V}{us:List Value},Vals [x] us->∃u,us=[u]/\RelV x u
 |_,_,.cons r .nil=>⟨_,rfl,r⟩
theorem Vals.rep{xs:List V}{us:List Value}(h:Vals xs us):∀k:Nat,Vals (List.replicate k xs).flatten (List.replicate k us).flatten
 |0=>.nil
 |k+1=>by
  rw[replicate_succ,replicate_succ,flatten_cons,flatten_cons]
  exact Vals.append h (Vals.rep h k)
theorem yip(its:List Value):∀(k:Nat) (acc:List Value),
  List.foldl (λx1 x2=>x1++x2) acc.toArray (List.replicate k its.toArray)=(acc++(List.replicate k its).flatten).toArray
 |0,acc=>by simp
 |k+1,acc=>by
  have e:acc.toArray++its.toArray=(acc++its).toArray:=by simp
  have e2:(acc++its)++(List.replicate k its).flatten=acc++(List.replicate (k+1) its).flatten:=by
   rw[replicate_succ,flatten_cons,List.append_assoc]
  rw[<-e2,<-yip its k (acc++its),<-e,replicate_succ,foldl_cons]
section
variable {X:Cx}{pins:List (Addr×Obj)}{σ:St}{H:Hp}{s:Shared}{l b:Addr}{xs ys zs:List V}
theorem Inv.lset{its its':List Value}{n:Nat}{f:Array Value->Array Value}{t':Nat}(I:Inv X pins σ H s)(hH:H l=some (.lst xs))
  (e:s.heap.get? l=some { cls:=.type "list",data:=.seq its.toArray n }) (hf:f its.toArray=its'.toArray) (hv:Vals ys its') (hz:ys.length<=sizeLine) :
  Inv X pins σ (upd H l (.lst ys)) { s with heap:=s.heap.update l (Obj.mapSeq f),toks:=t' }:=by
 have q:=PySem.IsL.update e f
 rw[hf]at q
 refine I.write (x:=l) (e:=l) (by rw[hH];exact trivial) (.inl rfl) (λb' u hb hu=>(get?_update_other s.heap (Obj.mapSeq f) (Ne.symm hb)).trans hu) ⟨_,q⟩ ?_
 exact ⟨hz,its',_,hv,q⟩
theorem Inv.lnew{its:List Value}{t':Nat}(I:Inv X pins σ H s)(hv:Vals ys its)(hz:ys.length<=sizeLine) :
  Inv X pins σ (upd H s.heap.objs.size (.lst ys)) { s with heap:=s.heap.push { cls:=.type "list",data:=.seq its.toArray },toks:=t' }:=
 I.laid (λ_ _ q=>get?_push_of_some _ q) (le_refl _) ⟨hz,its,0,hv,get?_push_size _ rfl⟩
theorem Inv.fresh(I:Inv X pins σ H s):H s.heap.objs.size=none:=I.hok.fresh (le_refl _)
theorem Inv.lstM(I:Inv X pins σ H s)(hH:H l=some (.lst xs)):xs.length<=sizeLine/\∃(its:List Value) (n:Nat),Vals xs its/\xs.length=its.length/\s.heap.get? l=some { cls:=.type "list",data:=.seq its.toArray n }:=by
 obtain ⟨z,its,n,r,e⟩:=I.hok l _ hH
 exact ⟨z,its,n,r,r.length,e⟩
theorem yjk{n:Nat}(h:n<=sizeLine):Builtin.List.listTooLong n=false:=by
 unfold Builtin.List.listTooLong
 exact decide_eq_false (by omega)
end
section
variable {X:Cx}
def rAppend:V->List V->Hp->VK->Prop:=λx vs H Q=>∃l xs y,x=.ref l/\vs=[y]/\H l=some (.lst xs)/\xs.length<sizeLine/\Q .non (upd H l (.lst (xs++[y])))
theorem ya1:MtM X "list.append" rAppend:=by
 intro pins s σ H x vs v us Q I rx rv h
 obtain ⟨l,xs,y,rfl,rfl,hH,hz,q⟩:=h
 cases rx
 obtain ⟨u,rfl,ru⟩:=rv.one
 obtain ⟨z,its,n,r,hl,e⟩:=I.lstM hH
 refine call_meets F.slot_list_append ⟨_,e,rfl⟩ F.entry_list_append (F.args_list_append_2 _ _) (PySem.list_append l its.toArray n u (by rw[size_toArray];omega)) ⟨e,?_⟩
 refine ⟨.non,_,I.lset (its':=its++[u]) hH e (by simp) (r.append (.cons ru .nil)) ?_,rfl,q⟩
 rw[length_append,List.length_singleton]
 omega
def rExtend:V->List V->Hp->VK->Prop:=λx vs H Q=>∃l b xs zs,x=.ref l/\vs=[.ref b]/\H l=some (.lst xs)/\H b=some (.lst zs)/\xs.length+zs.length<=sizeLine/\Q .non (upd H l (.lst (xs++zs)))
theorem yin:MtM X "list.extend" rExtend:=by
 intro pins s σ H x vs v us Q I rx rv h
 obtain ⟨l,b,xs,zs,rfl,rfl,hH,hB,hz,q⟩:=h
 cases rx
 obtain ⟨u,rfl,ru⟩:=rv.one
 cases ru
 obtain ⟨z,its,n,r,hl,e⟩:=I.lstM hH
 obtain ⟨z2,its2,n2,r2,hl2,e2⟩:=I.lstM hB
 have hsz:its.toArray.size+its2.toArray.size<=sizeLine:=by rw[size_toArray,size_toArray];omega
 have hlong:¬ (!its.toArray.isEmpty&&Builtin.List.listTooLong (its.toArray.size+its2.toArray.size))=true:=by
  rw[yjk hsz,Bool.and_false]
  exact Bool.false_ne_true
 refine call_meets F.slot_list_extend ⟨_,e,rfl⟩ F.entry_list_extend (F.args_list_extend_2 _ _)
  (AutoSeq1.list_extend_list_list_0 l its.toArray n b its2.toArray n2 hlong (by rw[size_toArray];omega) (by omega)) ⟨e,e2,?_⟩
 refine ⟨.non,_,I.lset (its':=its++its2) hH e (by simp) (r.append r2) ?_,rfl,q⟩
 rw[length_append]
 omega
def rCat:R2:=λx y H Q=>∃l b xs zs,x=.ref l/\y=.ref b/\H l=some (.lst xs)/\H b=some (.lst zs)/\xs.length+zs.length<=sizeLine/\∀p,H p=none->Q (.ref p) (upd H p (.lst (xs++zs)))
theorem ygr:OpR X (binaryOp .Add) rCat:=by
 intro pins s σ H x y v u Q I rx ry h
 obtain ⟨l,b,xs,zs,rfl,rfl,hH,hB,hz,q⟩:=h
 cases rx
 cases ry
 obtain ⟨z,its,n,r,hl,e⟩:=I.lstM hH
 obtain ⟨z2,its2,n2,r2,hl2,e2⟩:=I.lstM hB
 refine PySem.P.add_list e e2 ?_ (by rw[size_toArray,size_toArray];omega)
 have ea:its.toArray++its2.toArray=(its++its2).toArray:=by simp
 rw[ea]
 exact ⟨.ref _,_,I.lnew (t':=s.toks) (r.append r2) (by rw[length_append];omega),rfl,q _ I.fresh⟩
def rRep:R2:=λx y H Q=>∃l k xs,x=.ref l/\y=.int k/\H l=some (.lst xs)/\-(2 ^ 63)<=k/\k<2 ^ 63/\xs.length*k.toNat<=sizeLine/\
 ∀p,H p=none->Q (.ref p) (upd H p (.lst (List.replicate k.toNat xs).flatten))
theorem len_rep{α:Type}(xs:List α)(k:Nat):(List.replicate k xs).flatten.length=k*xs.length:=by
 induction k with
 |zero=>simp
 |succ k ih=>rw[replicate_succ,flatten_cons,length_append,ih,Nat.succ_mul,Nat.add_comm]
theorem qjx:OpR X (binaryOp .Mult) rRep:=by
 intro pins s σ H x y v u Q I rx ry h
 obtain ⟨l,k,xs,rfl,rfl,hH,h1,h2,hz,q⟩:=h
 cases rx
 obtain ⟨t,rfl⟩:=ry
 obtain ⟨z,its,n,r,hl,e⟩:=I.lstM hH
 have hlen:its.toArray.size*k.toNat<=sizeLine:=by rw[size_toArray,<-hl];exact hz
 have hcap:¬ its.toArray.size*k.toNat>(2 ^ 63-1) / 8:=by
  have:(sizeLine:Nat)<=(2 ^ 63-1) / 8:=by decide
  omega
 have hfit:¬ (!Builtin.List.listFitsIndex k)=true:=by
  rw[fitsIndex_both h1 h2]
  exact Bool.false_ne_true
 have hlong:¬ Builtin.List.listTooLong (its.toArray.size*k.toNat)=true:=by
  rw[yjk hlen]
  exact Bool.false_ne_true
 have hnew:List.foldl (λx1 x2=>x1++x2) #[] (List.replicate (if its.toArray.isEmpty=true then 0 else k.toNat) its.toArray)=(List.replicate k.toNat its).flatten.toArray:=by
  have f0:∀m:Nat,List.foldl (λx1 x2=>x1++x2) #[] (List.replicate m its.toArray)=(List.replicate m its).flatten.toArray:=λm=>by
   have:=yip its m []
   rw[List.nil_append]at this
   exact this
  rw[f0]
  cases its with
  |nil=>simp
  |cons a r'=>rw[if_neg (by simp)]
 refine wpAny_binaryOp_repeat_ref (T:="list") (U:="int") (by decide) ⟨_,e,rfl⟩ (λs'=>typeIs_int s' k t) noFill_list_mul F.fills_int_mul F.slot_int_rmul repeat_list F.slot_int_index.lookup
  (call_meets F.slot_int_rmul (typeIs_int s k t) F.entry_int_rmul (F.args_int_rmul_2 _ _) (int___rmul___int_list k t l its.toArray n)
   ⟨e,rfl,⟨_,e,rfl⟩,call_meets F.slot_list_mul ⟨_,e,rfl⟩ F.entry_list_mul (F.args_list_mul_2 _ _) (AutoListH.list___mul___list_int_3 l its.toArray n k t hfit hcap hlong) ⟨e,?_⟩⟩)
 rw[hnew]
 exact ⟨.ref _,_,I.lnew (t':=s.toks) (r.rep k.toNat) (by rw[len_rep,Nat.mul_comm];exact hz),rfl,q _ I.fresh⟩
end
end L2
namespace Att
open PySem PySem.W PySem.Calls PyProof.Rows
theorem qfj{P:Params}{h:Heap}:∀(ns:List Int) (vs:List Value),WellAll P h vs (ns.map WData.int)->IntsAre vs ns:=by
 intro ns
 induction ns with
 |nil=>
  intro vs w
  rw[map_nil]at w
  cases w
  exact .nil
 |cons n ns ih=>
  intro vs w
  rw[map_cons]at w
  cases w with
  |cons a b=>
   cases a
   exact .cons _ _ (ih _ b)
theorem qk0{l:OpenLaw}{n:Nat}(hn:l.most=some n){P:Params}{h:Heap}{args:List WData}{vals:List Value}
  (hpre:l.row.toRowW.claim.pre args=true) (hwl:WellAll P h vals args) :
  ∃a vs ns,vals=[Value.ref a]/\args=[WData.list (ns.map WData.int)]/\h.get? a=some { cls:=.type "list",data:=.seq vs.toArray }/\IntsAre vs ns/\ns.length<=n:=by
 have hsh:WShape.hasAll [] args [.list .int]=true:=(pre_splitW hpre).1
 have hc:l.pre.holds [] { args:=args }=true:=(pre_splitW hpre).2
 obtain ⟨d,r,rfl,h1,h2⟩:=hasAllW_cons hsh
 obtain rfl:=hasAllW_nil h2
 obtain ⟨xs,rfl,h3⟩:=hasW_list h1
 obtain ⟨ns,rfl⟩:=items_int h3
 have hlen:ns.length<=n:=by
  unfold OpenLaw.pre at hc
  have h4:(WTm.not (.lt (.lit (.int (n:Int))) (.len (.arg 0)))).holds [] { args:=[.list (ns.map .int)] }=true:=by
   have h4:=(holds_andW hc).1
   rw[hn]at h4
   exact h4
  have h5:=condW_of h4 (w_not (w_lt w_lit (w_len_list (w_arg rfl))))
  rw[length_map]at h5
  refine Nat.le_of_not_lt λq=>?_
  have q':(n:Int)<((ns.length:Nat):Int):=by omega
  first
   | (rw[decide_eq_true q']at h5;exact absurd h5 (by decide))
   | (simp at h5;omega)
 cases hwl with
 |cons w1 w2=>
  cases w2
  cases w1 with
  |list ho hall=>exact ⟨_,_,ns,rfl,rfl,ho,qfj ns _ hall,hlen⟩
theorem ql1(l:OpenLaw)(args:List WData):l.row.toRowW.claim.post args (.bool true) args=true:=
 postW_of (r:=l.row.toRowW) (X:=(true == true))
  (show WShape.has [] (.bool true) .bool=true by first|rfl|decide|simp[WShape.has,WShape.arms,WShape.armsAll])
  (show (WTm.eq .res (.lit (.bool true))).value [] { args:=args,res:=some (.bool true),after:=args }=some (.bool (true == true)) from w_eq_bool (w_res rfl) w_lit) rfl
theorem attach_call{l:OpenLaw}{n:Nat}{q:Program}{loose:List Str}{XP:(Str->Option Value)->Heap->Prop}{YP:World->Heap->Prop}{d:DefRec}
  (hn:l.most=some n) (hdf:d.params.defaults=[])
  (call:∀(w:World) (s₀ s₁:Shared) (mg mb:Str->Option Value) (fa:Addr) (o:Obj) (pm cd doc:Value) (a:Addr) (vs:List Value) (ns:List Int),
   Ground q loose [] XP w s₀ mg mb s₁.heap->YP w s₁.heap->
   s₁.heap.get? fa=some o->o.data=.func (docDef d.name d.params d.body d.scope pm cd doc)->s₁.heap.CodeRec cd d.name->mg d.name=some (.ref fa)->
   s₁.heap.get? a=some { cls:=.type "list",data:=.seq vs.toArray }->IntsAre vs ns->ns.length<=n->s₁.gens=#[]->
   codeAny (model l.prog w) callerA (.call (.ref fa) ⟨[.ref a],[]⟩) (λr s'=>r=.ok (.ret (.bool true))/\OldK s₁.heap s'.heap/\s'.os=s₁.os/\AllBare s'.gens) s₁) :
  WalkO q loose XP YP l.row.toRowW d [] (λf vs=>PySem.call f vs):=by
 intro w s₀ s₁ mg mb G Y fa o pm cd doc dV kV ho hd hcd hD hmg hg args vals as hpre hlay hrd hwl hlo
 obtain rfl:dV=.none:=Dflts.none hD hdf
 obtain rfl:kV=.none:=Dflts.noKw hD
 obtain ⟨a,vs,ns,rfl,rfl,hobj,hints,hlen⟩:=qk0 hn hpre hwl
 refine enter_call (codeAny_mono (call w s₀ s₁ mg mb fa o pm cd doc a vs ns G Y ho (fd_plain hd) hcd hmg hobj hints hlen hg) λr s' hq=>?_)
 obtain ⟨rfl,h2,h3,h4⟩:=hq
 exact ⟨.inl ⟨.bool true,.bool true,[],rfl,λ_=>rfl,.bool true,ql1 l _,λ_=>⟨List.Pairwise.nil,λ_ hm=>(nomatch hm)⟩⟩,h2,h3,h4⟩
end Att
namespace L2
open PySem PySem.Spec PyProof.Rows
theorem qid:∀{vs:List Value}{ns:List Int},IntsAre vs ns->Vals (ns.map V.int) vs
 |_,_,.nil=>.nil
 |_,_,.cons n t h=>.cons ⟨t,rfl⟩ (qid h)
def Only(H:Hp):Prop:=∀b,H b=none\/∃o xs,H b=some (.frz o (.lst xs))
theorem law_call{P:Program}{w:World}{K:W.Frag}{mg mb:Str->Option Value}{CX:CXT}{k:Nat}{fa a:Addr}{fd:FuncData}{x:Str}{sp:Sp}{s₁:Shared}{vs:List Value}{ns:List Int}
  (KX:K.In s₁.heap) (hns:s₁.heap.Ns mainGlobals mg) (hb:s₁.heap.Ns builtinsNs mb) (hbb:∀x:Str,x≠"__name__"->mb x=bootBuiltins x) (hlim:s₁.heap.NoLimit) (hg:s₁.gens=#[])
  (ha:s₁.heap.get? a=some { cls:=.type "list",data:=.seq vs.toArray }) (hi:IntsAre vs ns) (hl:ns.length<=sizeLine) (hr:Room k callerA)
  (F:∀base:Heap,K.In base->base.Ns mainGlobals mg->FnOk P w K mg base CX k fa fd [x] sp) (hbind:∀(s:Shared) (u:Value),BindsTo s fd ⟨[u],[]⟩ [(x,u)])
  (hsp:∀H:Hp,Only H->SqL K H a (ns.map V.int)->sp [.ref a] H (λv _=>v=.bl true) λ_ _ _=>False)
  (hCX:∀H e s',CX [] H s₁ (λ_ _ _=>False) e s'->False) :
  codeAny (model P w) callerA (.call (.ref fa) ⟨[.ref a],[]⟩) (λr s'=>r=.ok (.ret (.bool true))/\OldK s₁.heap s'.heap/\s'.os=s₁.os/\AllBare s'.gens) s₁:=by
 have rv:=qid hi
 have lenV:=hi.length
 -- from an abstract heap in which nothing but the script may be tracked
 have core:∀H:Hp,Only H->SqL K H a (ns.map V.int)->HOk P w H s₁.heap->(∀b,H b≠none->b=a)->(H a≠none->K.lookup a=none)->
   codeAny (model P w) callerA (.call (.ref fa) ⟨[.ref a],[]⟩) (λr s'=>r=.ok (.ret (.bool true))/\OldK s₁.heap s'.heap/\s'.os=s₁.os/\AllBare s'.gens) s₁:=by
  intro H hO hS hok hA hK
  have base_of:∀{b:Addr}{o:Obj},s₁.heap.get? b=some o->H b=none->(hidT s₁.heap H).get? b=some o:=λe n=>hidT_get e n
  have noA:∀{b:Addr}{o:Obj}{es:Array DictEntry}{ep:Nat},s₁.heap.get? b=some o->o.data=.dict es ep->H b=none:=λ{b o es ep} e d=>by
   cases q:H b with
   |none=>rfl
   |some u=>
    have e':b=a:=hA b (by rw[q];simp)
    subst e'
    rw[ha]at e;cases e
    have d':Data.seq vs.toArray _=Data.dict es ep:=d
    cases d'
  have nsK:∀{b:Addr}{m:Str->Option Value},s₁.heap.Ns b m->(hidT s₁.heap H).Ns b m:=λ{b m} ⟨o,es,ep,e,d,r⟩=>⟨o,es,ep,base_of e (noA e d),d,r⟩
  have hKb:K.In (hidT s₁.heap H):=λb o e=>base_of (KX b o e) (by
   cases q:H b with
   |none=>rfl
   |some u=>
    have e':b=a:=hA b (by rw[q];simp)
    subst e'
    rw[hK (by rw[q];simp)]at e;cases e)
  have hM:Mod K mg (hidT s₁.heap H):=⟨hKb,nsK hns,⟨mb,nsK hb,hbb⟩,let ⟨mc,h1,h2⟩:=hlim;⟨mc,nsK h1,h2⟩⟩
  have e0:Env0 P w K mg (hidT s₁.heap H) callerA [] s₁ H:=⟨rfl,hM,λb o e=>of_hidT e,Nat.le_of_eq (qkr _ _),trivial,λb hb=>absurd (show b∈([]:List Addr) from hb) (by simp),hok,.of_eq hg⟩
  refine codeAny_mono ((F _ hKb (nsK hns)).run callerA [] s₁ H ⟨[.ref a],[]⟩ [.ref a] [.ref a] _ _ hr e0 (hbind s₁ (.ref a)) (.cons rfl .nil) (hsp H hO hS)) λr s' h=>?_
  cases r with
  |error e=>exact (hCX H e s' h).elim
  |ok fl=>
   cases fl with
   |next=>exact False.elim h
   |brk=>exact False.elim h
   |cont=>exact False.elim h
   |ret u=>
    obtain ⟨v,H',os,bare,un,hok',r',q⟩:=h
    have q':v=.bl true:=q
    subst q'
    obtain rfl:u=Value.bool true:=r'
    refine ⟨rfl,OldK.of_keep λb o e=>?_,os,bare⟩
    cases q:H b with
    |none=>exact un.keep b o e q (by intro z;exact absurd (show b∈([]:List Addr) from z) (by simp)) (by simp)
    |some u=>
     rcases hO b with z|⟨ob,xs,z⟩
     ·rw[q]at z;cases z
     ·have z2:=un.frzs b ob _ z
      obtain ⟨e1,_⟩:=hok b _ z
      obtain ⟨e2,_⟩:=hok' b _ z2
      rw[e]at e1;cases e1
      exact e2
 cases hk:K.lookup a with
 |some o=>
  -- the script is one of the module's own objects
  have e:=KX a o hk
  rw[ha]at e
  cases e
  refine core (λ_=>none) (λ_=>.inl rfl) (.inr ⟨_,vs.toArray,_,hk,rfl,rfl,rfl,by rw[size_toArray,lenV];exact hl,by simpa using rv⟩) (λb u z=>by have z':(none:Option HO)=some u:=z;cases z') (λb z=>absurd rfl z) λz=>absurd rfl z
 |none=>
  refine core (λb=>if b=a then some (.frz { cls:=.type "list",data:=.seq vs.toArray } (.lst (ns.map V.int))) else none) (λb=>?_) (.inl (.inr ⟨{ cls:=.type "list",data:=.seq vs.toArray },if_pos rfl⟩)) (λb u z=>?_) (λb z=>?_) λ_=>hk
  ·by_cases hb:b=a
   ·exact .inr ⟨_,_,if_pos hb⟩
   ·exact .inl (if_neg hb)
  ·by_cases hb:b=a
   ·have z':=(if_pos hb).symm.trans z
    cases z'
    subst hb
    exact ⟨ha,by rw[length_map];exact hl,vs,_,rv,ha⟩
   ·have z':=(if_neg hb).symm.trans z
    cases z'
  ·by_cases hb:b=a
   ·exact hb
   ·exact absurd (if_neg hb) z
theorem walk_of{l:W.OpenLaw}{n k:Nat}{q:Program}{loose:List Str}{XP:(Str->Option Value)->Heap->Prop}{YP:World->Heap->Prop}{d:DefRec}{K:Params->W.Frag}{CX:World->CXT}{sp:World->Sp}{x:Str}
  (hn:l.most=some n) (hn2:n<=sizeLine) (hdf:d.params.defaults=[]) (hr:Room k callerA)
  (hY:∀(w:World) (h:Heap),YP w h->(K w.params).In h)
  (F:∀(w:World) (mg:Str->Option Value) (fa:Addr) (h:Heap),(K w.params).In h->h.Ns mainGlobals mg->mg d.name=some (.ref fa)->
   ∃fd:FuncData,(∀(s:Shared) (u:Value),BindsTo s fd ⟨[u],[]⟩ [(x,u)])/\
    ∀base:Heap,(K w.params).In base->base.Ns mainGlobals mg->FnOk l.prog w (K w.params) mg base (CX w) k fa fd [x] (sp w))
  (hsp:∀(w:World) (H:Hp) (a:Addr) (ns:List Int),ns.length<=n->Only H->SqL (K w.params) H a (ns.map V.int)->sp w [.ref a] H (λv _=>v=.bl true) λ_ _ _=>False)
  (hCX:∀(w:World) (H:Hp) (s:Shared) (e:Value) (s':Shared),CX w [] H s (λ_ _ _=>False) e s'->False) :
  W.WalkO q loose XP YP l.row.toRowW d [] (λf vs=>PySem.call f vs):=by
 refine Att.attach_call hn hdf λw s₀ s₁ mg mb fa o pm cd doc a vs ns G Y ho hd hcd hmg hobj hints hlen hg=>?_
 have KX:=hY w _ Y
 obtain ⟨fd,hb,hF⟩:=F w mg fa _ KX G.T.g hmg
 exact law_call KX G.T.g G.T.b G.T.builtins G.T.nolimit hg hobj hints (le_trans hlen hn2) hr hF hb (λH hO hS=>hsp w H a ns hlen hO hS) λH e s'=>hCX w H s₁ e s'
def yct(s:Stmt)(j:Nat):Stmt:=match s with
 |.ClassDef _ _ _ body _ _ _ _ _ _ _=>body.getD j (.Pass ⟨0,0,0,0⟩)
 |_=>.Pass ⟨0,0,0,0⟩
def qaw(s:Stmt):Arguments:=match s with
 |.FunctionDef _ a _ _ _ _ _ _ _ _=>a
 |_=>{ posonlyargs:=[],args:=[],vararg:=none,kwonlyargs:=[],kw_defaults:=[],kwarg:=none,defaults:=[] }
def yar(s:Stmt):List Stmt:=match s with
 |.FunctionDef _ _ b _ _ _ _ _ _ _=>b
 |_=>[]
def yac(s:Stmt):Scope:=match s with
 |.FunctionDef _ _ _ _ _ _ sc _ _ _=>sc
 |_=>{ kind:=.function,names:=[],isGenerator:=false,isCoroutine:=false }
abbrev CX0:CXT:=λ_ _ _ _ _ _=>False
abbrev E0:XK:=λ_ _ _=>False
theorem pass0{X:Cx}:qfq CX0 X E0:=λ_ _ _ _ _ _ _ h=>h.elim
structure Fun(K:W.Frag)(x qual:Str)(st:Stmt)(f:Addr)(fd:FuncData):Prop where
 ex:∃(oc:Value) (od:Option Addr) (kV doc pm:Value) (an:Option Addr) (cdv ct:Value) (osl:Array (Option Value)),
  fd=W.fnOf x qual (qaw st) (yar st) (yac st) .none kV doc pm an cdv ct/\K.lookup f=some ⟨oc,od,.func fd,osl⟩/\W.codeIn K cdv qual=true
 kp:W.keepIn K (.ref f)=true
section
variable {P:Program}{w:World}{K:W.Frag}{mg:Str->Option Value}{base:Heap}
theorem Fun.ok{x qual:Str}{st:Stmt}{f:Addr}{fd:FuncData}{N ps:List Str}{k:Nat}{sp:Sp}(F:Fun K x qual st f fd)(S:FnScope N ps (yac st))(len:∀vs H Q E,sp vs H Q E->vs.length=ps.length)
  (hbody:∀(cdv:Value) (A:Around) (outer:List Env) (s:Shared) (H:Hp) (vs:List V) (Q:VK) (E:XK),Room k (A.deeper (envOfC qual (yac st) s.heap.objs.size f cdv))->sp vs H Q E->
   ∃t,PSs (cxOf CX0 P w K mg base N qual (yac st) f cdv A outer s H E).nox (yar st) t/\t { nx:=λ_ H'=>Q .non H',rt:=Q } (start N vs) H):FnOk P w K mg base CX0 (k+1) f fd ps sp:=by
 obtain ⟨oc,od,kV,doc,pm,an,cdv,ct,osl,rfl,lk,hcd⟩:=F.ex
 refine fn_of lk hcd S len λA outer s H vs Q E hr hsp=>?_
 obtain ⟨t,h,q⟩:=hbody cdv A outer s H vs Q E hr hsp
 exact ⟨t,h.nox,q⟩
theorem Fun.binds{x qual:Str}{st:Stmt}{f:Addr}{fd:FuncData}{ps:List Str}(F:Fun K x qual st f fd)
  (h:∀(kV doc pm:Value) (an:Option Addr) (cdv ct:Value) (us:List Value),us.length=ps.length->bindArgs (W.fnOf x qual (qaw st) (yar st) (yac st) .none kV doc pm an cdv ct) ⟨us,[]⟩=pure (ps.zip us)):qef K fd ps []:=by
 obtain ⟨oc,od,kV,doc,pm,an,cdv,ct,osl,rfl,lk,hcd⟩:=F.ex
 exact .all (h kV doc pm an cdv ct)
theorem qbg{x qual:Str}{st:Stmt}{f:Addr}{oc:Value}{od an:Option Addr}{osl:Array (Option Value)}{kV doc pm cdv ct:Value}(l:K.lookup f=some ⟨oc,od,.func (W.fnOf x qual (qaw st) (yar st) (yac st) .none kV doc pm an cdv ct),osl⟩)
  (c:W.codeIn K cdv qual=true) (k:W.keepIn K (.ref f)=true):Fun K x qual st f (W.fnOf x qual (qaw st) (yar st) (yac st) .none kV doc pm an cdv ct):=⟨⟨oc,od,kV,doc,pm,an,cdv,ct,osl,rfl,l,c⟩,k⟩
end
theorem qfa{A:Around}{k:Nat}(hr:Room k A):A.units+1<cLine:=Nat.lt_of_le_of_lt (Nat.add_le_add_left (by decide:1<=64) _) hr.units
section
variable {X:Cx}
theorem pv(i:Nat){x:Str}{pos:Pos}(hN:X.N[i]?=some x:=by rfl)(hv:Vis X.env.scope x:=by first|exact Or.inl rfl|exact Or.inr (Or.inl rfl)|exact Or.inr (Or.inr rfl))(hd:(x == ("__debug__" : Str))=false:=by decide)
  (hcd:(x == ("__classdict__" : Str))=false:=by decide):PE X (.Name x pos) (tVar i):=pe_var hN hv hd hcd
end
theorem iteF{A B:Prop}(h:B):if false=true then A else B:=by
 rw[if_neg Bool.false_ne_true]
 exact h
theorem iteT{A B:Prop}(h:A):if true=true then A else B:=by
 rw[if_pos rfl]
 exact h
def Same(H H':Hp):Prop:=∀b o,H b=some o->H' b=some o
theorem smR(H:Hp):Same H H:=λ_ _ h=>h
theorem Same.trans{H H1 H2:Hp}(a:Same H H1)(b:Same H1 H2):Same H H2:=λc o h=>b c o (a c o h)
theorem Same.free{H H':Hp}(e:Same H H'){l:Addr}(h:H' l=Option.none):H l=Option.none:=by
 cases q:H l with
 |none=>rfl
 |some o=>
  rw[e l o q]at h
  cases h
theorem Same.seq{K:W.Frag}{H H':Hp}{a:Addr}{xs:List V}(e:Same H H')(h:SqL K H a xs):SqL K H' a xs:=by
 rcases h with (h|⟨o,h⟩)|h
 ·exact .inl (.inl (e _ _ h))
 ·exact .inl (.inr ⟨o,e _ _ h⟩)
 ·exact .inr h
mutual
inductive At(H:Hp):V->PyData->Prop
 |non:At H .non .none
 |bl (b:Bool):At H (.bl b) (.bool b)
 |int (i:Int):At H (.int i) (.int i)
 |str (x:Str):At H (.str x) (.str x)
 |lst {a:Addr}{vs:List V}{ds:List PyData}:H a=some (.lst vs)->AtAll H vs ds->At H (.ref a) (.list ds)
 |tup {a:Addr}{vs:List V}{ds:List PyData}:H a=some (.tup vs)->AtAll H vs ds->At H (.ref a) (.tuple ds)
inductive AtAll(H:Hp):List V->List PyData->Prop
 |nil:AtAll H [] []
 |cons {v:V}{d:PyData}{vs:List V}{ds:List PyData}:At H v d->AtAll H vs ds->AtAll H (v::vs) (d::ds)
end
mutual
theorem At.same{H H':Hp}(s:Same H H'):∀{v:V}{d:PyData},At H v d->At H' v d
 |_,_,.non=>.non
 |_,_,.bl b=>.bl b
 |_,_,.int i=>.int i
 |_,_,.str x=>.str x
 |_,_,.lst e t=>.lst (s _ _ e) (AtAll.same s t)
 |_,_,.tup e t=>.tup (s _ _ e) (AtAll.same s t)
theorem AtAll.same{H H':Hp}(s:Same H H'):∀{vs:List V}{ds:List PyData},AtAll H vs ds->AtAll H' vs ds
 |_,_,.nil=>.nil
 |_,_,.cons a b=>.cons (At.same s a) (AtAll.same s b)
end
theorem AtAll.length{H:Hp}:∀{vs:List V}{ds:List PyData},AtAll H vs ds->vs.length=ds.length
 |_,_,.nil=>rfl
 |_,_,.cons _ b=>congrArg (· + 1) b.length
theorem AtAll.get{H:Hp}:∀{vs:List V}{ds:List PyData}{i:Nat}{v:V},AtAll H vs ds->vs[i]?=some v->∃d,ds[i]?=some d/\At H v d
 |_,_,i,_,.nil,h=>by simp at h
 |_,_,0,_,.cons a _,h=>by simp at h;subst h;exact ⟨_,rfl,a⟩
 |_,_,i+1,v,.cons _ b,h=>by
  obtain ⟨d,h1,h2⟩:=AtAll.get (i:=i) (v:=v) b (by simpa using h)
  exact ⟨d,by simpa using h1,h2⟩
theorem AtAll.append{H:Hp}:∀{vs ws:List V}{ds es:List PyData},AtAll H vs ds->AtAll H ws es->AtAll H (vs++ws) (ds++es)
 |_,_,_,_,.nil,h=>h
 |_,_,_,_,.cons a b,h=>.cons a (b.append h)
mutual
theorem At.reads{P:Program}{w:World}{H:Hp}{h:Heap}(ok:HOk P w H h):∀{v:V}{d:PyData}{u:Value},At H v d->RelV v u->∃as,Reads h u d as
 |_,_,_,.non,r=>by cases r;exact ⟨_,.none⟩
 |_,_,_,.bl b,r=>by cases r;exact ⟨_,.bool b⟩
 |_,_,_,.int i,r=>by obtain ⟨t,rfl⟩:=r;exact ⟨_,.int i t⟩
 |_,_,_,.str x,r=>by obtain ⟨t,rfl⟩:=r;exact ⟨_,.str x t⟩
 |_,_,_,.lst e t,r=>by
  cases r
  obtain ⟨z,its,n,rv,ho⟩:=ok _ _ e
  obtain ⟨as,q⟩:=AtAll.reads ok t rv
  exact ⟨_,.list ho rfl rfl (by simpa using q)⟩
 |_,_,_,.tup e t,r=>by
  cases r
  obtain ⟨z,its,rv,o,ho,hc,n,hd⟩:=ok _ _ e
  obtain ⟨as,q⟩:=AtAll.reads ok t rv
  exact ⟨_,.tuple ho hc hd (by simpa using q)⟩
theorem AtAll.reads{P:Program}{w:World}{H:Hp}{h:Heap}(ok:HOk P w H h):∀{vs:List V}{ds:List PyData}{us:List Value},AtAll H vs ds->Vals vs us->∃as,ReadsAll h us ds as
 |_,_,_,.nil,.nil=>⟨_,.nil⟩
 |_,_,_,.cons a b,.cons r s=>by
  obtain ⟨as,q⟩:=At.reads ok a r
  obtain ⟨bs,q2⟩:=AtAll.reads ok b s
  exact ⟨_,.cons q q2⟩
end
section
variable {X:Cx}{pins:List (Addr×Obj)}{σ:St}{H:Hp}{s:Shared}{h':Heap}
theorem Inv.turnedL{ch:List Addr}{a:Addr}{o:HO}{t':Nat}(I:Inv X pins σ H s)(k:∀b u,b∉ch->s.heap.get? b=some u->h'.get? b=some u)(hf:∀b∈ch,FpOk X pins H b)
  (hp:s.heap.objs.size<=a) (new:ya7 X.prog X.w (upd H a o) h' a o):Inv X pins σ (upd H a o) { s with heap:=h',toks:=t' }:=by
 have hn:H a=none:=I.hok.fresh hp
 have nit:∀b u,H b=some u->b∉ch:=λb u e z=>by rw[(hf b z).1]at e;cases e
 refine I.step (g':=s.gens) (d':=s.drawn) (ch:=ch) (λb hb=>?_) (λb u _ _ hc e _=>k b u hc e) (λb u _ _ hc e _=>⟨u.slots,k b u hc e⟩) (λb u _ e n=>?_)
  (λb u hc e=>⟨u,k b u hc e⟩) (λb xs e=>?_) (λb u xs e=>?_) (λb ps e=>⟨#[],?_⟩) (λm hm=>?_) (λb u e=>?_) I.bare
 ·obtain ⟨_,f1,_,f3,f4,f5⟩:=hf b hb
  exact ⟨f3,f1,f4,f5⟩
 ·rw[yae (ne_of_lt (lt_of_lt_of_le (lt_size e) hp))];exact n
 ·rw[yae (yab e hn)];exact e
 ·rw[yae (yab e hn)];exact e
 ·rw[yae (yab e hn),e];simp
 ·obtain ⟨ob,es,ep,ho,r⟩:=hm
  exact ⟨ob,es,ep,k _ ob (λz=>(hf _ z).2.1 rfl) ho,r⟩
 ·by_cases hb:b=a
  ·subst hb;rw[qab]at e;cases e;exact new
  ·rw[yae hb]at e
   refine (I.hok b u e).stay (λc v hc q=>k c v ?_ q) (λc q=>by rw[yae (yab q hn)];exact q) λc xs q=>by rw[yae (yab q hn)];exact q
   rcases hc with rfl|hc
   ·exact nit _ u e
   ·exact nit c _ hc
end
def Ite(K:W.Frag)(a:Addr):It:=
 ⟨λi H=>∃xs x,SqL K H a xs/\xs[i]?=some x,λi H x H'=>∃p y,H p=none/\x=.ref p/\H'=upd H p (.tup [.int i,y])/\∀xs,SqL K H a xs->xs[i]?=some y,λi H=>∃xs,SqL K H a xs/\xs.length<=i⟩
theorem yln{P:Program}{w:World}{K:W.Frag}{es:List Expr}{k:Nat}{tp:Pos}(a e it:Addr)(hne:e≠it) :
  Turn P w K (.Tuple es k tp) (Ite K a) [e,it] e (λi h=>(∃old,IsEnum h e it i old)/\h.IsListIter it a i) where
 mem:=by simp
 obj:=λi h st b hb=>by
  obtain ⟨⟨old,he⟩,o,ho,hc,hd⟩:=st
  have hb':b=e\/b=it:=by simpa using hb
  rcases hb' with rfl|rfl
  ·exact ⟨_,he,λv z=>by
    have z':Data.fields _=Data.cell v:=z
    cases z'⟩
  ·exact ⟨o,ho,λv z=>by rw[hd]at z;cases z⟩
 keep:=λi h h' st kk=>⟨st.1.imp λ_ z=>kk e (by simp) _ z,st.2.at λo z=>kk it (by simp) o z⟩
 item:=by
  intro X hP hw hK hc i pins s σ H E I hf st hg
  subst hP hw hK
  obtain ⟨xs,x,hq,hx⟩:=hg
  obtain ⟨its,rv,p,hz⟩:=I.list hq
  obtain ⟨u,hu,ru⟩:=rv.get hx
  obtain ⟨⟨old,he⟩,hit⟩:=st
  refine wpAny_pyNext_enum_item he hit p.isList (x:=u) (by simpa using hu) hne λh' ho hit' hT hsz hk=>?_
  have hel:e<s.heap.objs.size:=lt_size he
  have hil:it<s.heap.objs.size:=by obtain ⟨_,z,_⟩:=hit;exact lt_size z
  refine ⟨_,rfl,wpAny_letOwnedTupleGo_enum ho λh2 he2 hs2=>?_⟩
  have keep2:∀b ob,b∉[e,it]->s.heap.get? b=some ob->h2.get? b=some ob:=λb ob hb z=>by
   have h1:b≠e:=λq=>hb (by simp[q])
   have h3:b≠it:=λq=>hb (by simp[q])
   exact (hs2.2 b h1).trans (hk b ob h1 h3 z)
  have hT2:h2.get? s.heap.objs.size=some { cls:=.type "tuple",data:=.seq #[.int i s.toks,u] }:=(hs2.2 _ (ne_of_gt hel)).trans hT
  have fresh:H s.heap.objs.size=none:=I.hok.fresh (le_refl _)
  have new:ya7 X.prog X.w (upd H s.heap.objs.size (.tup [.int i,x])) h2 s.heap.objs.size (.tup [.int i,x]):=
   ⟨by show 2<=sizeLine;decide,[.int i s.toks,u],.cons ⟨_,rfl⟩ (.cons ru .nil),⟨_,hT2,rfl,_,rfl⟩⟩
  refine ⟨.ref s.heap.objs.size,upd H s.heap.objs.size (.tup [.int i,x]),I.turnedL keep2 hf (le_refl _) new,rfl,⟨_,x,fresh,rfl,rfl,λys hy=>by rw[I.list_inj hy hq];exact hx⟩,⟨⟨_,by simpa using he2⟩,hit'.at λo z=>(hs2.2 it hne.symm).trans z⟩,λb hb=>?_⟩
  rw[yae]
  ·exact (hf b hb).1
  ·have hb':b=e\/b=it:=by simpa using hb
   rcases hb' with rfl|rfl
   ·exact ne_of_lt hel
   ·exact ne_of_lt hil
 done:=by
  intro X hP hw hK hc i pins s σ H E I hf st hg
  subst hP hw hK
  obtain ⟨xs,hq,hx⟩:=hg
  obtain ⟨its,rv,p,hz⟩:=I.list hq
  obtain ⟨⟨old,he⟩,hit⟩:=st
  have hl:=rv.length
  obtain ⟨f0,f1,f2,f3,f4,f5⟩:=hf it (by simp)
  exact wpAny_pyNext_enum_end (I.ok.hd hc) he hit p.isList (by simp;omega) λh' eb=>⟨rfl,I.turned (t':=s.toks) (λb o hb z=>eb b o hb z) f0 f1 f3 f4 f5⟩
 self:=λ_ _ _ _ _ st h=>wpAny_pyIter_enum st.1.choose_spec h
def iEnum(K:W.Frag)(ta:TA):TI:=λσ H R=>ta σ H λvs H1=>∃a xs,vs=[.ref a]/\SqL K H1 a xs/\R (Ite K a) H1
section
variable {X:Cx}
theorem qdy{a:Expr}{ta:TA}{p pos tp:Pos}{es:List Expr}{k:Nat}(hg:Gl X "enumerate")(hm:X.mg "enumerate"=none)(ha:PA X [a] ta)(hs:starEach [a] X.env=[(false,eval a X.env)]:=by rfl) :
  PI X (.Tuple es k tp) (.Call (.Name "enumerate" p) [a] [] pos) (iEnum X.K ta):=by
 intro pins s σ H R I h
 refine Call_ (yfx I hg hm boot_enumerate (PyProof.Rows.callWith_type1 (thn (ha pos pins s σ H _ I h) λus s1 ⟨vs,H1,I1,r1,q1⟩=>?_) hs rfl))
 obtain ⟨l,xs,e,hq,q⟩:=q1
 subst e
 cases r1 with
 |cons r rr=>
  cases rr
  cases r
  obtain ⟨its,rv,pl,hz⟩:=I1.list hq
  refine call_enumerate_list pl.isList λh' he hit hsz hk=>?_
  refine wpAny_pyIter_enum he ⟨_,[s1.heap.objs.size+1,s1.heap.objs.size],_,Ite X.K l,H1,rfl,I1.kept (t':=s1.toks) hk,yln l (s1.heap.objs.size+1) s1.heap.objs.size (Nat.succ_ne_self _),⟨⟨_,he⟩,hit⟩,λb hb=>?_,q⟩
  have hb':b=s1.heap.objs.size+1\/b=s1.heap.objs.size:=by simpa using hb
  rcases hb' with rfl|rfl
  ·exact I1.fpOk (le_succ _) (I1.hok.fresh (le_succ _))
  ·exact I1.fpOk (le_refl _) (I1.hok.fresh (le_refl _))
end
theorem ycq{K:W.Frag}{a:Addr}{xs:List V}{g:TG}{tb:TS}{D:Ends}{σ:St}{H:Hp}(Pv:Nat->St->Hp->Prop)(h0:Pv 0 σ H)(hl:∀i σ H,i<=xs.length->Pv i σ H->SqL K H a xs)
  (hs:∀i x p σ H,xs[i]?=some x->Pv i σ H->H p=none->g (.ref p) σ (upd H p (.tup [.int i,x])) λσ2 H2=>tb { D with nx:=Pv (i+1),ct:=Pv (i+1),bk:=D.nx } σ2 H2) (hd:∀σ H,Pv xs.length σ H->D.nx σ H) :
  ∃W:Nat->Nat->St->Hp->Prop,(∃m,W 0 m σ H)/\∀i m σ H,W i m σ H->
   ((Ite K a).stop i H/\D.nx σ H)\/((Ite K a).go i H/\∃N:St->Hp->Prop,(∀σ' H',N σ' H'->∃m',m' < m/\W (i+1) m' σ' H')/\∀x H',(Ite K a).yld i H x H'->g x σ H' λσ2 H2=>tb { D with nx:=N,ct:=N,bk:=D.nx } σ2 H2):=by
 refine ⟨λi m σ H=>m=xs.length-i/\i<=xs.length/\Pv i σ H,⟨xs.length,by simp,zero_le _,h0⟩,?_⟩
 rintro i m σ H ⟨rfl,hi,p⟩
 have q:=hl i σ H hi p
 by_cases hlt:i<xs.length
 ·refine .inr ⟨⟨xs,xs[i],q,by simp[hlt]⟩,Pv (i+1),λσ' H' p'=>⟨xs.length-(i+1),by omega,rfl,hlt,p'⟩,λx H' y=>?_⟩
  obtain ⟨pp,z,hn,e1,e2,y⟩:=y
  subst e1 e2
  exact hs i z pp σ _ (y xs q) p hn
 ·have e:i=xs.length:=by omega
  subst e
  exact .inl ⟨⟨xs,q,le_refl _⟩,hd σ H p⟩
def Its(lo step:Int)(n:Nat):It:=⟨λi _=>i<n,λi H x H'=>H'=H/\x=.int (lo+i*step),λi _=>n<=i⟩
theorem yiv{P:Program}{w:World}{K:W.Frag}{tg:Expr}(it:Addr)(lo c:Int)(n:Nat):Turn P w K tg (Its lo c n) [it] it (λi h=>IsRangeIter h it (lo+(i:Nat)*c) ((n:Int)-(i:Nat)) c) where
 mem:=by simp
 obj:=λi h st b hb=>by
  have e:b=it:=by simpa using hb
  subst e
  exact ⟨_,st,λv z=>by
   have z':Data.fields _=Data.cell v:=z
   cases z'⟩
 keep:=λi h h' st k=>k it (by simp) _ st
 item:=by
  intro X hP hw hK hc i pins s σ H E I hf st hg
  subst hP hw hK
  obtain ⟨f0,f1,f2,f3,f4,f5⟩:=hf it (by simp)
  have W:=Walks.range (prog:=X.prog) (w:=X.w) (I.ok.hd hc) it lo c n
  refine W.item i s _ _ hg st λv h' tk hv st' kk=>?_
  obtain ⟨t,rfl⟩:=hv
  have I1:Inv X pins σ H { s with heap:=h',toks:=tk }:=I.turned (λb o hb e=>kk b o (by simpa using hb) e) f0 f1 f3 f4 f5
  exact ⟨_,rfl,go_of (s:={ s with heap:=h',toks:=tk }) (n:="range_iterator") st' rfl rfl (by decide) ⟨.int (lo+i*c),H,I1,⟨t,rfl⟩,⟨rfl,rfl⟩,st',λb hb=>(hf b hb).1⟩⟩
 done:=by
  intro X hP hw hK hc i pins s σ H E I hf st hg
  subst hP hw hK
  obtain ⟨f0,f1,f2,f3,f4,f5⟩:=hf it (by simp)
  exact wpAny_pyNext_range_end (I.ok.hd hc) st (by have:n<=i:=hg;omega) λh' eb=>⟨rfl,I.turned (t':=s.toks) (λb o hb e=>eb b o hb e) f0 f1 f3 f4 f5⟩
 self:=λ_ _ _ _ _ st h=>wpAny_pyIter_rangeiter st h
def yd7(lo hi c:Int):Nat:=if lo<hi then ((hi-lo-1) / c+1).toNat else 0
def iRng3(ta:TA):TI:=λσ H R=>ta σ H λvs H1=>∃i j c:Int,vs=[.int i,.int j,.int c]/\(-(2 ^ 60)<=i/\i<2 ^ 60/\-(2 ^ 60)<=j/\j<2 ^ 60/\0<c/\c<1073741824)/\R (Its i c (yd7 i j c)) H1
theorem qec{lo hi c:Int}(hc:0<c):Builtin.Range.rangeSize lo hi c=(yd7 lo hi c:Int):=by
 have hq:lo<hi->0<=(hi-lo-1) / c:=λh=>Int.ediv_nonneg (by omega) (by omega)
 unfold Builtin.Range.rangeSize yd7
 rw[if_pos (show c>0 from hc)]
 by_cases h:lo<hi
 ·rw[if_pos h,if_pos h]
  have:=hq h
  omega
 ·rw[if_neg h,if_neg h]
  rfl
theorem ylp{lo hi c:Int}(h:-(2 ^ 60)<=lo/\lo<2 ^ 60/\-(2 ^ 60)<=hi/\hi<2 ^ 60/\0<c/\c<1073741824):Builtin.Range.small lo hi c=true:=by
 obtain ⟨h1,h2,h3,h4,h5,h6⟩:=h
 have hs:=qec (lo:=lo) (hi:=hi) h5
 have hle:(yd7 lo hi c:Int)<=2 ^ 61:=by
  unfold yd7
  by_cases h:lo<hi
  ·rw[if_pos h]
   have a1:(hi-lo-1) / c<=hi-lo-1:=Int.ediv_le_self _ (by omega)
   omega
  ·rw[if_neg h];decide
 unfold Builtin.Range.small
 rw[hs]
 simp only[Builtin.Range.rangeFitsLong,Bool.and_eq_true,Bool.or_eq_true,decide_eq_true_eq,beq_iff_eq,show c>0 from h5,if_true]
 refine ⟨⟨⟨⟨?_,?_⟩,?_⟩,?_⟩,.inr ?_⟩<;>constructor<;>omega
section
variable {X:Cx}{tg:Expr}
theorem ql4{a b c:Expr}{ta:TA}{p pos:Pos}(hg:Gl X "range")(hm:X.mg "range"=none)(ha:PA X [a,b,c] ta)(hs:starEach [a,b,c] X.env=(false,eval a X.env)::starEach [b,c] X.env:=by rfl)
  (hs2:(backTo pos (starEach [b,c] X.env)).any (·.1)=false:=by rfl) :
  PI X tg (.Call (.Name "range" p) [a,b,c] [] pos) (iRng3 ta):=by
 intro pins s σ H R I h
 refine Call_ (yfx I hg hm boot_range (PyProof.Rows.callWith_type1 (thn (ha pos pins s σ H _ I h) λus s1 ⟨vs,H1,I1,r1,q1⟩=>?_) hs hs2))
 obtain ⟨i,j,c,e,hb,q⟩:=q1
 subst e
 cases r1 with
 |cons r rr=>
  cases rr with
  |cons r' rr=>
   cases rr with
   |cons r2 rr=>
    cases rr
    obtain ⟨t,rfl⟩:=r
    obtain ⟨t',rfl⟩:=r'
    obtain ⟨t2,rfl⟩:=r2
    obtain ⟨b1,b2,b3,b4,b5,b6⟩:=id hb
    refine call_range_3 (by omega) ?_ (.inl (PyProof.noPylong_small (by omega)))
    refine wpAny_pyIter_range (IsRange.new ..) (ylp hb) ?_
    have I2:Inv X pins σ H1 { s1 with heap:=s1.heap.push { cls:=.type "range",data:=.fields #[.int i t,.int j t',.int c t2] },toks:=s1.toks }:=I1.kept λb o e=>get?_push_of_some _ e
    refine ⟨(s1.heap.push { cls:=.type "range",data:=.fields #[.int i t,.int j t',.int c t2] }).objs.size,[(s1.heap.push { cls:=.type "range",data:=.fields #[.int i t,.int j t',.int c t2] }).objs.size],_,_,H1,rfl,
     I2.kept (t':=s1.toks) λb o e=>get?_push_of_some _ e,yiv _ i c (yd7 i j c),?_,λb hb=>?_,q⟩
    ·have e1:i+((0:Nat):Int)*c=i:=by simp
     have e2:((yd7 i j c:Nat):Int)-((0:Nat):Int)=Builtin.Range.rangeSize i j c:=by rw[qec b5];omega
     show IsRangeIter _ _ (i+((0:Nat):Int)*c) (((yd7 i j c:Nat):Int)-((0:Nat):Int)) c
     rw[e1,e2]
     exact get?_push_size _ rfl
    ·have e:b=(s1.heap.push { cls:=.type "range",data:=.fields #[.int i t,.int j t',.int c t2] }).objs.size:=by simpa using hb
     subst e
     exact I2.fpOk (le_refl _) (I2.hok.fresh (le_refl _))
end
theorem ykn{lo c:Int}{n:Nat}{g:TG}{tb:TS}{D:Ends}{σ:St}{H:Hp}(Pv:Nat->St->Hp->Prop)(h0:Pv 0 σ H)
  (hs:∀i σ H,i<n->Pv i σ H->g (.int (lo+i*c)) σ H λσ2 H2=>tb { D with nx:=Pv (i+1),ct:=Pv (i+1),bk:=D.nx } σ2 H2) (hd:∀σ H,Pv n σ H->D.nx σ H) :
  ∃W:Nat->Nat->St->Hp->Prop,(∃m,W 0 m σ H)/\∀i m σ H,W i m σ H->
   ((Its lo c n).stop i H/\D.nx σ H)\/((Its lo c n).go i H/\∃N:St->Hp->Prop,(∀σ' H',N σ' H'->∃m',m' < m/\W (i+1) m' σ' H')/\∀x H',(Its lo c n).yld i H x H'->g x σ H' λσ2 H2=>tb { D with nx:=N,ct:=N,bk:=D.nx } σ2 H2):=by
 refine ⟨λi m σ H=>m=n-i/\i<=n/\Pv i σ H,⟨n,by simp,zero_le _,h0⟩,?_⟩
 rintro i m σ H ⟨rfl,hi,p⟩
 by_cases hlt:i<n
 ·refine .inr ⟨hlt,Pv (i+1),λσ' H' p'=>⟨n-(i+1),by omega,rfl,hlt,p'⟩,λx H' y=>?_⟩
  obtain ⟨e,y⟩:=y
  subst e y
  exact hs i σ _ hlt p
 ·have e:i=n:=by omega
  subst e
  exact .inl ⟨le_refl _,hd σ H p⟩
def clOf(cells:List (Str×Addr)):List (Str×NameKind)->List (Str×Addr)->List (Str×Addr)
 |[],cs=>cs
 | (n,k)::r,cs=>if k=.free then clOf cells r ((n,(cells.lookup n).getD 0)::cs) else clOf cells r cs
theorem yc5{scope:Scope}{env:Env}(h:∀x∈scope.names,x.2=.free->∃c,env.cells.lookup x.1=some c):closureFor scope env=pure (clOf env.cells scope.names []):=by
 unfold closureFor
 generalize hn:scope.names=names at h
 suffices hh:∀(l:List (Str×NameKind)) (cs:List (Str×Addr)),(∀x∈l,x.2=.free->∃c,env.cells.lookup x.1=some c)->
   (forIn l cs (λ(x:Str×NameKind) r=>if (x.2 == NameKind.free)=true then (do let a <-cellOf env x.1;pure (ForInStep.yield ((x.1,a)::r))) else pure (ForInStep.yield r)):Sem (List (Str×Addr)))=pure (clOf env.cells l cs) by
  have:=hh names [] h
  simp only[bind_pure]
  exact this
 intro l
 induction l with
 |nil=>intro cs _;rfl
 |cons x l ih=>
  intro cs hl
  obtain ⟨n,k⟩:=x
  rw[List.forIn_cons]
  by_cases hk:k=.free
  ·subst hk
   obtain ⟨c,hc⟩:=hl (n,.free) mem_cons_self rfl
   have e1:cellOf env n=pure c:=by unfold cellOf;rw[hc]
   have ec:clOf env.cells ((n,NameKind.free)::l) cs=clOf env.cells l ((n,c)::cs):=by
    show (if NameKind.free=NameKind.free then _ else _)=_
    rw[if_pos rfl,hc];rfl
   rw[ec]
   simp only[e1,pure_bind,beq_self_eq_true,if_true]
   exact ih _ λy hy=>hl y (mem_cons_of_mem _ hy)
  ·have hb:(k == NameKind.free)=false:=by cases k<;>first|rfl|exact absurd rfl hk
   have ec:clOf env.cells ((n,k)::l) cs=clOf env.cells l cs:=by
    show (if k=NameKind.free then _ else _)=_
    rw[if_neg hk]
   rw[ec]
   simp only[hb,pure_bind,Bool.false_eq_true,if_false]
   exact ih _ λy hy=>hl y (mem_cons_of_mem _ hy)
theorem qdi{cells:List (Str×Addr)}:∀{l:List (Str×NameKind)}{cs:List (Str×Addr)},(∀x∈l,x.2=.free->∃c,cells.lookup x.1=some c)->(∀p∈cs,cells.lookup p.1=some p.2)->∀p∈clOf cells l cs,cells.lookup p.1=some p.2
 |[],_,_,h=>h
 | (n,k)::r,cs,hl,h=>by
  unfold clOf
  split
  ·rename_i hk
   refine qdi (λx hx=>hl x (mem_cons_of_mem _ hx)) λp hp=>?_
   rcases mem_cons.mp hp with rfl|hp
   ·obtain ⟨c,hc⟩:=hl (n,k) mem_cons_self hk
    show cells.lookup n=some ((cells.lookup n).getD 0)
    have hc':cells.lookup n=some c:=hc
    rw[hc'];rfl
   ·exact h p hp
  ·exact qdi (λx hx=>hl x (mem_cons_of_mem _ hx)) h
theorem yeb{l:List (Str×Addr)}{x:Str}(h:∃c,(x,c)∈l):∃c,l.lookup x=some c:=by
 obtain ⟨c,h⟩:=h
 induction l with
 |nil=>cases h
 |cons p r ih=>
  obtain ⟨y,d⟩:=p
  by_cases e:(x == y)=true
  ·exact ⟨d,by rw[lookup_cons,e]⟩
  ·have e':(x == y)=false:=by simpa using e
   rcases mem_cons.mp h with q|q
   ·cases q;exact absurd (beq_self_eq_true _) e
   ·obtain ⟨c',z⟩:=ih q
    exact ⟨c',by rw[lookup_cons,e'];exact z⟩
theorem qfh{cells:List (Str×Addr)}{x:Str}:∀{l:List (Str×NameKind)}{cs:List (Str×Addr)},((x,NameKind.free)∈l\/∃c,(x,c)∈cs)->∃c,(x,c)∈clOf cells l cs
 |[],_,h=>by
  rcases h with h|h
  ·cases h
  ·exact h
 | (n,k)::r,cs,h=>by
  unfold clOf
  split
  ·rename_i hk
   refine qfh ?_
   rcases h with h|⟨c,h⟩
   ·rcases mem_cons.mp h with q|q
    ·cases q;exact .inr ⟨_,mem_cons_self⟩
    ·exact .inl q
   ·exact .inr ⟨c,mem_cons_of_mem _ h⟩
  ·rename_i hk
   refine qfh ?_
   rcases h with h|h
   ·rcases mem_cons.mp h with q|q
    ·cases q;exact absurd rfl hk
    ·exact .inl q
   ·exact .inr h
theorem yey{env:Env}{x:Str}:∀{l:List (Str×NameKind)},l.lookup x=some .free->
  (l.map λ(n,k)=>if (k == NameKind.free&&env.scope.kind == .function&&env.kindOf n == some .cell) then (n,NameKind.cell) else (n,k)).lookup x=some .cell\/
  (l.map λ(n,k)=>if (k == NameKind.free&&env.scope.kind == .function&&env.kindOf n == some .cell) then (n,NameKind.cell) else (n,k)).lookup x=some .free
 |[],h=>by simp at h
 | (n,k)::r,h=>by
  rw[map_cons]
  cases hx:x == n with
  |true=>
   rw[lookup_cons,hx]at h
   cases h
   by_cases hc:(NameKind.free == NameKind.free&&env.scope.kind == .function&&env.kindOf n == some .cell)=true
   ·left;simp only[hc,if_true,lookup_cons,hx]
   ·right;simp only[hc,Bool.false_eq_true,if_false,lookup_cons,hx]
  |false=>
   rw[lookup_cons,hx]at h
   have ih:=yey (env:=env) (l:=r) h
   by_cases hc:(k == NameKind.free&&env.scope.kind == .function&&env.kindOf n == some .cell)=true
   ·simp only[hc,if_true,lookup_cons,hx];exact ih
   ·simp only[hc,Bool.false_eq_true,if_false,lookup_cons,hx];exact ih
theorem yf3{env:Env}{x:Str}:∀{l:List (Str×NameKind)},(∀y∈l,y.2≠.cell)->
  ((l.map λ(n,k)=>if (k == NameKind.free&&env.scope.kind == .function&&env.kindOf n == some .cell) then (n,NameKind.cell) else (n,k)).lookup x=some .cell\/
  (l.map λ(n,k)=>if (k == NameKind.free&&env.scope.kind == .function&&env.kindOf n == some .cell) then (n,NameKind.cell) else (n,k)).lookup x=some .free)->(x,NameKind.free)∈l
 |[],_,h=>by simp at h
 | (n,k)::r,hn,h=>by
  rw[map_cons]at h
  cases hx:x == n with
  |true=>
   have e:x=n:=by simpa using hx
   subst e
   by_cases hc:(k == NameKind.free&&env.scope.kind == .function&&env.kindOf x == some .cell)=true
   ·have:k=.free:=by
     simp only[Bool.and_eq_true,beq_iff_eq]at hc
     exact hc.1.1
    subst this
    exact mem_cons_self
   ·simp only[hc,Bool.false_eq_true,if_false,lookup_cons,hx,Option.some.injEq]at h
    rcases h with h|h
    ·exact absurd h (hn (x,k) mem_cons_self)
    ·subst h;exact mem_cons_self
  |false=>
   have h':(r.map λ(n,k)=>if (k == NameKind.free&&env.scope.kind == .function&&env.kindOf n == some .cell) then (n,NameKind.cell) else (n,k)).lookup x=some .cell\/
     (r.map λ(n,k)=>if (k == NameKind.free&&env.scope.kind == .function&&env.kindOf n == some .cell) then (n,NameKind.cell) else (n,k)).lookup x=some .free:=by
    by_cases hc:(k == NameKind.free&&env.scope.kind == .function&&env.kindOf n == some .cell)=true
    ·simp only[hc,if_true,lookup_cons,hx]at h;exact h
    ·simp only[hc,Bool.false_eq_true,if_false,lookup_cons,hx]at h;exact h
   exact mem_cons_of_mem _ (yf3 (λy hy=>hn y (mem_cons_of_mem _ hy)) h')
def qa6(X:Cx)(M:List Str)(scope:Scope)(C:Addr)(fp:List Addr)(s2:Shared)(H2:Hp):Cx:=
 {prog:=X.prog,w:=X.w,K:=X.K,mg:=X.mg,base:=X.base,A:=X.A,N:=M,s₀:=s2,H₀:=H2,env:=compEnvC scope (clOf X.env.cells scope.names []) C X.env,
  outer:=X.stack,stack:=X.stack,ex:=fp,fn:=λ_=>false,calm:=X.calm,pn:=[],xe:=λ_ _=>False }
def capS(ix:List (Option Nat))(σ:St):St:=ix.map λo=>match o with
 |none=>none
 |some j=>(σ[j]?).getD none
structure CompOk(N M:List Str)(ix:List (Option Nat))(sc xs:Scope):Prop where
 kind:sc.kind=.function
 len:M.length=ix.length
 nocell:∀y∈sc.names,y.2≠.cell
 loc:∀y∈sc.names,y.2=.local->sc.names.lookup y.1=some .local
 fr:∀y∈sc.names,y.2=.free->xs.names.lookup y.1=some .cell\/xs.names.lookup y.1=some .free
 cap:∀(i:Nat) (j:Nat),ix[i]?=some (some j)->∃x,M[i]?=some x/\N[j]?=some x/\sc.names.lookup x=some .free
def ykr(N M:List Str)(ix:List (Option Nat))(sc xs:Scope):Bool:=
 decide (sc.kind=.function)&&decide (M.length=ix.length)&&sc.names.all (λy=>decide (y.2≠.cell))&&sc.names.all (λy=>decide (y.2≠.local)||decide (sc.names.lookup y.1=some .local)) &&
 sc.names.all (λy=>decide (y.2≠.free)||decide (xs.names.lookup y.1=some .cell)||decide (xs.names.lookup y.1=some .free)) &&
 (List.range ix.length).all (λi=>match ix[i]? with
  |some (some j)=>match M[i]? with
   |some x=>decide (N[j]?=some x)&&decide (sc.names.lookup x=some .free)
   |none=>false
  |_=>true)
theorem qa2{N M:List Str}{ix:List (Option Nat)}{sc xs:Scope}(h:ykr N M ix sc xs=true):CompOk N M ix sc xs:=by
 unfold ykr at h
 simp only[Bool.and_eq_true,List.all_eq_true,decide_eq_true_eq,Bool.or_eq_true]at h
 obtain ⟨⟨⟨⟨⟨h1,h2⟩,h3⟩,h4⟩,h5⟩,h6⟩:=h
 refine ⟨h1,h2,h3,λy hy e=>?_,λy hy e=>?_,λi j e=>?_⟩
 ·rcases h4 y hy with q|q
  ·exact absurd e q
  ·exact q
 ·rcases h5 y hy with (q|q)|q
  ·exact absurd e q
  ·exact .inl q
  ·exact .inr q
 ·have hi:i<ix.length:=(List.getElem?_eq_some_iff.mp e).1
  have q:=h6 i (mem_range.mpr hi)
  rw[e]at q
  cases hm:M[i]? with
  |none=>rw[hm]at q;cases q
  |some x=>
   rw[hm]at q
   simp only[Bool.and_eq_true,decide_eq_true_eq]at q
   exact ⟨x,rfl,q.1,q.2⟩
section
variable {X:Cx}
def PTs(X:Cx)(ifs:List Expr)(t:TT):Prop:=
 ∀(pins:List (Addr×Obj)) (s:Shared) (σ:St) (H:Hp) (Q:Bool->Hp->Prop),Inv X pins σ H s->t σ H Q->
  wpAny (model X.prog X.w) X.A (forIn ifs true λc r=>if r=true then do let ok <-isTrue c X.env (eval c X.env);pure (ForInStep.yield ok) else pure (ForInStep.yield r)) (TP X pins σ Q) X.xe s
def tYes:TT:=λ_ H Q=>Q true H
theorem qcv:PTs X [] tYes:=λ_ _ _ H _ I h=>wpAny_tests_nil ⟨H,I,h⟩
theorem qhm{c:Expr}{t:TT}(h:PT X c t):PTs X [c] t:=λpins s σ H Q I hq=>wpAny_tests_one (h pins s σ H Q I hq)
end
theorem Un.butNew{fs ex:List Addr}{H H':Hp}{h h1 h2:Heap}{C:Addr}(u:Un fs ex H H' h h1)(hC:h.objs.size<=C)(sb:Heap.SameBut C h1 h2):Un fs ex H H' h h2:=by
 have ne:∀b o,h.get? b=some o->b≠C:=λb o e=>ne_of_lt (lt_of_lt_of_le (lt_size e) hC)
 refine ⟨λb o e n h3 h4=>(sb.2 b (ne b o e)).trans (u.keep b o e n h3 h4),λb o e n h3 h4=>?_,u.free,λb o e h4=>?_,u.tups,u.frzs,u.tbls⟩
 ·obtain ⟨sl,q⟩:=u.slot b o e n h3 h4
  exact ⟨sl,(sb.2 b (ne b o e)).trans q⟩
 ·obtain ⟨o',q⟩:=u.there b o e h4
  exact ⟨o',(sb.2 b (ne b o e)).trans q⟩
section
variable {X:Cx}{pins:List (Addr×Obj)}{σ:St}{H2:Hp}{s2:Shared}{M:List Str}{ix:List (Option Nat)}{scope:Scope}{fp:List Addr}
theorem comp_ok{C:Addr}(I:Inv X pins σ H2 s2)(ck:CompOk X.N M ix scope X.env.scope)(hC:s2.heap.objs.size<=C)(f2:∀b∈fp,FpOk X pins H2 b)(hfp:∀b∈fp,b<s2.heap.objs.size):(qa6 X M scope C fp s2 H2).Ok:=by
 have hfree:∀x∈scope.names,x.2=.free->∃c,X.env.cells.lookup x.1=some c:=λx hx e=>I.ok.has x.1 (ck.fr x hx e)
 have snd:∀x c,(clOf X.env.cells scope.names []).lookup x=some c->X.env.cells.lookup x=some c:=λx c e=>qdi (cs:=[]) hfree (by intro p hp;cases hp) (x,c) (PySem.mem_of_lookup e)
 refine ⟨I.ok.mod,ck.kind,I.ok.glob,I.ok.blt,hC,λx y c h1 h2=>I.ok.inj x y c (snd x c h1) (snd y c h2),λx hx=>?_,(by intro x c h;cases h),I.ok.hd,I.ok.frames,.inl rfl,λb hb=>⟨?_,λx c e=>?_⟩,λb o e=>I.bs b o e,
  le_trans I.ok.bsz I.sz,λb o e hb=>?_,λb hb hb2=>?_,I.stack,I.stkFree⟩
 ·exact yeb (qfh (.inl (yf3 ck.nocell hx)))
 ·exact ne_of_lt (lt_of_lt_of_le (hfp b hb) hC)
 ·exact (f2 b hb).2.2.2.2.1 x c (snd x c e)
 ·rcases (f2 b hb).2.2.2.1 with z|z
  ·exact I.ok.noex b o e z
  ·exact absurd (lt_of_lt_of_le (lt_size e) (le_trans I.ok.bsz z)) (lt_irrefl _)
 ·obtain ⟨_,n1,n2,_⟩:=f2 b hb
  rcases mem_cons.mp (I.stkSub b hb2) with z|z
  ·exact n1 z
  ·exact n2 z
theorem comp_inv{C D:Addr}{h1:Heap}{tk:Nat}(I:Inv X pins σ H2 s2)(ck:CompOk X.N M ix scope X.env.scope)(hC:s2.heap.objs.size<=C)(hD:s2.heap.objs.size<=D)(hDC:C≠D)(f2:∀b∈fp,FpOk X pins H2 b)(hfp:∀b∈fp,b<s2.heap.objs.size)
  (old:∀b o,s2.heap.get? b=some o->h1.get? b=some o) (hn:h1.Ns C λ_=>none) (hnew:h1.get? D=some { cls:=.type "list",data:=.seq #[] }) :
  Inv (qa6 X M scope C fp s2 H2) [] (capS ix σ) (upd H2 D (.lst [])) { s2 with heap:=h1,toks:=tk }:=by
 have hfree:∀x∈scope.names,x.2=.free->∃c,X.env.cells.lookup x.1=some c:=λx hx e=>I.ok.has x.1 (ck.fr x hx e)
 have snd:∀x c,(clOf X.env.cells scope.names []).lookup x=some c->X.env.cells.lookup x=some c:=λx c e=>qdi (cs:=[]) hfree (by intro p hp;cases hp) (x,c) (PySem.mem_of_lookup e)
 have fD:H2 D=none:=I.hok.fresh hD
 refine ⟨comp_ok I ck hC f2 hfp,rfl,I.bare,Un.laid old hD fD,⟨_,hn,λi x v e1 e2 e3=>?_⟩,λx c e=>?_,?_,λx c e=>?_,(by intro p hp;cases hp),I.hok.laid (o:=.lst []) old hD ⟨zero_le _,[],0,.nil,hnew⟩,?_⟩
 ·obtain ⟨j,hj,hv⟩:∃j,ix[i]?=some (some j)/\σ[j]?=some (some v):=by
   unfold capS at e2
   rw[getElem?_map]at e2
   cases q:ix[i]? with
   |none=>rw[q]at e2;cases e2
   |some o=>
    rw[q]at e2
    cases o with
    |none=>cases e2
    |some j=>
     refine ⟨j,rfl,?_⟩
     have e2':(σ[j]?).getD none=some v:=Option.some.inj e2
     cases z:σ[j]? with
     |none=>rw[z]at e2';cases e2'
     |some y=>rw[z]at e2';rw[show y=some v from e2']
  obtain ⟨y,hm,hN,hf⟩:=ck.cap i j hj
  have e1':M[i]?=some x:=e1
  rw[hm]at e1';cases e1'
  obtain ⟨m,hnl,hl⟩:=I.loc
  have hmem:(x,NameKind.free)∈scope.names:=PySem.mem_of_lookup hf
  have hk:=ck.fr _ hmem rfl
  obtain ⟨u,ru,lk⟩:=hl j x v hN hv (hk.elim (λz=>.inr (.inl z)) λz=>.inr (.inr z))
  refine ⟨u,ru,.inr ⟨yey hf,?_⟩⟩
  rcases lk with ⟨kl,_⟩|⟨_,c,hc,hcell⟩
  ·have kl':X.env.scope.names.lookup x=some .local:=kl
   rcases hk with z|z
   ·rw[z]at kl';cases kl'
   ·rw[z]at kl';cases kl'
  ·obtain ⟨c2,h2⟩:=yeb (qfh (cells:=X.env.cells) (cs:=[]) (.inl hmem))
   have h3:=snd x c2 h2
   rw[hc]at h3;cases h3
   obtain ⟨o,ho,hd⟩:=hcell
   exact ⟨c,h2,o,old c o ho,hd⟩
 ·obtain ⟨v,o,ho,hd⟩:=I.cell x c (snd x c e)
  exact ⟨v,o,old c o ho,hd⟩
 ·show upd H2 D (.lst []) C=none
  rw[yae hDC]
  exact I.hok.fresh hC
 ·show upd H2 D (.lst []) c=none
  obtain ⟨v,z⟩:=I.cell x c (snd x c e)
  rw[yae (ne_of_lt (lt_of_lt_of_le z.lt hD))]
  exact I.freeC x c (snd x c e)
 ·show (capS ix σ).length=M.length
  unfold capS
  rw[length_map,ck.len]
theorem yli{C:Addr}{σ':St}{H':Hp}{s':Shared}{h2:Heap}{pl:List (Addr×Obj)}(I:Inv X pins σ H2 s2)(J:Inv (qa6 X M scope C fp s2 H2) pl σ' H' s')(f2:∀b∈fp,FpOk X pins H2 b)(sb:Heap.SameBut C s'.heap h2):Inv X pins σ H' { s' with heap:=h2 }:=by
 have hC:s2.heap.objs.size<=C:=J.ok.above
 refine I.call' (s':={ s' with heap:=h2 }) (ch:=fp) J.os (Un.butNew J.base hC sb) (λa o e=>?_) J.bare λb hb=>?_
 ·have fr:H' C=none:=J.free
  refine (J.hok a o e).stay (λc v hc q=>(sb.2 c ?_).trans q) (λ_ q=>q) λ_ _ q=>q
  rintro rfl
  rcases hc with z|z
  ·rw[<-z,fr]at e;cases e
  ·rw[fr]at z;cases z
 ·obtain ⟨_,n1,_,n3,n4,n5⟩:=f2 b hb
  exact ⟨n3,n1,n4,n5⟩
end
def qa0(l l':St):Prop:=l'.length=l.length/\∀(i:Nat) (v:V),l[i]?=some (some v)->l'[i]?=some (some v)
theorem qa0.refl(l:St):qa0 l l:=⟨rfl,λ_ _ h=>h⟩
theorem qa0.set{l l':St}{i:Nat}{x:Option V}(h:qa0 l l')(hi:l[i]?=some none):qa0 l (l'.set i x):=by
 refine ⟨by rw[length_set];exact h.1,λj v e=>?_⟩
 by_cases hj:j=i
 ·subst hj;rw[hi]at e;cases e
 ·rw[getElem?_set_ne (Ne.symm hj)];exact h.2 j v e
def tComp(wi:TI)(ix:List (Option Nat))(g:TG)(tt:TT)(te:TE):TE:=λσ H Q=>wi σ H λJ H1=>∀D,H1 D=none->∃W:Nat->Nat->Hp->Prop,(∃m,W 0 m (upd H1 D (.lst [])))/\∀i m H,W i m H->
 (J.stop i H/\Q (.ref D) H)\/(J.go i H/\∃N:Hp->Prop,(∀H',N H'->∃m',m' < m/\W (i+1) m' H')/\∀x H',J.yld i H x H'->g x (capS ix σ) H' λσ2 H2=>qa0 (capS ix σ) σ2/\tt σ2 H2 λb H3=>
  if b=true then te σ2 H3 λv H4=>∃ys,H4 D=some (.lst ys)/\ys.length<sizeLine/\N (upd H4 D (.lst (ys++[v]))) else N H3)
section
variable {X:Cx}{elt tg iter:Expr}{ifs:List Expr}{scope:Scope}{pos:Pos}{wi:TI}{g:TG}{tt:TT}{te:TE}{M:List Str}{ix:List (Option Nat)}
theorem yl6{pins:List (Addr×Obj)}{σ:St}{H2 H4:Hp}{s2 s4:Shared}{fp:List Addr}{it C D:Addr}{tn:Nat->Heap->Prop}{J:It}{R:Result->Shared->Prop}{QD:Hp->Prop}(I2:Inv X pins σ H2 s2)(hc:X.calm=true)
  (f2:∀b∈fp,FpOk X pins H2 b) (T:Turn X.prog X.w X.K tg J fp it tn)
  (hg:PG (qa6 X M scope C fp s2 H2) tg g) (ht:PTs (qa6 X M scope C fp s2 H2) ifs tt) (he:PE (qa6 X M scope C fp s2 H2) elt te)
  (I4:Inv (qa6 X M scope C fp s2 H2) [] (capS ix σ) H4 s4) (st4:tn 0 s4.heap) (fr4:∀b∈fp,H4 b=none) (W:Nat->Nat->Hp->Prop) (m0:Nat) (w0:W 0 m0 H4)
  (turn:∀i m H,W i m H->(J.stop i H/\QD H)\/(J.go i H/\∃N:Hp->Prop,(∀H',N H'->∃m',m' < m/\W (i+1) m' H')/\∀x H',J.yld i H x H'->g x (capS ix σ) H' λσ2 H2=>qa0 (capS ix σ) σ2/\tt σ2 H2 λb H3=>
   if b=true then te σ2 H3 λv H4=>∃ys,H4 D=some (.lst ys)/\ys.length<sizeLine/\N (upd H4 D (.lst (ys++[v]))) else N H3))
  (fin:∀H' s',Inv (qa6 X M scope C fp s2 H2) [] (capS ix σ) H' s'->QD H'->R (.ok .next) s') :
  codeAny (model X.prog X.w) X.A (.compLoop (.ListComp elt [⟨tg,iter,ifs,0⟩] scope pos) 0 (.ref it) (.ref D) (compEnvC scope (clOf X.env.cells scope.names []) C X.env)) R s4:=by
 have stat:∀{H':Hp},(∀b∈fp,H' b=none)->∀b∈fp,FpOk (qa6 X M scope C fp s2 H2) [] H' b:=λ{H'} hn b hb=>
  ⟨hn b hb,(I4.ok.exf b hb).1,I4.ok.exfs b hb,.inl hb,(I4.ok.exf b hb).2,by intro p hp;cases hp⟩
 refine codeAny_loop rfl (λn s'=>∃i H',Inv (qa6 X M scope C fp s2 H2) [] (capS ix σ) H' s'/\tn i s'.heap/\(∀b∈fp,H' b=none)/\W i n H') ?_ m0 ⟨0,H4,I4,st4,fr4,w0⟩
 rintro n s5 ⟨i,H5,I5,st5,fr5,w5⟩
 show wpAny (model X.prog X.w) X.A ((compTurn (.ListComp elt [⟨tg,iter,ifs,0⟩] scope pos) 0 (.ref it) (.ref D) (compEnvC scope (clOf X.env.cells scope.names []) C X.env)).onRaise (λx=>do noteFrame x (compEnvC scope (clOf X.env.cells scope.names []) C X.env);theTreesLotGoes x)) _ _ s5
 refine wpAny_noted ?_
 rw[compTurn_list]
 refine wpAny_bind (wpAny_standAt (wpAny_bind ?_))
 rcases turn i n H5 w5 with ⟨stop,qn⟩|⟨go,N,hN,step⟩
 ·refine thn (T.done (qa6 X M scope C fp s2 H2) rfl rfl rfl hc i [] s5 (capS ix σ) H5 _ I5 (stat fr5) st5 stop) λr s6 ⟨hr,I6⟩=>?_
  subst hr
  exact wpAny_pure (fin H5 s6 I6 qn)
 ·refine thn (T.item (qa6 X M scope C fp s2 H2) rfl rfl rfl hc i [] s5 (capS ix σ) H5 _ I5 (stat fr5) st5 go) λr s6 ⟨u,hr,h6⟩=>?_
  subst hr
  refine wpAny_bind (thn h6 λ_ s7 ⟨x,H7,I7,r7,y7,st7,fr7⟩=>?_)
  have I7':=I7.pinned (stat fr7) (T.obj _ _ st7)
  refine wpAny_bind (wpAny_mono (hg _ s7 (capS ix σ) H7 x u _ I7' r7 (step x H7 y7)) (λ_ s8 ⟨σ8,H8,I8,k8,q8⟩=>?_) λ_ _ z=>False.elim z)
  refine wpAny_bind (wpAny_mono (ht _ s8 σ8 H8 _ I8 q8) (λok s9 ⟨H9,I9,q9⟩=>?_) λ_ _ z=>False.elim z)
  have again:∀{Ha:Hp}{sa:Shared},Inv (qa6 X M scope C fp s2 H2) ([]++yim fp s7.heap) σ8 Ha sa->N Ha->∃m,m<n/\∃i H',Inv (qa6 X M scope C fp s2 H2) [] (capS ix σ) H' sa/\tn i sa.heap/\(∀b∈fp,H' b=none)/\W i m H':=λ{Ha sa} Ia na=>by
   obtain ⟨m',hm,wa⟩:=hN Ha na
   refine ⟨m',hm,i+1,Ha,Ia.unpinned.weak k8.1.symm k8.2,T.keep _ _ _ st7 λb hb o e=>(Ia.pin (b,o) (mem_append_right _ (mem_append_right _ (ydi hb e)))).1,λb hb=>?_,wa⟩
   obtain ⟨o,e,d⟩:=T.obj _ _ st7 b hb
   exact (Ia.pin (b,o) (mem_append_right _ (mem_append_right _ (ydi hb e)))).2.1
  cases ok with
  |false=>exact wpAny_pure ⟨rfl,again I9 q9⟩
  |true=>
   refine wpAny_bind (wpAny_bind (wpAny_mono (he _ s9 σ8 H9 _ I9 q9) (λxv s10 ⟨v,H10,I10,r10,ys,hD,hl,q10⟩=>?_) λ_ _ z=>False.elim z))
   refine wpAny_bind (wpAny_mono (ya1 (X:=qa6 X M scope C fp s2 H2) _ s10 σ8 H10 (.ref D) [v] (.ref D) [xv] (λ_ H'=>N H') I10 rfl (.cons r10 .nil) ⟨D,ys,v,rfl,rfl,hD,hl,q10⟩) (λ_ s11 ⟨_,H11,I11,_,q11⟩=>?_) λ_ _ z=>False.elim z)
   exact wpAny_pure (wpAny_pure ⟨rfl,again I11 q11⟩)
theorem ygt{pins:List (Addr×Obj)}{σ:St}{H2:Hp}{s2:Shared}{fp:List Addr}{it:Addr}{tn:Nat->Heap->Prop}{J:It}{E:Value->Shared->Prop}{QD:Addr->Hp->Prop}{RR:Value->Addr->Result->Shared->Prop}(I2:Inv X pins σ H2 s2)(hc:X.calm=true)
  (ck:CompOk X.N M ix scope X.env.scope) (f2:∀b∈fp,FpOk X pins H2 b) (T:Turn X.prog X.w X.K tg J fp it tn) (st2:tn 0 s2.heap)
  (hg:∀C fp s2 H2,PG (qa6 X M scope C fp s2 H2) tg g) (ht:∀C fp s2 H2,PTs (qa6 X M scope C fp s2 H2) ifs tt) (he:∀C fp s2 H2,PE (qa6 X M scope C fp s2 H2) elt te)
  (rd:∀D,H2 D=none->∃W:Nat->Nat->Hp->Prop,(∃m,W 0 m (upd H2 D (.lst [])))/\∀i m H,W i m H->
   (J.stop i H/\QD D H)\/(J.go i H/\∃N:Hp->Prop,(∀H',N H'->∃m',m' < m/\W (i+1) m' H')/\∀x H',J.yld i H x H'->g x (capS ix σ) H' λσ2 H2=>qa0 (capS ix σ) σ2/\tt σ2 H2 λb H3=>
    if b=true then te σ2 H3 λv H4=>∃ys,H4 D=some (.lst ys)/\ys.length<sizeLine/\N (upd H4 D (.lst (ys++[v]))) else N H3))
  (fin:∀D C H' s',QD D H'->(∃m,s'.heap.Ns C m)->(∀h2,Heap.SameBut C s'.heap h2->Inv X pins σ H' { s' with heap:=h2 })->FpOk X pins H' C->RR (.ref D) C (.ok .next) s') :
  wpAny (model X.prog X.w) X.A (newList []) (λacc s3=>wpAny (model X.prog X.w) X.A (newFunctionEnv scope X.env.globals (clOf X.env.cells scope.names []) [] X.env.qual none .none (some X.env)) (λcenv s4=>
   codeAny (model X.prog X.w) X.A (.compStart (.ListComp elt [⟨tg,iter,ifs,0⟩] scope pos) 0 (.ref it) acc { cenv with scope:=relabel scope X.env }) (RR acc cenv.locals) s4) E s3) E s2:=by
 have hfp:∀b∈fp,b<s2.heap.objs.size:=λb hb=>by obtain ⟨o,e,_⟩:=T.obj 0 _ st2 b hb;exact lt_size e
 refine wpAny_newObj_type (wpAny_newFunctionEnv ck.nocell (by intro y hy;simp at hy) (λh1 hn1 hsb1=>?_) ck.kind)
 dsimp only at hn1 hsb1 ⊢
 generalize hP:s2.heap.push { cls:=.type "list",dict:=none,data:=.seq ([]:List Value).toArray }=hh at hn1 hsb1 ⊢
 have hCz:hh.objs.size=s2.heap.objs.size+1:=by rw[<-hP,size_push]
 have hCD:hh.objs.size≠s2.heap.objs.size:=by omega
 have old:∀b o,s2.heap.get? b=some o->h1.get? b=some o:=λb o e=>by
  have hb:b<s2.heap.objs.size:=lt_size e
  exact hsb1.extBut b o (ne_of_lt (by rw[hCz];exact lt_succ_of_lt hb)) (get?_push_of_some _ (hP ▸ get?_push_of_some _ e))
 have hnew:h1.get? s2.heap.objs.size=some { cls:=.type "list",data:=.seq #[] }:=hsb1.extBut _ _ hCD.symm (get?_push_of_some _ (hP ▸ get?_push_size _ rfl))
 obtain ⟨W,⟨m0,w0⟩,turn⟩:=rd s2.heap.objs.size (I2.hok.fresh (le_refl _))
 have I4:=comp_inv (M:=M) (ix:=ix) (scope:=scope) (fp:=fp) (tk:=s2.toks+([]:List (Str×Value)).length) I2 ck (C:=hh.objs.size) (D:=s2.heap.objs.size) (by omega) (le_refl _) hCD f2 hfp old hn1 hnew
 have st4:tn 0 h1:=T.keep _ _ _ st2 λb _ o e=>old b o e
 have fr4:∀b∈fp,upd H2 s2.heap.objs.size (.lst []) b=none:=λb hb=>by rw[yae (ne_of_lt (hfp b hb))];exact (f2 b hb).1
 have lp:codeAny (model X.prog X.w) X.A (.compLoop (.ListComp elt [⟨tg,iter,ifs,0⟩] scope pos) 0 (.ref it) (.ref s2.heap.objs.size) (compEnvC scope (clOf X.env.cells scope.names []) hh.objs.size X.env)) (RR (.ref s2.heap.objs.size) hh.objs.size) { s2 with heap:=h1,toks:=s2.toks+([]:List (Str×Value)).length }:=by
  refine yl6 (QD:=QD s2.heap.objs.size) I2 hc f2 T (hg _ _ _ _) (ht _ _ _ _) (he _ _ _ _) I4 st4 fr4 W m0 w0 turn λH' s' J' q'=>?_
  obtain ⟨m,hm,_⟩:=J'.loc
  exact fin _ _ H' s' q' ⟨m,hm⟩ (λh2 sb=>yli I2 J' f2 sb) (I2.fpOk (by omega) J'.free)
 exact codeAny_compStart_list lp (T.self _ 0 _ _ _ st4 lp)
theorem yb4(hc:X.calm=true)(ck:CompOk X.N M ix scope X.env.scope)(hi:PI X tg iter wi)(hg:∀C fp s2 H2,PG (qa6 X M scope C fp s2 H2) tg g)(ht:∀C fp s2 H2,PTs (qa6 X M scope C fp s2 H2) ifs tt)(he:∀C fp s2 H2,PE (qa6 X M scope C fp s2 H2) elt te)
  (hs:∀x,foldedSetIterable iter X.env x=pure x:=by intro _;rfl):PE X (.ListComp elt [⟨tg,iter,ifs,0⟩] scope pos) (tComp wi ix g tt te):=by
 intro pins s σ H Q I h
 have hfree:∀x∈scope.names,x.2=.free->∃c,X.env.cells.lookup x.1=some c:=λx hx e=>I.ok.has x.1 (ck.fr x hx e)
 rw[eval_ListComp]
 refine wpAny_comprehension_free (use:=none) (cl:=clOf X.env.cells scope.names []) rfl hs (yc5 hfree) ck.kind ck.loc (thn (hi pins s σ H _ I h) λv s1 h1=>thn h1 λitv s2 h2=>?_)
 obtain ⟨it,fp,tn,J,H2,e,I2,T,st2,f2,rd⟩:=h2
 subst e
 refine ygt (QD:=λD H'=>Q (.ref D) H') I2 hc ck f2 T st2 hg ht he rd λD C H' s' q hm hb _=>?_
 obtain ⟨m,hm⟩:=hm
 exact ⟨m,hm,λh2 sb=>⟨.ref D,H',hb h2 sb,rfl,q⟩⟩
def tCompSet(wi:TI)(ix:List (Option Nat))(g:TG)(tt:TT)(te:TE)(i:Nat):TS:=λD σ H=>tComp wi ix g tt te σ H λx H1=>D.nx (σ.set i (some x)) H1
theorem yll{i:Nat}{x:Str}{pos' spos:Pos}(hsw:swapsWith (.ListComp elt [⟨tg,iter,ifs,0⟩] scope pos) (some (.Name x pos')) spos.line X.env=pure true)(hN:X.N.Nodup)(hix:X.N[i]?=some x)(hx:Loc X.env.scope x)
  (hc:X.calm=true) (ck:CompOk X.N M ix scope X.env.scope) (hi:PI X tg iter wi) (hg:∀C fp s2 H2,PG (qa6 X M scope C fp s2 H2) tg g) (ht:∀C fp s2 H2,PTs (qa6 X M scope C fp s2 H2) ifs tt) (he:∀C fp s2 H2,PE (qa6 X M scope C fp s2 H2) elt te)
  (hs:∀x,foldedSetIterable iter X.env x=pure x:=by intro _;rfl) (hf:X.fn x=true\/X.env.scope.names.lookup x=some .local:=by first|exact .inl rfl|exact .inr rfl|assumption) :
  PS X (.Assign [.Name x pos'] (.ListComp elt [⟨tg,iter,ifs,0⟩] scope pos) spos) (tCompSet wi ix g tt te i):=by
 intro pins s σ H D0 I h
 have hfree:∀x∈scope.names,x.2=.free->∃c,X.env.cells.lookup x.1=some c:=λx hx e=>I.ok.has x.1 (ck.fr x hx e)
 rw[exec_Assign_Name_used _ _ _ _ hsw]
 refine wpAny_bind (wpAny_standAt (wpAny_bind ?_))
 show wpAny _ X.A (do let _ <-comprehension (.ListComp elt [⟨tg,iter,ifs,0⟩] scope pos) scope X.env _ (newList []) false (eval iter X.env) (some (assign (.Name x pos') X.env))) _ _ s
 refine wpAny_bind (wpAny_mono (wpAny_comprehension_free (use:=some (assign (.Name x pos') X.env)) (Q:=λ_ s'=>SP X pins D0 .next s') (cl:=clOf X.env.cells scope.names []) rfl hs (yc5 hfree) ck.kind ck.loc
  (thn (hi pins s σ H _ I h) λv s1 h1=>thn h1 λitv s2 h2=>?_)) (λ_ s' hq=>wpAny_pure (wpAny_pure hq)) λ_ _ e=>e)
 obtain ⟨it,fp,tn,J,H2,e,I2,T,st2,f2,rd⟩:=h2
 subst e
 refine ygt (QD:=λD H'=>D0.nx (σ.set i (some (.ref D))) H') I2 hc ck f2 T st2 hg ht he rd λD C H' s' q hm hb fpk=>?_
 obtain ⟨m,hm⟩:=hm
 obtain ⟨g0,g1,g2,g3,g4,g5⟩:=fpk
 have I5:Inv X pins σ H' s':=hb s'.heap ⟨rfl,λ_ _=>rfl⟩
 show wpAny (model X.prog X.w) X.A (assign (.Name x pos') X.env (.ref D)) _ _ s'
 refine wpAny_assign_Name (yhu (v:=.ref D) I5 hN hix hx rfl (λs6 I6 ⟨a,sb,ha⟩=>?_) hf)
 have hCa:C≠a:=by
  rcases ha with ha|ha
  ·rw[ha];exact g1
  ·exact (g4 x a ha).symm
 refine ⟨m,hm.sameBut sb hCa,λh2 sb2=>⟨_,H',I6.turned (t':=s6.toks) (λb o hb e=>(sb2.2 b hb).trans e) g0 g1 g3 g4 g5,q⟩⟩
end
def FnAt(K:W.Frag)(mg:Str->Option Value)(x:Str)(st:Stmt)(ps:List Str):Prop:=∃f fd,mg x=some (.ref f)/\Fun K x x st f fd/\qef K fd ps []
def Has(P:Program)(w:World)(K:W.Frag)(mg:Str->Option Value)(base:Heap)(k:Nat)(x:Str)(ps:List Str)(sp:Sp):Prop:=
 ∃f fd,mg x=some (.ref f)/\W.keepIn K (.ref f)=true/\qef K fd ps []/\FnOk P w K mg base CX0 k f fd ps sp
section
variable {P:Program}{w:World}{K:W.Frag}{mg:Str->Option Value}{base:Heap}
theorem Has.of{x:Str}{st:Stmt}{ps N:List Str}{k:Nat}{sp:Sp}(F:FnAt K mg x st ps)(S:FnScope N ps (yac st))(len:∀vs H Q E,sp vs H Q E->vs.length=ps.length)
  (hbody:∀(f:Addr) (cdv:Value) (A:Around) (outer:List Env) (s:Shared) (H:Hp) (vs:List V) (Q:VK) (E:XK),Room k (A.deeper (envOfC x (yac st) s.heap.objs.size f cdv))->sp vs H Q E->
   ∃t,PSs (cxOf CX0 P w K mg base N x (yac st) f cdv A outer s H E).nox (yar st) t/\t { nx:=λ_ H'=>Q .non H',rt:=Q } (start N vs) H):Has P w K mg base (k+1) x ps sp:=by
 obtain ⟨f,fd,h1,h2,h3⟩:=F
 exact ⟨f,fd,h1,h2.kp,h3,h2.ok S len λcdv A outer s H vs Q E hr h=>hbody f cdv A outer s H vs Q E hr h⟩
end
section
variable {X:Cx}
theorem yag{k m:Nat}{x:Str}{ps:List Str}{sp:Sp}{e:Expr}{es:List Expr}{t:TA}{p pos:Pos}(h:Has X.prog X.w X.K X.mg X.base k x ps sp)(hr:Room m X.A)(ha:PA X (e::es) t)(hk:k<=m:=by decide)(hg:Gl X x:=by rfl)
  (hdb:(x == ("__debug__" : Str))=false:=by decide) (he:starEach (e::es) X.env=(false,eval e X.env)::starEach es X.env:=by rfl) (hpl:(backTo pos (starEach es X.env)).any (·.1)=false:=by rfl) :
  PE X (.Call (.Name x p) (e::es) [] pos) (tCall sp [] E0 t):=by
 obtain ⟨f,fd,h1,h2,h3,h4⟩:=h
 exact pe_call h4 (hr.mono hk) hg h1 h2 h3 .nil pass0 ha hdb he hpl
def qg7:List Str:=["len","abs","max","min","repr","isinstance","int","bool","str","tuple","list","dict","range","enumerate","sorted","sum"]
structure Bl(mg:Str->Option Value):Prop where
 all:∀x∈qg7,mg x=none
theorem Bl.of{mg:Str->Option Value}(B:Bl mg){x:Str}(h:qg7.contains x=true):mg x=none:=B.all x (by simpa using h)
def GTup(K:W.Frag)(mg:Str->Option Value)(x:Str)(xs:List V):Prop:=∃a,mg x=some (.ref a)/\∀H,SqT K H a xs
theorem qhi{K:W.Frag}{mg:Str->Option Value}{x:Str}{a:Addr}{xs:List V}{od:Option Addr}{its:Array Value}{n:Nat}{sl:Array (Option Value)}(h1:mg x=some (.ref a))(h2:K.lookup a=some ⟨.type "tuple",od,.seq its n,sl⟩)
  (h3:its.size<=sizeLine) (h4:Vals xs its.toList):GTup K mg x xs:=⟨a,h1,λH=>.inr ⟨_,its,n,h2,rfl,rfl,h3,h4⟩⟩
def tGT(K:W.Frag)(xs:List V):TE:=λ_ H Q=>∀a,(∀H',SqT K H' a xs)->Q (.ref a) H
theorem yhc{x:Str}{xs:List V}{pos:Pos}(h:GTup X.K X.mg x xs)(hg:Gl X x:=by rfl)(hd:(x == ("__debug__" : Str))=false:=by decide):PE X (.Name x pos) (tGT X.K xs):=by
 obtain ⟨a,h1,h2⟩:=h
 exact λpins s σ H Q I q=>yfz (v:=.ref a) hg h1 rfl hd pins s σ H Q I (q a h2)
theorem yd1{x:Str}{i:Int}{pos:Pos}(h:∃t,X.mg x=some (.int i t))(hg:Gl X x:=by rfl)(hd:(x == ("__debug__" : Str))=false:=by decide):PE X (.Name x pos) (tC (.int i)):=by
 obtain ⟨t,h1⟩:=h
 exact yfz (v:=.int i) hg h1 ⟨t,rfl⟩ hd
def rIsi(K:W.Frag):List V->Hp->VK->Prop:=λxs H Q=>∃x T t b,xs=[x,.ty T]/\TyOf K H x t/\W.kitOne K t (.type T)=some b/\Q (.bl b) H
theorem ybi:yb6 X (.builtin "isinstance") (rIsi X.K):=by
 intro pins s σ H xs us Q I r h
 obtain ⟨x,T,t,b,rfl,ht,hk,q⟩:=h
 cases r with
 |cons r rr=>
  cases rr with
  |cons r' rr=>
   cases rr
   cases r'
   exact qlv I r ht hk λtk=>⟨.bl b,H,I.tok _,rfl,q⟩
end
def tCut(t u:TS):TS:=λD σ H=>∃R:St->Hp->Prop,t { D with nx:=R } σ H/\∀σ' H',R σ' H'->u D σ' H'
theorem pss_cut{X:Cx}{st:Stmt}{rest:List Stmt}{t u:TS}(h1:PS X st t)(h2:PSs X rest u):PSs X (st::rest) (tCut t u):=by
 intro pins s σ H D I h
 obtain ⟨R,h,hR⟩:=h
 refine wpAny_execs_cons (thn (h1 pins s σ H { D with nx:=R } I h) λf s1 q=>?_)
 cases f with
 |next=>
  obtain ⟨σ',H',I',q⟩:=q
  exact h2 pins s1 σ' H' D I' (hR σ' H' q)
 |ret v=>exact q
 |brk=>exact q
 |cont=>exact q
def tMid(t:TE):TE:=λσ H Q=>∃R:VK,t σ H R/\∀v H',R v H'->Q v H'
theorem pe_mid{X:Cx}{e:Expr}{t:TE}(h:PE X e t):PE X e (tMid t):=by
 intro pins s σ H Q I hw
 obtain ⟨R,h1,h2⟩:=hw
 exact thn (h pins s σ H R I h1) λu s1 ⟨v,H1,I1,r,q⟩=>⟨v,H1,I1,r,h2 v H1 q⟩
theorem Same.upd{H H1:Hp}{p:Addr}{o:HO}(s:Same H H1)(h:H1 p=none):Same H (upd H1 p o):=λb u e=>by
 have e1:=s b u e
 rw[yae (yab e1 h)];exact e1
theorem Same.at{H H1:Hp}{p:Addr}{o:HO}(s:Same H H1)(h:H p=none):Same H (L2.upd H1 p o):=λb u e=>by
 rw[yae (yab e h)];exact s b u e
theorem At.tupEq{H:Hp}{v:V}{ds:List PyData}(h:At H v (.tuple ds)):∃a vs,v=.ref a/\H a=some (.tup vs)/\AtAll H vs ds:=by
 cases h with
 |tup e t=>exact ⟨_,_,rfl,e,t⟩
theorem At.lstEq{H:Hp}{v:V}{ds:List PyData}(h:At H v (.list ds)):∃a vs,v=.ref a/\H a=some (.lst vs)/\AtAll H vs ds:=by
 cases h with
 |lst e t=>exact ⟨_,_,rfl,e,t⟩
theorem At.strEq{H:Hp}{v:V}{x:Str}(h:At H v (.str x)):v=.str x:=by cases h;rfl
theorem At.intEq{H:Hp}{v:V}{x:Int}(h:At H v (.int x)):v=.int x:=by cases h;rfl
def yb7(H:Hp)(L:List Addr):Hp:=λb=>if b∈L then none else H b
theorem qba(H:Hp)(L:List Addr):Same (yb7 H L) H:=λb o e=>by
 unfold yb7 at e
 split at e
 ·cases e
 ·exact e
theorem qfr{H:Hp}{L:List Addr}{b:Addr}(h:b∉L):yb7 H L b=H b:=by unfold yb7;rw[if_neg h]
theorem ybn{H H':Hp}(s:Same H H')(L:List Addr):Same (yb7 H L) (yb7 H' L):=λb o e=>by
 unfold yb7 at e ⊢
 split at e
 ·cases e
 ·rename_i h;rw[if_neg h];exact s b o e
theorem qd3{n:Nat}(h:n<=100000):n<=sizeLine:=le_trans h (by decide)
theorem qa8{n:Nat}(h:n<=100000):n<sizeLine:=Nat.lt_of_le_of_lt h (by decide)
theorem yaf{α:Type}{xs:List α}{i:Int}{v:α}(j:Nat)(h:xs[j]?=some v)(e:i=(j:Int):=by rfl):atI xs i=some v:=by
 rw[e];exact qb2 h
theorem atI_int{α:Type}{xs:List α}{i:Int}{v:α}(h0:0<=i)(h:xs[i.toNat]?=some v):atI xs i=some v:=by
 have e:((i.toNat:Nat):Int)=i:=Int.toNat_of_nonneg h0
 rw[<-e];exact qb2 h
theorem qb4{J:It}{n:Nat}{g:TG}{tt:TT}{te:TE}{ix:List (Option Nat)}{σ:St}{H:Hp}{QD:Hp->Prop}{D:Addr}(Pv:Nat->Hp->Prop)(h0:Pv 0 (upd H D (.lst [])))(stop:∀H',Pv n H'->J.stop n H'/\QD H')
  (step:∀i H',i<n->Pv i H'->J.go i H'/\∀x H2,J.yld i H' x H2->g x (capS ix σ) H2 λσ2 H3=>qa0 (capS ix σ) σ2/\tt σ2 H3 λb H4=>
   if b=true then te σ2 H4 λv H5=>∃ys,H5 D=some (.lst ys)/\ys.length<sizeLine/\Pv (i+1) (upd H5 D (.lst (ys++[v]))) else Pv (i+1) H4) :
  ∃W:Nat->Nat->Hp->Prop,(∃m,W 0 m (upd H D (.lst [])))/\∀i m H,W i m H->
   (J.stop i H/\QD H)\/(J.go i H/\∃N:Hp->Prop,(∀H',N H'->∃m',m' < m/\W (i+1) m' H')/\∀x H',J.yld i H x H'->g x (capS ix σ) H' λσ2 H2=>qa0 (capS ix σ) σ2/\tt σ2 H2 λb H3=>
    if b=true then te σ2 H3 λv H4=>∃ys,H4 D=some (.lst ys)/\ys.length<sizeLine/\N (upd H4 D (.lst (ys++[v]))) else N H3):=by
 refine ⟨λi m H=>m=n-i/\i<=n/\Pv i H,⟨n,by simp,zero_le _,h0⟩,?_⟩
 rintro i m H ⟨rfl,hi,p⟩
 by_cases hlt:i<n
 ·obtain ⟨g1,g2⟩:=step i H hlt p
  exact .inr ⟨g1,Pv (i+1),λH' p'=>⟨n-(i+1),by omega,rfl,hlt,p'⟩,g2⟩
 ·have e:i=n:=by omega
  subst e
  exact .inl (stop H p)
theorem cut_take{xs:List V}(k:Nat):cutV xs none (some (k:Int))=xs.take k:=by
 unfold cutV
 rw[HT.sIx_none,HT.sIx_nat,List.drop_zero,Nat.sub_zero]
 by_cases h:k<=xs.length
 ·rw[Nat.min_eq_left h]
 ·rw[Nat.min_eq_right (by omega),take_length,take_of_length_le (by omega)]
theorem yj0{xs:List V}(k:Nat):cutV xs (some (k:Int)) none=xs.drop k:=by
 unfold cutV
 rw[HT.sIx_none,HT.sIx_nat]
 by_cases h:k<=xs.length
 ·rw[Nat.min_eq_left h]
  exact take_of_length_le (by rw[List.length_drop];exact le_refl _)
 ·rw[Nat.min_eq_right (by omega),List.drop_eq_nil_of_le (show xs.length<=k by omega),List.drop_length];simp
theorem yes{σ:St}{H:Hp}{A B:Hp->Prop}(h:A H):tYes σ H λb H'=>if b=true then A H' else B H':=iteT (B:=B H) h
section
variable {X:Cx}{K:W.Frag}
theorem ix_tupK(h:X.K=K):IxR X (rIxT K):=h ▸ yal
theorem qfw{es:List Expr}{k:Nat}{t:TGs}{n:Nat}{pos:Pos}(h:X.K=K)(hc:X.calm=true)(hh:PGs X es t)
  (hn:(assignEach es X.env).length=n:=by rfl) (hst:(assignEach es X.env).findIdx? (·.1)=none:=by rfl):PG X (.Tuple es k pos) (gTup K n t):=by
 subst h;exact ydo hc hh hn hst
end
def rEqD:R2:=λx y H Q=>∃dx dy,At H x dx/\At H y dy/\dx.canLay0=true/\dy.canLay0=true/\dx.depth<=60/\Q (.bl (PyData.eqv dx dy)) H
def rNeD:R2:=λx y H Q=>∃dx dy,At H x dx/\At H y dy/\dx.canLay0=true/\dy.canLay0=true/\dx.depth<=60/\Q (.bl (!PyData.eqv dx dy)) H
section
variable {X:Cx}
theorem op_eqD{k:Nat}(hr:Room k X.A):OpR X (compareOp .Eq) rEqD:=by
 intro pins s σ H x y v u Q I rx ry h
 obtain ⟨dx,dy,h1,h2,c1,c2,hd,q⟩:=h
 obtain ⟨as,r1⟩:=h1.reads I.hok rx
 obtain ⟨bs,r2⟩:=h2.reads I.hok ry
 have hu:=hr.units
 exact PySem.SeqAt.rcAt_reads r1 r2 c1 c2 (by have:=Nat.min_le_left dx.depth dy.depth;omega) _ _ _ _ ⟨.bl _,H,I,rfl,q⟩
theorem op_neD{k:Nat}(hr:Room k X.A):OpR X (compareOp .NotEq) rNeD:=by
 intro pins s σ H x y v u Q I rx ry h
 obtain ⟨dx,dy,h1,h2,c1,c2,hd,q⟩:=h
 obtain ⟨as,r1⟩:=h1.reads I.hok rx
 obtain ⟨bs,r2⟩:=h2.reads I.hok ry
 have hu:=hr.units
 exact PySem.SeqAt.rcNeAt_reads r1 r2 c1 c2 (by have:=Nat.min_le_left dx.depth dy.depth;omega) _ _ _ _ ⟨.bl _,H,I,rfl,q⟩
end
theorem yfs{n:Nat}:∀{xs:List PyData},(∀x∈xs,x.depth<=n)->PyData.depthAll xs<=n
 |[],_=>by simp[PyData.depthAll]
 |x::xs,h=>by
  have h1:=h x mem_cons_self
  have h2:=yfs (xs:=xs) λy hy=>h y (mem_cons_of_mem _ hy)
  simp only[PyData.depthAll]
  omega
theorem Vals.bls:∀{bs:List Bool}{us:List Value},Vals (bs.map V.bl) us->us=bs.map Value.bool
 |[],_,.nil=>rfl
 |b::bs,_,.cons r t=>by
  have e:=Vals.bls t
  cases r
  rw[e]
  rfl
end L2
namespace Mx
open PySem L2 PyProof.Rows
section
variable {X:Cx}{es:List Expr}{te:TE}{t:TA}{pos:Pos}
theorem pa_cs{k:Const}{j}(ha:PE X (.Constant k j pos) te)(hr:PA X es t):PA X (.Constant k j pos::es) (qdm te t):=yaa ha hr rfl
theorem ybt{x:Str}(ha:PE X (.Name x pos) te)(hr:PA X es t):PA X (.Name x pos::es) (qdm te t):=yaa ha hr rfl
theorem pa_cl{f xs ks}(ha:PE X (.Call f xs ks pos) te)(hr:PA X es t):PA X (.Call f xs ks pos::es) (qdm te t):=yaa ha hr rfl
def qjt:List Expr->Option (List Str)
 |[]=>some []
 |.Constant (.str x) _ _::r=>(qjt r).map (x :: ·)
 |_=>none
theorem qk6{X:Cx}:∀{es:List Expr}{xs:List Str},qjt es=some xs->PA X es (λ_ H Q=>Q (xs.map V.str) H)
 |[],xs,h=>by
  cases h
  exact qad
 |.Constant (.str x) j p::r,xs,h=>by
  rw[qjt]at h
  obtain ⟨ys,hy,rfl⟩:=Option.map_eq_some_iff.mp h
  exact pa_cs yan (qk6 hy)
end
structure QS(X:Cx)(st:Stmt)(t:TS):Prop where
 of:PS X st t
structure QSs(X:Cx)(ss:List Stmt)(t:TS):Prop where
 of:PSs X ss t
section
variable {X:Cx}{st:Stmt}{rest a b:List Stmt}{t u:TS}{pos:Pos}{e:Expr}{te:TE}
theorem ya3:QSs X [] tNext:=⟨yaq⟩
theorem qag(h:QS X st t):QSs X [st] t:=⟨qaf h.of⟩
theorem qae(h:QS X st t)(r:QSs X rest u):QSs X (st::rest) (tSeq t u):=⟨yai h.of r.of⟩
theorem yl3(h:QS X st t)(r:QSs X rest u):QSs X (st::rest) (tCut t u):=⟨pss_cut h.of r.of⟩
theorem ygc(h:PS X st t):QS X st t:=⟨h⟩
end
end Mx
namespace L2
open PySem PySem.Spec PyProof.Rows PyProof.Rows.KTD
def TabK(K:W.Frag)(a:Addr)(D:List (Str×List V)):Prop:=
 (a == sysModules)=false/\∃o es ep,K.lookup a=some o/\o.ExactDict/\o.data=.dict es ep/\KTD.Rows (λxs v=>∃p,v=.ref p/\∀H,SqT K H p xs) es.toList D
section
variable {prog:Program}{w:World}{A:Around}{E:Value->Shared->Prop}{s:Shared}{a:Addr}{k:Str}{tk:Tok}{o:Obj}{es:Array DictEntry}{ep:Nat}
theorem qfu{Q:Option Value->Shared->Prop}(g:s.heap.get? a=some o)(gd:o.data=.dict es ep)(ge:(es.toList.all λe=>isExactStrKey e.key)=true)
  (q:Q ((es.toList.find? λe=>e.key.isStr k).map (·.val)) { s with toks:=s.toks+1 }):wpAny (model prog w) A (dictGet a (.str k tk)) Q E s:=by
 obtain ⟨l⟩:=es
 have q2:Q (findBy (λk v=>v.isStr k) ⟨l⟩ k) { s with toks:=s.toks+1 }:=by
  rw[show findBy (λk v=>v.isStr k) (⟨l⟩:Array DictEntry) k=(l.find? λe=>e.key.isStr k).map (·.val) by simp[findBy]]
  exact q
 unfold dictGet
 try with_reducible refine wpAny_holding ?_
 refine wpAny_bind (wpAny_pyHash_str ?_)
 refine wpAny_bind ?_
 refine kt_dictFind_strs (s:={ s with toks:=s.toks+1 }) g gd (by simpa using ge) ?_
 rw[findBy_of_findIdx?]at q2
 revert q2
 cases (⟨l⟩:Array DictEntry).findIdx? λe=>e.key.isStr k with
 |none=>intro q2;exact wpAny_pure q2
 |some i=>intro q2;refine wpAny_bind ?_;exact wpAny_dictEntries (s:={ s with toks:=s.toks+1 }) g gd (wpAny_pure q2)
end
section
variable {X:Cx}{pins:List (Addr×Obj)}{σ:St}{H:Hp}{s:Shared}{a:Addr}{D:List (Str×List V)}
theorem TabK.dict(I:Inv X pins σ H s)(T:TabK X.K a D):s.TypeIs (.ref a) "dict"/\∀b,Value.ref a=.ref b->∃ob,s.heap.get? b=some ob/\ob.dict=none:=by
 obtain ⟨_,o,es,ep,hl,hx,hd,hr⟩:=T
 refine ⟨⟨o,I.kIn a o hl,hx.1⟩,λb e=>?_⟩
 cases e
 exact ⟨o,I.kIn a o hl,hx.2.1⟩
theorem TabK.ask{k:Str}{tk:Tok}{E:Value->Shared->Prop}{A:Around}{Q:Option Value->Shared->Prop}(I:Inv X pins σ H s)(T:TabK X.K a D)
  (h1:∀xs p,datumAt k D=some xs->(∀H,SqT X.K H p xs)->Q (some (.ref p)) { s with toks:=s.toks+1 }) (h2:datumAt k D=none->Q none { s with toks:=s.toks+1 }):wpAny (model X.prog X.w) A (dictGet a (.str k tk)) Q E s:=by
 obtain ⟨_,o,es,ep,hl,hx,hd,hr⟩:=T
 refine qfu (I.kIn a o hl) hd hr.exact ?_
 cases hat:datumAt k D with
 |some xs=>
  obtain ⟨v,hv,p,rfl,hp⟩:=hr.find_some hat
  rw[hv]
  exact h1 xs p hat hp
 |none=>rw[hr.find_none hat];exact h2 hat
def rIxTab(K:W.Frag)(D:List (Str×List V)):R2:=λx y H Q=>∃a k xs,x=.ref a/\y=.str k/\TabK K a D/\datumAt k D=some xs/\∀p,(∀H,SqT K H p xs)->Q (.ref p) H
theorem ix_tab:IxR X (rIxTab X.K D):=by
 intro value slice pins s σ H x y v u Q I rx ry h hs
 obtain ⟨a,k,xs,rfl,rfl,T,hd,q⟩:=h
 cases rx
 obtain ⟨tk,rfl⟩:=ry
 obtain ⟨hsm,o,es,ep,hl,hx,hd2,hr⟩:=id T
 obtain ⟨v,hv,p,rfl,hp⟩:=hr.find_some hd
 have fin:EP X pins σ Q (.ref p) { s with toks:=s.toks+1 }:=⟨.ref p,H,I.tok _,rfl,q p hp⟩
 refine subscriptTail_builtinR (x:=.ref p) (T.dict I).1 slot_dict_getitem.lookup ?_ hs
 unfold getItem
 try with_reducible refine wpAny_holding ?_
 refine wpAny_bind (wpAny_sequenceKey (T.dict I).1 (by decide) ?_)
 refine wpAny_bind (wpAny_callSpecial?_slot (name:=Str.ofString "__getitem__") (T.dict I).1 slot_dict_getitem (wpAny_call_entry slot_dict_getitem (T.dict I).1 entry_dict_getitem ?_ (args_dict_getitem _ _)))
 show wpAny _ _ (dictGet a (.str k tk) >>= _) _ _ _
 refine wpAny_bind (qfu (I.kIn a o hl) hd2 hr.exact ?_)
 rw[hv]
 exact wpAny_pure ⟨_,rfl,wpAny_pure ⟨rfl,fin⟩⟩
def rInTab(K:W.Frag)(D:List (Str×List V)):R2:=λx y H Q=>∃a k,x=.str k/\y=.ref a/\TabK K a D/\Q (.bl (inKeys k D)) H
theorem op_inTab:OpR X (compareOp .In) (rInTab X.K D):=by
 intro pins s σ H x y v u Q I rx ry h
 obtain ⟨a,k,rfl,rfl,T,q⟩:=h
 cases ry
 obtain ⟨tk,rfl⟩:=rx
 show wpAny _ _ (contains (.ref a) (.str k tk) >>= λc=>pure (Value.bool c)) _ _ s
 refine wpAny_bind ?_
 unfold contains
 try with_reducible refine wpAny_holding ?_
 refine wpAny_bind (wpAny_specialOf (T.dict I).1 slot_dict_contains.lookup ?_)
 show wpAny _ _ (if (some (Value.builtin "dict.__contains__") == some Value.none)=true then _ else _) _ _ s
 rw[if_neg (by rw[beq_builtin_none];exact Bool.false_ne_true)]
 refine wpAny_bind (wpAny_callSpecialUnlessNone?_slot (name:=Str.ofString "__contains__") (T.dict I).1 slot_dict_contains (wpAny_call_entry slot_dict_contains (T.dict I).1 entry_dict_contains ?_ (args_dict_contains _ _)))
 show wpAny _ _ (dictGet a (.str k tk) >>= _) _ _ _
 refine wpAny_bind (T.ask I (λxs p hd hp=>?_) λhn=>?_)
 ·have e:inKeys k D=true:=by rw[<-isSome_datumAt,hd];rfl
  rw[e]at q
  show wpAny _ _ (ret (.bool true)) _ _ _
  exact wpAny_pure ⟨_,rfl,wpAny_truthy_bool (wpAny_pure ⟨.bl true,H,I.tok _,rfl,q⟩)⟩
 ·have e:inKeys k D=false:=by rw[<-isSome_datumAt,hn];rfl
  rw[e]at q
  show wpAny _ _ (Builtin.Dict.pendingKey? a (.str k tk) >>= _) _ _ _
  exact wpAny_bind (wpAny_pendingKey_other T.1 (wpAny_pure ⟨_,rfl,wpAny_truthy_bool (wpAny_pure ⟨.bl false,H,I.tok _,rfl,q⟩)⟩))
end
end L2
namespace L2
open PySem PySem.Spec PyProof.Rows
section
variable {X:Cx}
theorem Vals.back:∀{xs:List V}{us:List Value},Vals xs us->∀u∈us,∃v∈xs,RelV v u
 |_,_,.nil,u,h=>nomatch h
 |x::xs,_,.cons r t,u,h=>by
  rcases mem_cons.mp h with rfl|h
  ·exact ⟨x,mem_cons_self ..,r⟩
  ·obtain ⟨v,hv,rv⟩:=Vals.back t u h
   exact ⟨v,mem_cons_of_mem _ hv,rv⟩
end
open Builtin.SmallTypes (nextOf)
def SIt(h:Heap)(tp:Bool)(q l:Addr)(i:Nat):Prop:=if tp then IsTupIter h q l i else h.IsListIter q l i
def SOf(h:Heap)(tp:Bool)(l:Addr)(its:Array Value):Prop:=if tp then IsTup h l its else h.IsList l its
section
variable {prog:Program}{w:World}{A:Around}{E:Value->Shared->Prop}{s:Shared}{q l:Addr}{i:Nat}{its:Array Value}
theorem SIt.at{h h':Heap}{tp:Bool}(x:SIt h tp q l i)(k:∀o,h.get? q=some o->h'.get? q=some o):SIt h' tp q l i:=by
 cases tp with
 |true=>obtain ⟨o,g,r⟩:=x;exact ⟨o,k o g,r⟩
 |false=>obtain ⟨o,g,r⟩:=x;exact ⟨o,k o g,r⟩
theorem SIt.obj{h:Heap}{tp:Bool}(x:SIt h tp q l i):∃o,h.get? q=some o/\∀v,o.data≠.cell v:=by
 cases tp with
 |true=>obtain ⟨o,g,c,d⟩:=x;exact ⟨o,g,λv z=>by rw[d]at z;cases z⟩
 |false=>obtain ⟨o,g,c,d⟩:=x;exact ⟨o,g,λv z=>by rw[d]at z;cases z⟩
theorem SOf.at{h h':Heap}{tp:Bool}(x:SOf h tp l its)(k:∀o,h.get? l=some o->h'.get? l=some o):SOf h' tp l its:=by
 cases tp with
 |true=>obtain ⟨o,g,r⟩:=x;exact ⟨o,k o g,r⟩
 |false=>obtain ⟨o,g,r⟩:=x;exact ⟨o,k o g,r⟩
theorem ydy{tp:Bool}{x:Value}{Q:Value->Shared->Prop}(hq:SIt s.heap tp q l i)(hl:SOf s.heap tp l its)(hx:its[i]?=some x)
  (k:∀h',SIt h' tp q l (i+1)->Heap.SameBut q s.heap h'->Q x { s with heap:=h' }):wpAny (model prog w) A (nextOf (.ref q)) Q E s:=by
 cases tp with
 |false=>exact wpAny_nextOf_list_item hq hl hx k
 |true=>
  have hq':IsTupIter s.heap q l i:=hq
  obtain ⟨o,go,gc,gd⟩:=id hq'
  obtain ⟨ol,gl,_,nl,gdl⟩:=(show IsTup s.heap l its from hl)
  unfold Builtin.SmallTypes.nextOf
  refine wpAny_bind (wpAny_callSpecial?_slot (name:=Str.ofString "__next__") hq'.typeIs slot_tupleiter_next (wpAny_call_entry slot_tupleiter_next hq'.typeIs entry_tupleiter_next ?_ (args_tupleiter_next _)))
  show wpAny _ _ (field (.ref q) 0 >>= _) _ _ s
  refine wpAny_bind (wpAny_field go gd (x:=.ref l) rfl ?_)
  show wpAny _ _ (if (Value.ref l == Value.none)=true then _ else _) _ _ s
  rw[if_neg (by exact Bool.false_ne_true:¬ ((Value.ref l == Value.none)=true))]
  show wpAny _ _ (field (.ref q) 1 >>= _) _ _ s
  refine wpAny_bind (wpAny_field go gd (x:=.int i 0) rfl ?_)
  show wpAny _ _ (seqItems? (.ref l) >>= _) _ _ s
  refine wpAny_bind (wpAny_seqItems gl gdl ?_)
  simp only[toNat_natCast,hx]
  refine wpAny_bind (wpAny_setField go gd (by simp) (wpAny_pure ⟨x,rfl,?_⟩))
  refine wpAny_pure (k _ ?_ (Heap.SameBut.update ..))
  exact ⟨_,get?_update_self _ go (Obj.isFreed_of_fields (Obj.data_mapFields gd _)),(Obj.cls_mapFields ..).trans gc,by rw[Obj.data_mapFields gd];simp[rawInt]⟩
theorem ygk{tp:Bool}{Q:Value->Shared->Prop}(hh:A.handled=none)(hq:SIt s.heap tp q l i)(hl:SOf s.heap tp l its)(hx:its[i]?=none)
  (k:∀h' e,Heap.ExtBut q s.heap h'->(∃o,h'.get? e=some o/\o.cls=.type "StopIteration")->E (.ref e) { s with heap:=h' }):wpAny (model prog w) A (nextOf (.ref q)) Q E s:=by
 cases tp with
 |false=>exact wpAny_nextOf_list_end hh hq hl hx k
 |true=>
  have hq':IsTupIter s.heap q l i:=hq
  obtain ⟨o,go,gc,gd⟩:=id hq'
  obtain ⟨ol,gl,_,nl,gdl⟩:=(show IsTup s.heap l its from hl)
  unfold Builtin.SmallTypes.nextOf
  refine wpAny_bind (wpAny_callSpecial?_slot (name:=Str.ofString "__next__") hq'.typeIs slot_tupleiter_next (wpAny_call_entry slot_tupleiter_next hq'.typeIs entry_tupleiter_next ?_ (args_tupleiter_next _)))
  show wpAny _ _ (field (.ref q) 0 >>= _) _ _ s
  refine wpAny_bind (wpAny_field go gd (x:=.ref l) rfl ?_)
  show wpAny _ _ (if (Value.ref l == Value.none)=true then _ else _) _ _ s
  rw[if_neg (by exact Bool.false_ne_true:¬ ((Value.ref l == Value.none)=true))]
  show wpAny _ _ (field (.ref q) 1 >>= _) _ _ s
  refine wpAny_bind (wpAny_field go gd (x:=.int i 0) rfl ?_)
  show wpAny _ _ (seqItems? (.ref l) >>= _) _ _ s
  refine wpAny_bind (wpAny_seqItems gl gdl ?_)
  simp only[toNat_natCast,hx]
  refine wpAny_bind (wpAny_rule ?_)
  refine wpAny_bind (wpAny_setField go gd (by simp) ?_)
  show wpAny _ _ (newExc (.type "StopIteration") [] >>= _) _ _ _
  refine wpAny_bind ?_
  simp only[newExc,newTuple]
  refine wpAny_bind (wpAny_newObj_type ?_ (by size_fits))
  refine wpAny_bind (m:=firstArgMember _ _) ?_
  refine wpAny_of_eq (a:=Value.none) (by first|rfl|(simp only[firstArgMember];rfl)) ?_
  refine wpAny_newObj_type ?_ (by size_fits)
  simp only[raiseNew]
  refine wpAny_bind (wpAny_handled ?_)
  first|rw[show A.in1.handled=none from hh]|rw[hh]
  refine wpAny_bind (wpAny_pure (wpAny_throw ?_))
  exact k _ _ (((Heap.SameBut.update ..).extBut.push _).push _) ⟨_,get?_push_size _ rfl,rfl⟩
theorem neN{a b:Nat}(h:a<b\/b<a):a≠b:=by omega
theorem zipNext{n l1 l2 k:Nat}{xs ys:Array Value}{x y a b:Value}{t1 t2:Bool}{Q:Value->Shared->Prop}(b1:l1<n)(b2:l2<n)(gz:IsZip s.heap (n+4) (n+2) (n+3) .none)(gi:IsPair s.heap (n+2) (.ref n) (.ref (n+1)))(go:IsPair s.heap (n+3) a b)
  (q1:SIt s.heap t1 n l1 k) (q2:SIt s.heap t2 (n+1) l2 k) (o1:SOf s.heap t1 l1 xs) (o2:SOf s.heap t2 l2 ys) (hx:xs[k]?=some x) (hy:ys[k]?=some y)
  (kk:∀h',IsZip h' (n+4) (n+2) (n+3) (rawInt s.heap.objs.size)->IsPair h' (n+3) x y->SIt h' t1 n l1 (k+1)->SIt h' t2 (n+1) l2 (k+1)->IsPair h' s.heap.objs.size x y->h'.objs.size=s.heap.objs.size+1->
   (∀c o,c≠n+4->c≠n+3->c≠n->c≠n+1->s.heap.get? c=some o->h'.get? c=some o)->Q (.ref s.heap.objs.size) { s with heap:=h' }) :
  wpAny (model prog w) A (Builtin.«zip.__next__» ⟨[.ref (n+4)],[]⟩) (λfin s'=>∃v,fin=.done (.ret v)/\Q v s') E s:=by
 show wpAny _ _ (field (.ref (n+4)) 2 >>= _) _ _ _
 refine wpAny_bind (wpAny_field gz rfl (x:=.bool false) rfl ?_)
 show wpAny _ _ (field (.ref (n+4)) 3 >>= _) _ _ _
 refine wpAny_bind (wpAny_field gz rfl (x:=.ref (n+2)) rfl ?_)
 refine wpAny_bind (wpAny_seqItems gi rfl ?_)
 show wpAny _ _ (Builtin.SmallTypes.ownedTupleIsFree (.ref (n+4)) >>= _) _ _ _
 refine wpAny_bind ?_
 unfold Builtin.SmallTypes.ownedTupleIsFree
 refine wpAny_bind (wpAny_field gz rfl (x:=.none) rfl ?_)
 refine wpAny_pure ?_
 simp only[if_true]
 refine wpAny_bind (wpAny_rule ?_)
 refine wpAny_bind (wpAny_field gz rfl (x:=.ref (n+3)) rfl ?_)
 refine wpAny_bind (wpAny_setField_rec gz (by simp) λm1 gz1 e1=>?_)
 replace gz1:IsZip m1 (n+4) (n+2) (n+3) .ellipsis:=gz1
 refine wpAny_bind ?_
 simp only[List.zipIdx_cons,List.zipIdx_nil,List.forIn_cons,List.forIn_nil]
 refine wpAny_bind (wpAny_bind ?_)
 refine wpAny_onRaise ?_
 show wpAny _ _ (nextOf (.ref n) >>= _) _ _ _
 refine wpAny_bind (ydy (q1.at λo g=>e1.extBut _ _ (neN (by omega)) g) (o1.at λo g=>e1.extBut _ _ (neN (by omega)) g) hx λm2 r1 e2=>?_)
 refine wpAny_pure ?_
 have go2:IsPair m2 (n+3) a b:=e2.extBut _ _ (neN (by omega)) (e1.extBut _ _ (neN (by omega)) go)
 refine wpAny_bind (wpAny_seqItems go2 rfl ?_)
 refine wpAny_bind (wpAny_updateSeq_pair go2 λm3 go3 e3=>?_)
 replace go3:IsPair m3 (n+3) x b:=go3
 refine wpAny_bind (wpAny_letGo ?_)
 refine wpAny_pure ?_
 refine wpAny_bind (wpAny_bind ?_)
 refine wpAny_onRaise ?_
 show wpAny _ _ (nextOf (.ref (n+1)) >>= _) _ _ _
 refine wpAny_bind (ydy (q2.at λo g=>e3.extBut _ _ (neN (by omega)) (e2.extBut _ _ (neN (by omega)) (e1.extBut _ _ (neN (by omega)) g))) (o2.at λo g=>e3.extBut _ _ (neN (by omega)) (e2.extBut _ _ (neN (by omega)) (e1.extBut _ _ (neN (by omega)) g))) hy λm4 r2 e4=>?_)
 refine wpAny_pure ?_
 have go4:IsPair m4 (n+3) x b:=e4.extBut _ _ (neN (by omega)) go3
 refine wpAny_bind (wpAny_seqItems go4 rfl ?_)
 refine wpAny_bind (wpAny_updateSeq_pair go4 λm5 go5 e5=>?_)
 replace go5:IsPair m5 (n+3) x y:=go5
 refine wpAny_bind (wpAny_letGo ?_)
 refine wpAny_pure (wpAny_pure ?_)
 refine wpAny_bind (wpAny_seqItems go5 rfl ?_)
 refine wpAny_bind (wpAny_newTuple ?_)
 have hsz:m5.objs.size=s.heap.objs.size:=by rw[e5.1,e4.1,e3.1,e2.1,e1.1]
 have gz5:IsZip m5 (n+4) (n+2) (n+3) .ellipsis:=e5.extBut _ _ (neN (by omega)) (e4.extBut _ _ (neN (by omega)) (e3.extBut _ _ (neN (by omega)) (e2.extBut _ _ (neN (by omega)) gz1)))
 have keep5:∀c o,c≠n+4->c≠n+3->c≠n->c≠n+1->s.heap.get? c=some o->m5.get? c=some o:=λc o d1 d2 d3 d4 g=>
  e5.extBut _ _ d2 (e4.extBut _ _ d4 (e3.extBut _ _ d2 (e2.extBut _ _ d3 (e1.extBut _ _ d1 g))))
 have r15:SIt m5 t1 n l1 (k+1):=r1.at λo g=>e5.extBut _ _ (neN (by omega)) (e4.extBut _ _ (neN (by omega)) (e3.extBut _ _ (neN (by omega)) g))
 have r25:SIt m5 t2 (n+1) l2 (k+1):=r2.at λo g=>e5.extBut _ _ (neN (by omega)) g
 have lt5:n+4<m5.objs.size:=lt_size gz5
 show wpAny _ _ (Builtin.SmallTypes.ownedTupleHandOut (.ref (n+4)) (.ref m5.objs.size) >>= _) _ _ _
 refine wpAny_bind ?_
 unfold Builtin.SmallTypes.ownedTupleHandOut
 have gz6:IsZip (m5.push { cls:=.type "tuple",data:=.seq #[x,y] }) (n+4) (n+2) (n+3) .ellipsis:=get?_push_of_some _ gz5
 refine wpAny_bind (wpAny_setField_rec gz6 (by simp) λm7 gz7 e7=>?_)
 replace gz7:IsZip m7 (n+4) (n+2) (n+3) (rawInt m5.objs.size):=gz7
 refine wpAny_setField_rec gz7 (by simp) λm8 gz8 e8=>?_
 replace gz8:IsZip m8 (n+4) (n+2) (n+3) (rawInt m5.objs.size):=gz8
 have up:∀c o,c≠n+4->m5.get? c=some o->m8.get? c=some o:=λc o d1 g=>e8.extBut _ _ d1 (e7.extBut _ _ d1 (get?_push_of_some _ g))
 have gt8:IsPair m8 m5.objs.size x y:=e8.extBut _ _ (ne_of_gt lt5) (e7.extBut _ _ (ne_of_gt lt5) (get?_push_size _ rfl))
 have hs8:m8.objs.size=m5.objs.size+1:=by rw[e8.1,e7.1,size_push]
 rw[hsz]at gz8 gt8 hs8
 refine wpAny_pure ⟨_,rfl,?_⟩
 show Q (.ref m5.objs.size) _
 rw[hsz]
 exact kk m8 gz8 (up _ _ (neN (by omega)) go5) (r15.at λo g=>up _ o (neN (by omega)) g) (r25.at λo g=>up _ o (neN (by omega)) g) gt8 hs8 λc o d1 d2 d3 d4 g=>up c o d1 (keep5 c o d1 d2 d3 d4 g)
theorem zipDone{n l1 l2 k:Nat}{xs ys:Array Value}{a b:Value}{t1 t2:Bool}{Q:Fin->Shared->Prop}(hh:A.handled=none)(b1:l1<n)(b2:l2<n)(gz:IsZip s.heap (n+4) (n+2) (n+3) .none)(gi:IsPair s.heap (n+2) (.ref n) (.ref (n+1)))(go:IsPair s.heap (n+3) a b)
  (q1:SIt s.heap t1 n l1 k) (q2:SIt s.heap t2 (n+1) l2 k) (o1:SOf s.heap t1 l1 xs) (o2:SOf s.heap t2 l2 ys) (hend:xs[k]?=none\/ys[k]?=none)
  (kk:∀h' e,(∀c o,c≠n+4->c≠n+3->c≠n->c≠n+1->s.heap.get? c=some o->h'.get? c=some o)->(∃o,h'.get? e=some o/\o.cls=.type "StopIteration")->E (.ref e) { s with heap:=h' }) :
  wpAny (model prog w) A (Builtin.«zip.__next__» ⟨[.ref (n+4)],[]⟩) Q E s:=by
 show wpAny _ _ (field (.ref (n+4)) 2 >>= _) _ _ _
 refine wpAny_bind (wpAny_field gz rfl (x:=.bool false) rfl ?_)
 show wpAny _ _ (field (.ref (n+4)) 3 >>= _) _ _ _
 refine wpAny_bind (wpAny_field gz rfl (x:=.ref (n+2)) rfl ?_)
 refine wpAny_bind (wpAny_seqItems gi rfl ?_)
 show wpAny _ _ (Builtin.SmallTypes.ownedTupleIsFree (.ref (n+4)) >>= _) _ _ _
 refine wpAny_bind ?_
 unfold Builtin.SmallTypes.ownedTupleIsFree
 refine wpAny_bind (wpAny_field gz rfl (x:=.none) rfl ?_)
 refine wpAny_pure ?_
 simp only[if_true]
 refine wpAny_bind (wpAny_rule ?_)
 refine wpAny_bind (wpAny_field gz rfl (x:=.ref (n+3)) rfl ?_)
 refine wpAny_bind (wpAny_setField_rec gz (by simp) λm1 gz1 e1=>?_)
 replace gz1:IsZip m1 (n+4) (n+2) (n+3) .ellipsis:=gz1
 refine wpAny_bind ?_
 simp only[List.zipIdx_cons,List.zipIdx_nil,List.forIn_cons,List.forIn_nil]
 refine wpAny_bind (wpAny_bind ?_)
 refine wpAny_onRaise ?_
 show wpAny _ _ (nextOf (.ref n) >>= _) _ _ _
 have p1:SIt m1 t1 n l1 k:=q1.at λo g=>e1.extBut _ _ (neN (by omega)) g
 have p2:SOf m1 t1 l1 xs:=o1.at λo g=>e1.extBut _ _ (neN (by omega)) g
 cases hx:xs[k]? with
 |none=>
  refine wpAny_bind (ygk hh p1 p2 hx λm2 e g2 he=>?_)
  obtain ⟨oe,hoe,hce⟩:=he
  have gz2:IsZip m2 (n+4) (n+2) (n+3) .ellipsis:=g2 _ _ (neN (by omega)) gz1
  have ne:e≠n+4:=λz=>by subst z;rw[gz2]at hoe;cases hoe;simp at hce
  refine wpAny_setField_rec gz2 (by simp) λm3 _ e3=>?_
  exact kk m3 e (λc o d1 _ d3 _ g=>e3.extBut _ _ d1 (g2 _ _ d3 (e1.extBut _ _ d1 g))) ⟨oe,e3.extBut _ _ ne hoe,hce⟩
 |some x=>
  have hy:ys[k]?=none:=by
   rcases hend with z|z
   ·rw[hx]at z;cases z
   ·exact z
  refine wpAny_bind (ydy p1 p2 hx λm2 r1 e2=>?_)
  refine wpAny_pure ?_
  have go2:IsPair m2 (n+3) a b:=e2.extBut _ _ (neN (by omega)) (e1.extBut _ _ (neN (by omega)) go)
  refine wpAny_bind (wpAny_seqItems go2 rfl ?_)
  refine wpAny_bind (wpAny_updateSeq_pair go2 λm3 go3 e3=>?_)
  refine wpAny_bind (wpAny_letGo ?_)
  refine wpAny_pure ?_
  refine wpAny_bind (wpAny_bind ?_)
  refine wpAny_onRaise ?_
  show wpAny _ _ (nextOf (.ref (n+1)) >>= _) _ _ _
  refine wpAny_bind (ygk hh (q2.at λo g=>e3.extBut _ _ (neN (by omega)) (e2.extBut _ _ (neN (by omega)) (e1.extBut _ _ (neN (by omega)) g))) (o2.at λo g=>e3.extBut _ _ (neN (by omega)) (e2.extBut _ _ (neN (by omega)) (e1.extBut _ _ (neN (by omega)) g))) hy λm4 e g4 he=>?_)
  obtain ⟨oe,hoe,hce⟩:=he
  have gz4:IsZip m4 (n+4) (n+2) (n+3) .ellipsis:=g4 _ _ (neN (by omega)) (e3.extBut _ _ (neN (by omega)) (e2.extBut _ _ (neN (by omega)) gz1))
  have ne:e≠n+4:=λz=>by subst z;rw[gz4]at hoe;cases hoe;simp at hce
  refine wpAny_setField_rec gz4 (by simp) λm5 _ e5=>?_
  exact kk m5 e (λc o d1 d2 d3 d4 g=>e5.extBut _ _ d1 (g4 _ _ d4 (e3.extBut _ _ d2 (e2.extBut _ _ d3 (e1.extBut _ _ d1 g))))) ⟨oe,e5.extBut _ _ ne hoe,hce⟩
def itN(tp:Bool):String:=if tp then "tuple_iterator" else "list_iterator"
theorem iterS{tp:Bool}{Q:Value->Shared->Prop}(hl:SOf s.heap tp l its)(k:Q (.ref s.heap.objs.size) { s with heap:=s.heap.push { cls:=.type (itN tp),data:=.fields #[.ref l,.int 0 0] } }):wpAny (model prog w) A (pyIter (.ref l)) Q E s:=by
 cases tp with
 |true=>exact iter_tuple hl k
 |false=>exact wpAny_pyIter_list hl k
theorem SIt.new{tp:Bool}{h:Heap}:SIt (h.push { cls:=.type (itN tp),data:=.fields #[.ref l,.int 0 0] }) tp h.objs.size l 0:=by
 cases tp with
 |true=>exact ⟨_,get?_push_size _ rfl,rfl,rfl⟩
 |false=>exact ⟨_,get?_push_size _ rfl,rfl,rfl⟩
abbrev zp1(h:Heap)(t1:Bool)(l1:Addr):Heap:=h.push { cls:=.type (itN t1),data:=.fields #[.ref l1,.int 0 0] }
abbrev zp2(h:Heap)(t1 t2:Bool)(l1 l2:Addr):Heap:=(zp1 h t1 l1).push { cls:=.type (itN t2),data:=.fields #[.ref l2,.int 0 0] }
abbrev zp3(h:Heap)(t1 t2:Bool)(l1 l2:Addr):Heap:=(zp2 h t1 t2 l1 l2).push { cls:=.type "tuple",data:=.seq #[.ref h.objs.size,.ref (zp1 h t1 l1).objs.size] }
abbrev zp4(h:Heap)(t1 t2:Bool)(l1 l2:Addr):Heap:=(zp3 h t1 t2 l1 l2).push { cls:=.type "tuple",data:=.seq #[.none,.none] }
abbrev zp5(h:Heap)(t1 t2:Bool)(l1 l2:Addr):Heap:=(zp4 h t1 t2 l1 l2).push { cls:=.type "zip",data:=.fields #[.none,.bool false,.bool false,.ref (zp2 h t1 t2 l1 l2).objs.size,.ref (zp3 h t1 t2 l1 l2).objs.size] }
theorem zipNew(t1 t2:Bool)(l1 l2:Addr)(xs ys:Array Value) :
  Meets (Builtin.«zip.__new__» ⟨[.type "zip",.ref l1,.ref l2],[]⟩) (λ_ R s=>SOf s.heap t1 l1 xs/\SOf s.heap t2 l2 ys/\R (.ok (.ret (.ref (zp4 s.heap t1 t2 l1 l2).objs.size))) { s with heap:=zp5 s.heap t1 t2 l1 l2 }):=
 .of_wp λprog w A R s h=>by
  obtain ⟨hp,g,d,tk,os⟩:=s
  obtain ⟨y1,y2,h⟩:=h
  have hsub:=sub_zip
  have Y1:SOf (Shared.heap ⟨hp,g,d,tk,os⟩) t1 l1 xs:=y1
  have Y2:SOf (Shared.heap ⟨hp.push { cls:=.type (itN t1),data:=.fields #[.ref l1,.int 0 0] },g,d,tk,os⟩) t2 l2 ys:=y2.at λo z=>get?_push_of_some _ z
  wp_walk using iterS Y1,iterS Y2
  exact ⟨_,rfl,h⟩
end
theorem ql5:bootBuiltins "zip"=some (.type "zip"):=by decide +kernel
section
variable {prog:Program}{w:World}{A:Around}{E:Value->Shared->Prop}{s:Shared}
def ZSt(h:Heap)(n:Nat)(t1 t2:Bool)(l1 l2:Addr)(i:Nat):Prop:=
 ∃a b,IsZip h (n+4) (n+2) (n+3) .none/\IsPair h (n+2) (.ref n) (.ref (n+1))/\IsPair h (n+3) a b/\SIt h t1 n l1 i/\SIt h t2 (n+1) l2 i
theorem yk6{t1 t2:Bool}{l1 l2:Addr}{xs ys:Array Value}{Q:Value->Shared->Prop}(y1:SOf s.heap t1 l1 xs)(y2:SOf s.heap t2 l2 ys)
  (k:∀h',ZSt h' s.heap.objs.size t1 t2 l1 l2 0->(∀c o,s.heap.get? c=some o->h'.get? c=some o)->Q (.ref (s.heap.objs.size+4)) { s with heap:=h' }) :
  wpAny (model prog w) A (call (.type "zip") [.ref l1,.ref l2]) Q E s:=by
 refine callType_new F.called_zip (by decide) (F.typeCall_zip_2 _ _) (F.newCall_zip_2 _ _) (λobj=>F.args_object_init_3 obj _ _) F.entry_zip_new (zipNew t1 t2 l1 l2 xs ys) ⟨y1,y2,?_⟩
 have z1:(zp1 s.heap t1 l1).objs.size=s.heap.objs.size+1:=size_push ..
 have z2:(zp2 s.heap t1 t2 l1 l2).objs.size=s.heap.objs.size+2:=by rw[size_push,z1]
 have z3:(zp3 s.heap t1 t2 l1 l2).objs.size=s.heap.objs.size+3:=by rw[size_push,z2]
 have z4:(zp4 s.heap t1 t2 l1 l2).objs.size=s.heap.objs.size+4:=by rw[size_push,z3]
 have u5:∀c o,(zp4 s.heap t1 t2 l1 l2).get? c=some o->(zp5 s.heap t1 t2 l1 l2).get? c=some o:=λc o g=>get?_push_of_some _ g
 have u4:∀c o,(zp3 s.heap t1 t2 l1 l2).get? c=some o->(zp5 s.heap t1 t2 l1 l2).get? c=some o:=λc o g=>u5 c o (get?_push_of_some _ g)
 have u3:∀c o,(zp2 s.heap t1 t2 l1 l2).get? c=some o->(zp5 s.heap t1 t2 l1 l2).get? c=some o:=λc o g=>u4 c o (get?_push_of_some _ g)
 have u2:∀c o,(zp1 s.heap t1 l1).get? c=some o->(zp5 s.heap t1 t2 l1 l2).get? c=some o:=λc o g=>u3 c o (get?_push_of_some _ g)
 have g5:(zp5 s.heap t1 t2 l1 l2).get? (zp4 s.heap t1 t2 l1 l2).objs.size=some _:=get?_push_size _ rfl
 have g4:(zp5 s.heap t1 t2 l1 l2).get? (zp3 s.heap t1 t2 l1 l2).objs.size=some _:=u5 _ _ (get?_push_size _ rfl)
 have g3:(zp5 s.heap t1 t2 l1 l2).get? (zp2 s.heap t1 t2 l1 l2).objs.size=some _:=u4 _ _ (get?_push_size _ rfl)
 have i2:SIt (zp5 s.heap t1 t2 l1 l2) t2 (zp1 s.heap t1 l1).objs.size l2 0:=SIt.new.at λo g=>u3 _ o g
 have i1:SIt (zp5 s.heap t1 t2 l1 l2) t1 s.heap.objs.size l1 0:=SIt.new.at λo g=>u2 _ o g
 show _/\_
 rw[z2,z3,z4]at g5
 rw[z1,z2]at g3
 rw[z3]at g4
 rw[z1]at i2
 rw[z4]
 exact ⟨⟨_,g5,rfl⟩,k _ ⟨_,_,g5,g3,g4,i1,i2⟩ λc o g=>u2 c o (get?_push_of_some _ g)⟩
end
def Sq(K:W.Frag)(tp:Bool)(H:Hp)(l:Addr)(xs:List V):Prop:=if tp then SqT K H l xs else SqL K H l xs
section
variable {X:Cx}{pins:List (Addr×Obj)}{σ:St}{H:Hp}{s:Shared}
theorem Inv.sq{tp:Bool}{l:Addr}{xs:List V}(I:Inv X pins σ H s)(h:Sq X.K tp H l xs):∃its:List Value,Vals xs its/\SOf s.heap tp l its.toArray/\l<s.heap.objs.size:=by
 cases tp with
 |true=>
  obtain ⟨its,r,pl,z⟩:=I.tuple h
  obtain ⟨o,g,_⟩:=id pl
  exact ⟨its,r,pl,lt_size g⟩
 |false=>
  obtain ⟨its,r,pl,z⟩:=I.list h
  obtain ⟨o,g,_⟩:=id pl.isList
  exact ⟨its,r,pl.isList,lt_size g⟩
theorem Inv.sq_inj{tp:Bool}{l:Addr}{xs ys:List V}(I:Inv X pins σ H s)(h:Sq X.K tp H l xs)(h':Sq X.K tp H l ys):xs=ys:=by
 cases tp with
 |true=>exact I.tuple_inj h h'
 |false=>exact I.list_inj h h'
end
section
variable {X:Cx}{pins:List (Addr×Obj)}{σ:St}{H:Hp}{s:Shared}{h':Heap}
theorem Inv.turnedM{ch:List Addr}{t':Nat}(I:Inv X pins σ H s)(k:∀b u,b∉ch->s.heap.get? b=some u->h'.get? b=some u)(hf:∀b∈ch,FpOk X pins H b):Inv X pins σ H { s with heap:=h',toks:=t' }:=by
 have nit:∀b u,H b=some u->b∉ch:=λb u e z=>by rw[(hf b z).1]at e;cases e
 refine I.step (g':=s.gens) (d':=s.drawn) (ch:=ch) (λb hb=>?_) (λb u _ _ hc e _=>k b u hc e) (λb u _ _ hc e _=>⟨u.slots,k b u hc e⟩) (λb u _ e n=>n)
  (λb u hc e=>⟨u,k b u hc e⟩) (λb xs e=>e) (λb u xs e=>e) (λb ps e=>⟨#[],by rw[e];simp⟩) (λm hm=>?_) (λb u e=>?_) I.bare
 ·obtain ⟨_,f1,_,f3,f4,f5⟩:=hf b hb
  exact ⟨f3,f1,f4,f5⟩
 ·obtain ⟨ob,es,ep,ho,r⟩:=hm
  exact ⟨ob,es,ep,k _ ob (λz=>(hf _ z).2.1 rfl) ho,r⟩
 ·refine (I.hok b u e).stay (λc v hc q=>k c v ?_ q) (λc q=>q) λc xs q=>q
  rcases hc with rfl|hc
  ·exact nit _ u e
  ·exact nit c _ hc
end
def Itz(K:W.Frag)(t1 t2:Bool)(l1 l2:Addr):It:=
  ⟨λi H=>∃xs ys x y,Sq K t1 H l1 xs/\Sq K t2 H l2 ys/\xs[i]?=some x/\ys[i]?=some y,
   λi H x H'=>∃p u v,H p=none/\x=.ref p/\H'=upd H p (.tup [u,v])/\∀xs ys,Sq K t1 H l1 xs->Sq K t2 H l2 ys->xs[i]?=some u/\ys[i]?=some v,
   λi H=>∃xs ys,Sq K t1 H l1 xs/\Sq K t2 H l2 ys/\(xs[i]?=none\/ys[i]?=none)⟩
theorem qh6{xs:List V}{us:List Value}{i:Nat}(r:Vals xs us)(h:xs[i]?=none):us[i]?=none:=by
 rw[List.getElem?_eq_none_iff]at h ⊢
 rw[<-r.length]
 exact h
theorem turn_zip{P:Program}{w:World}{K:W.Frag}{es:List Expr}{k:Nat}{tp:Pos}{t1 t2:Bool}(l1 l2 n:Nat)(b1:l1<n)(b2:l2<n) :
  Turn P w K (.Tuple es k tp) (Itz K t1 t2 l1 l2) [n,n+1,n+2,n+3,n+4] (n+4) (λi h=>ZSt h n t1 t2 l1 l2 i) where
 mem:=by simp
 obj:=λi h st b hb=>by
  obtain ⟨x,y,gz,gi,go,q1,q2⟩:=st
  have hb':b=n\/b=n+1\/b=n+2\/b=n+3\/b=n+4:=by simpa using hb
  rcases hb' with rfl|rfl|rfl|rfl|rfl
  ·exact q1.obj
  ·exact q2.obj
  ·exact ⟨_,gi,λv z=>by
    have z':Data.seq _ _=Data.cell v:=z
    cases z'⟩
  ·exact ⟨_,go,λv z=>by
    have z':Data.seq _ _=Data.cell v:=z
    cases z'⟩
  ·exact ⟨_,gz,λv z=>by
    have z':Data.fields _=Data.cell v:=z
    cases z'⟩
 keep:=λi h h' st kk=>by
  obtain ⟨x,y,gz,gi,go,q1,q2⟩:=st
  exact ⟨x,y,kk _ (by simp) _ gz,kk _ (by simp) _ gi,kk _ (by simp) _ go,q1.at λo z=>kk _ (by simp) o z,q2.at λo z=>kk _ (by simp) o z⟩
 item:=by
  intro X hP hw hK hc i pins s σ H E I hf st hg
  subst hP hw hK
  obtain ⟨xs,ys,x,y,hq1,hq2,hx,hy⟩:=hg
  obtain ⟨its1,rv1,so1,_⟩:=I.sq hq1
  obtain ⟨its2,rv2,so2,_⟩:=I.sq hq2
  obtain ⟨u1,hu1,ru1⟩:=rv1.get hx
  obtain ⟨u2,hu2,ru2⟩:=rv2.get hy
  obtain ⟨x0,y0,gz,gi,go,q1,q2⟩:=st
  have lt4:n+4<s.heap.objs.size:=lt_size gz
  have hT:s.TypeIs (.ref (n+4)) "zip":=⟨_,gz,rfl⟩
  unfold pyNext
  refine wpAny_bind (wpAny_attempt (wpAny_callSpecial?_slot (name:=Str.ofString "__next__") hT F.slot_zip_next (wpAny_call_entry F.slot_zip_next hT F.entry_zip_next ?_ (F.args_zip_next_1 _))))
  refine zipNext b1 b2 gz gi go q1 q2 so1 so2 (x:=u1) (y:=u2) (by simpa using hu1) (by simpa using hu2) λh' gz' go' r1 r2 hT' hsz kp=>?_
  refine wpAny_pure ?_
  refine ⟨_,rfl,wpAny_letOwnedTupleGo_zip gz' λh2 gz2 hs2=>?_⟩
  have kp2:∀b ob,b∉[n,n+1,n+2,n+3,n+4]->s.heap.get? b=some ob->h2.get? b=some ob:=λb ob hb z=>by
   have d4:b≠n+4:=λq=>hb (by simp[q])
   have d3:b≠n+3:=λq=>hb (by simp[q])
   have d0:b≠n:=λq=>hb (by simp[q])
   have d1:b≠n+1:=λq=>hb (by simp[q])
   exact (hs2.2 b d4).trans (kp b ob d4 d3 d0 d1 z)
  have up2:∀b ob,b≠n+4->h'.get? b=some ob->h2.get? b=some ob:=λb ob d z=>(hs2.2 b d).trans z
  have hT2:h2.get? s.heap.objs.size=some { cls:=.type "tuple",data:=.seq #[u1,u2] }:=up2 _ _ (ne_of_gt lt4) hT'
  have fresh:H s.heap.objs.size=none:=I.hok.fresh (le_refl _)
  have new:ya7 X.prog X.w (upd H s.heap.objs.size (.tup [x,y])) h2 s.heap.objs.size (.tup [x,y]):=⟨by show 2<=sizeLine;decide,[u1,u2],.cons ru1 (.cons ru2 .nil),⟨_,hT2,rfl,_,rfl⟩⟩
  refine ⟨.ref s.heap.objs.size,upd H s.heap.objs.size (.tup [x,y]),I.turnedL kp2 hf (le_refl _) new,rfl,⟨_,x,y,fresh,rfl,rfl,λas bs ha hb=>by rw[I.sq_inj ha hq1,I.sq_inj hb hq2];exact ⟨hx,hy⟩⟩,⟨_,_,gz2,?_,up2 _ _ (neN (by omega)) go',r1.at λo z=>up2 _ o (neN (by omega)) z,r2.at λo z=>up2 _ o (neN (by omega)) z⟩,λb hb=>?_⟩
  ·exact up2 _ _ (neN (by omega)) (kp _ _ (neN (by omega)) (neN (by omega)) (neN (by omega)) (neN (by omega)) gi)
  ·rw[yae]
   ·exact (hf b hb).1
   ·have hb':b=n\/b=n+1\/b=n+2\/b=n+3\/b=n+4:=by simpa using hb
    rcases hb' with rfl|rfl|rfl|rfl|rfl<;>exact neN (by omega)
 done:=by
  intro X hP hw hK hc i pins s σ H E I hf st hg
  subst hP hw hK
  obtain ⟨xs,ys,hq1,hq2,hxy⟩:=hg
  obtain ⟨its1,rv1,so1,_⟩:=I.sq hq1
  obtain ⟨its2,rv2,so2,_⟩:=I.sq hq2
  obtain ⟨x0,y0,gz,gi,go,q1,q2⟩:=st
  have hT:s.TypeIs (.ref (n+4)) "zip":=⟨_,gz,rfl⟩
  have hend:its1.toArray[i]?=none\/its2.toArray[i]?=none:=hxy.imp (λz=>by simpa using qh6 rv1 z) λz=>by simpa using qh6 rv2 z
  unfold pyNext
  refine wpAny_bind (wpAny_attempt (wpAny_callSpecial?_slot (name:=Str.ofString "__next__") hT F.slot_zip_next (wpAny_call_entry F.slot_zip_next hT F.entry_zip_next (zipDone (I.ok.hd hc) b1 b2 gz gi go q1 q2 so1 so2 hend λh' e kp he=>?_) (F.args_zip_next_1 _))))
  obtain ⟨o,ho,hce⟩:=he
  refine wpAny_bind (wpAny_isInstance (T:="StopIteration") (b:=true) ⟨o,ho,hce⟩ isSubtype_stop ?_)
  refine wpAny_pure ⟨rfl,?_⟩
  refine I.turnedM (t':=s.toks) (ch:=[n,n+1,n+2,n+3,n+4]) (λb ob hb z=>?_) hf
  exact kp b ob (λq=>hb (by simp[q])) (λq=>hb (by simp[q])) (λq=>hb (by simp[q])) (λq=>hb (by simp[q])) z
 self:=λ_ _ _ _ _ st h=>by
  obtain ⟨x0,y0,gz,gi,go,q1,q2⟩:=st
  exact wpAny_pyIter_zip gz h
def iZip(K:W.Frag)(ta:TA):TI:=λσ H R=>ta σ H λvs H1=>∃t1 t2 l1 l2 xs ys,vs=[.ref l1,.ref l2]/\Sq K t1 H1 l1 xs/\Sq K t2 H1 l2 ys/\R (Itz K t1 t2 l1 l2) H1
section
variable {X:Cx}
theorem ykt{a b:Expr}{ta:TA}{p pos tp:Pos}{es:List Expr}{k:Nat}(hg:Gl X "zip")(hm:X.mg "zip"=none)(ha:PA X [a,b] ta)(hs:starEach [a,b] X.env=(false,eval a X.env)::starEach [b] X.env:=by rfl)(hp:(backTo pos (starEach [b] X.env)).any (·.1)=false:=by rfl) :
  PI X (.Tuple es k tp) (.Call (.Name "zip" p) [a,b] [] pos) (iZip X.K ta):=by
 intro pins s σ H R I h
 refine Call_ (yfx I hg hm ql5 (PyProof.Rows.callWith_type1 (thn (ha pos pins s σ H _ I h) λus s1 ⟨vs,H1,I1,r1,q1⟩=>?_) hs hp))
 obtain ⟨t1,t2,l1,l2,xs,ys,e,hq1,hq2,q⟩:=q1
 subst e
 cases r1 with
 |cons r rr=>
  cases rr with
  |cons r2 rr=>
   cases rr
   cases r
   cases r2
   obtain ⟨its1,rv1,so1,b1⟩:=I1.sq hq1
   obtain ⟨its2,rv2,so2,b2⟩:=I1.sq hq2
   refine yk6 so1 so2 λh' st kp=>?_
   obtain ⟨x0,y0,gz,gi,go,i1,i2⟩:=id st
   refine wpAny_pyIter_zip gz ⟨_,[s1.heap.objs.size,s1.heap.objs.size+1,s1.heap.objs.size+2,s1.heap.objs.size+3,s1.heap.objs.size+4],_,Itz X.K t1 t2 l1 l2,H1,rfl,I1.kept (t':=s1.toks) kp,turn_zip l1 l2 s1.heap.objs.size b1 b2,st,λb hb=>?_,q⟩
   have hb':s1.heap.objs.size<=b:=by
    have hb':b=s1.heap.objs.size\/b=s1.heap.objs.size+1\/b=s1.heap.objs.size+2\/b=s1.heap.objs.size+3\/b=s1.heap.objs.size+4:=by simpa using hb
    rcases hb' with rfl|rfl|rfl|rfl|rfl
    ·exact le_refl _
    ·exact le_add_right ..
    ·exact le_add_right ..
    ·exact le_add_right ..
    ·exact le_add_right ..
   exact I1.fpOk hb' (I1.hok.fresh hb')
theorem yax:bootBuiltins "sorted"=some (.builtin "sorted"):=by decide +kernel
theorem qd8:∀{us:List Value}{ns:List Int},IntsAre us ns->Vals (ns.map V.int) us
 |_,_,.nil=>.nil
 |_,_,.cons n t r=>.cons ⟨t,rfl⟩ (qd8 r)
def rSortI:List V->Hp->VK->Prop:=λxs H Q=>∃(l:Addr) (ns:List Int),xs=[.ref l]/\H l=some (.lst (ns.map V.int))/\ns.length<64/\∀(p:Addr) (ns':List Int),H p=none->ns'.Perm ns->ns'.Pairwise (·<=·)->Q (.ref p) (upd H p (.lst (ns'.map V.int)))
theorem qde:yb6 X (.builtin "sorted") rSortI:=by
 intro pins s σ H xs us Q I r h
 obtain ⟨l,ns,rfl,hH,h64,q⟩:=h
 cases r with
 |cons r rr=>
  cases rr
  cases r
  obtain ⟨z,its,n,rv,hl,e⟩:=I.lstM hH
  have hil:its.length=ns.length:=by rw[<-hl,length_map]
  refine sorted_ints (vs:=its) ⟨_,e,rfl,n,rfl⟩ (qcn rv) (by omega) λout ns' a1 a2 a3=>?_
  obtain ⟨ep,he⟩:=sortedAll_at s.heap its out
  have hf:H (s.heap.objs.size+1)=none:=I.hok.fresh (le_succ _)
  refine ⟨.ref (s.heap.objs.size+1),_,I.laid (o:=.lst (ns'.map V.int)) (t':=s.toks) (λb u g=>sortedAll_old g) (le_succ _) ?_,rfl,q _ ns' hf a2 a3⟩
  exact ⟨by rw[length_map,a2.length_eq];omega,out.toList,ep,qd8 a1,by simpa using he⟩
theorem ydh:bootBuiltins "all"=some (.builtin "all"):=by decide +kernel
def rAllB:List V->Hp->VK->Prop:=λxs H Q=>∃(l:Addr) (bs:List Bool),xs=[.ref l]/\H l=some (.lst (bs.map V.bl))/\Q (.bl (bs.all id)) H
theorem yl4(bs:List Bool):(List.range bs.length).all (λi=>bs.getD i false)=bs.all id:=by
 rw[Bool.eq_iff_iff,List.all_eq_true,List.all_eq_true]
 constructor
 ·intro h b hb
  obtain ⟨i,hi,e⟩:=getElem_of_mem hb
  have:=h i (mem_range.mpr hi)
  rw[getD_eq_getElem?_getD,getElem?_eq_getElem hi]at this
  rw[<-e];exact this
 ·intro h i hi
  have hi':=mem_range.mp hi
  rw[getD_eq_getElem?_getD,getElem?_eq_getElem hi']
  exact h _ (getElem_mem hi')
theorem truth_bs{P:Program}{w:World}{A:Around}(bs:List Bool):TruthOf P w A (λi v=>(bs.map Value.bool).toArray[i]?=some v) (λi=>bs.getD i false):=by
 intro i v s Q E hP hQ
 have hP':(bs.map Value.bool)[i]?=some v:=by simpa using hP
 rw[getElem?_map]at hP'
 cases e:bs[i]? with
 |none=>rw[e]at hP';cases hP'
 |some b=>
  rw[e]at hP'
  cases hP'
  have hQ':Q (bs.getD i false) s:=hQ
  rw[getD_eq_getElem?_getD,e]at hQ'
  exact wpAny_truthy_bool hQ'
theorem qc1(hc:X.calm=true):yb6 X (.builtin "all") rAllB:=by
 intro pins s σ H xs us Q I r h
 obtain ⟨l,bs,rfl,hH,q⟩:=h
 cases r with
 |cons r rr=>
  cases rr
  cases r
  obtain ⟨z,its,n,rv,hl,e⟩:=I.lstM hH
  have hi:=rv.bls
  subst hi
  have hlt:l<s.heap.objs.size:=lt_size e
  refine call_all_walk (wpAny_pyIter_list (items:=(bs.map Value.bool).toArray) ⟨_,e,rfl,n,rfl⟩ ⟨_,_,_,_,_,_,_,rfl,Walks.list (by simpa using I.ok.hd hc) s.heap.objs.size l (ne_of_lt hlt) (bs.map Value.bool).toArray,⟨⟨_,get?_push_size _ rfl,rfl,rfl⟩,⟨_,get?_push_of_some _ e,rfl,n,rfl⟩⟩,truth_bs bs,λh' tk hk=>?_⟩)
  rw[size_toArray,length_map,yl4]
  refine ⟨.bl (bs.all id),H,I.kept λb o g=>hk b o ?_ (get?_push_of_some _ g),rfl,q⟩
  intro hb
  rw[mem_singleton]at hb
  exact absurd (lt_size g) (by rw[hb];exact lt_irrefl _)
end
section
variable {κ:Type} [DecidableEq κ]
def valV(kvs:List (κ×V))(k:κ):Option V:=(kvs.find? λkv=>decide (kv.1=k)).map (·.2)
def putK(kvs:List (κ×V))(k:κ)(v:V):List (κ×V):=
 if (kvs.any λkv=>decide (kv.1=k))=true then kvs.map (λkv=>if kv.1=k then (kv.1,v) else kv) else kvs++[(k,v)]
theorem yba{p:κ×V}{r:List (κ×V)}{k:κ}(e:p.1=k):valV (p::r) k=some p.2:=by simp[valV,find?_cons,e]
theorem qbb{p:κ×V}{r:List (κ×V)}{k:κ}(e:¬ p.1=k):valV (p::r) k=valV r k:=by simp[valV,find?_cons,e]
theorem ycc(k:κ):∀kvs:List (κ×V),(kvs.any λkv=>decide (kv.1=k))=(valV kvs k).isSome
 |[]=>rfl
 |p::r=>by
  rw[any_cons]
  by_cases e:p.1=k
  ·simp only[yba e,decide_eq_true e,Bool.true_or,Option.isSome_some]
  ·rw[qbb e,decide_eq_false e,Bool.false_or];exact ycc k r
theorem yjx(k j:κ)(y:V):∀kvs:List (κ×V),valV (kvs.map λkv=>if kv.1=k then (kv.1,y) else kv) j=(valV kvs j).map λx=>if j=k then y else x
 |[]=>rfl
 |p::r=>by
  have ih:=yjx k j y r
  rw[map_cons]
  by_cases h:p.1=k
  ·rw[if_pos h]
   by_cases e:p.1=j
   ·rw[yba (p:=(p.1,y)) e,yba e,Option.map_some,if_pos (e.symm.trans h)]
   ·rw[qbb (p:=(p.1,y)) e,qbb e,ih]
  ·rw[if_neg h]
   by_cases e:p.1=j
   ·rw[yba (p:=p) e,yba e,Option.map_some,if_neg (λz=>h (e.trans z))]
   ·rw[qbb (p:=p) e,qbb e,ih]
theorem yh0(k j:κ)(y:V):∀kvs:List (κ×V),valV kvs k=none->valV (kvs++[(k,y)]) j=if j=k then some y else valV kvs j
 |[],_=>by
  by_cases e:k=j
  ·rw[if_pos e.symm];exact yba (p:=(k,y)) e
  ·rw[if_neg (λz=>e z.symm)];exact qbb (p:=(k,y)) e
 |p::r,hn=>by
  rw[List.cons_append]
  have hk:¬ p.1=k:=λz=>by rw[yba z]at hn;cases hn
  rw[qbb hk]at hn
  have ih:=yh0 k j y r hn
  by_cases e:p.1=j
  ·rw[yba e,yba e,if_neg (λz=>hk (e.trans z))]
  ·rw[qbb e,qbb e,ih]
theorem ydj(kvs:List (κ×V))(k j:κ)(y:V):valV (putK kvs k y) j=if j=k then some y else valV kvs j:=by
 unfold putK
 by_cases a:(kvs.any λkv=>decide (kv.1=k))=true
 ·rw[if_pos a,yjx]
  rw[ycc]at a
  by_cases e:j=k
  ·obtain ⟨x,hx⟩:=Option.isSome_iff_exists.mp a
   rw[if_pos e,e,hx,Option.map_some,if_pos rfl]
  ·rw[if_neg e]
   cases valV kvs j with
   |none=>rfl
   |some x=>rw[Option.map_some,if_neg e]
 ·rw[if_neg a]
  refine yh0 k j y kvs ?_
  rw[ycc]at a
  cases q:valV kvs k with
  |none=>rfl
  |some x=>rw[q]at a;exact (a rfl).elim
theorem ycp(kvs:List (κ×V))(k:κ)(v:V):(putK kvs k v).length<=kvs.length+1:=by
 unfold putK
 split
 ·rw[length_map];omega
 ·rw[length_append,length_cons,List.length_nil];omega
theorem yjp{kvs:List (κ×V)}{k:κ}(v:V)(h:valV kvs k=none):putK kvs k v=kvs++[(k,v)]:=by
 unfold putK
 rw[ycc,h]
 exact if_neg (by decide)
theorem RelO.isSome_eq{o:Option V}{u:Option Value}(r:RelO o u):o.isSome=u.isSome:=by
 cases o with
 |none=>cases u with
  |none=>rfl
  |some _=>exact (show False from r).elim
 |some _=>cases u with
  |none=>exact (show False from r).elim
  |some _=>rfl
theorem KV.val{kvs:List (κ×V)}{vs:List (κ×Value)}(r:KV kvs vs)(k:κ):RelO (valV kvs k) (valueAt vs k):=by
 unfold KV at r
 induction r with
 |nil=>exact True.intro
 |@cons p q ps qs h t ih=>
  obtain ⟨h1,h2⟩:=h
  by_cases e:p.1=k
  ·have e':q.1=k:=h1.symm.trans e
   have b:valueAt (q::qs) k=some q.2:=by simp[valueAt,find?_cons,e']
   rw[yba e,b];exact h2
  ·have e':¬ q.1=k:=λz=>e (h1.trans z)
   have b:valueAt (q::qs) k=valueAt qs k:=by simp[valueAt,find?_cons,e']
   rw[qbb e,b];exact ih
theorem KV.any{kvs:List (κ×V)}{vs:List (κ×Value)}(r:KV kvs vs)(k:κ):(kvs.any λkv=>decide (kv.1=k))=vs.any λkv=>decide (kv.1=k):=by
 unfold KV at r
 induction r with
 |nil=>rfl
 |cons h t ih=>rw[any_cons,any_cons,ih,h.1]
theorem KV.repl{kvs:List (κ×V)}{vs:List (κ×Value)}(r:KV kvs vs)(k:κ){y:V}{u:Value}(ry:RelV y u) :
  KV (kvs.map λkv=>if kv.1=k then (kv.1,y) else kv) (vs.map λkv=>if kv.1=k then (kv.1,u) else kv):=by
 unfold KV at r ⊢
 induction r with
 |nil=>exact .nil
 |@cons p q ps qs h t ih=>
  rw[map_cons,map_cons]
  refine .cons ?_ ih
  obtain ⟨h1,h2⟩:=h
  by_cases e:p.1=k
  ·rw[if_pos e,if_pos (h1.symm.trans e)];exact ⟨h1,ry⟩
  ·rw[if_neg e,if_neg (λz=>e (h1.trans z))];exact ⟨h1,h2⟩
theorem KV.put{kvs:List (κ×V)}{vs:List (κ×Value)}(r:KV kvs vs)(k:κ){y:V}{u:Value}(ry:RelV y u):KV (putK kvs k y) (stored vs k u):=by
 unfold putK stored
 rw[r.any k]
 by_cases e:(vs.any λkv=>decide (kv.1=k))=true
 ·rw[if_pos e,if_pos e];exact r.repl k ry
 ·rw[if_neg e,if_neg e];exact Paired.snoc r ⟨rfl,ry⟩
theorem KV.length{kvs:List (κ×V)}{vs:List (κ×Value)}(r:KV kvs vs):kvs.length=vs.length:=Paired.length r
end
theorem ykb{P:Program}{w:World}{k:Key}{u:Value}(r:RelV (kV k) u):(ya4 P w).is k u=true:=by
 cases k with
 |inl i=>obtain ⟨t,e⟩:=(show ∃t,u=Value.int i t from r);subst e;exact yi0 P w i t
 |inr x=>obtain ⟨t,e⟩:=(show ∃t,u=Value.str x t from r);subst e;exact yi2 P w x t
theorem yh4{P:Program}{w:World}:∀{ks:List Key}{us:List Value},Vals (ks.map kV) us->ItemsAre (ya4 P w) ks us
 |[],_,r=>by rw[map_nil]at r;cases r;exact .nil
 |k::ks,_,r=>by
  rw[map_cons]at r
  cases r with
  |cons h t=>exact .cons (ykb h) (yh4 t)
abbrev KT(H:Hp):List (List Key×V)->List (List Key×Addr×Value)->Prop:=Paired λp q=>p.1=q.1/\H q.2.1=some (.tup (p.1.map kV))/\RelV p.2 q.2.2
theorem KT.val{H:Hp}{kvs:List (List Key×V)}{xs:List (List Key×Addr×Value)}(r:KT H kvs xs)(k:List Key):RelO (valV kvs k) ((atKey xs k).map (·.2)):=by
 induction r with
 |nil=>exact True.intro
 |@cons p q ps qs h t ih=>
  obtain ⟨h1,_,h2⟩:=h
  by_cases e:p.1=k
  ·have e':q.1=k:=h1.symm.trans e
   have b:atKey (q::qs) k=some q.2:=by simp[atKey,find?_cons,e']
   rw[yba e,b];exact h2
  ·have e':¬ q.1=k:=λz=>e (h1.trans z)
   have b:atKey (q::qs) k=atKey qs k:=by simp[atKey,find?_cons,e']
   rw[qbb e,b];exact ih
theorem KT.repl{H:Hp}{kvs:List (List Key×V)}{xs:List (List Key×Addr×Value)}(r:KT H kvs xs)(k:List Key){y:V}{u:Value}(ry:RelV y u) :
  KT H (kvs.map λkv=>if kv.1=k then (kv.1,y) else kv) (xs.map (putAt k u)):=by
 induction r with
 |nil=>exact .nil
 |@cons p q ps qs h t ih=>
  rw[map_cons,map_cons]
  refine .cons ?_ ih
  obtain ⟨h1,h2,h3⟩:=h
  unfold putAt
  by_cases e:p.1=k
  ·rw[if_pos e,if_pos (h1.symm.trans e)];exact ⟨h1,h2,ry⟩
  ·rw[if_neg e,if_neg (λz=>e (h1.trans z))];exact ⟨h1,h2,h3⟩
theorem KT.put{H:Hp}{kvs:List (List Key×V)}{xs:List (List Key×Addr×Value)}(r:KT H kvs xs)(k:List Key){b:Addr}{y:V}{u:Value}(hb:H b=some (.tup (k.map kV)))(ry:RelV y u) :
  KT H (putK kvs k y) (storedH xs k b u):=by
 have e:(kvs.any λkv=>decide (kv.1=k))=(atKey xs k).isSome:=by
  rw[ycc,(r.val k).isSome_eq,Option.isSome_map]
 unfold putK storedH
 rw[e]
 by_cases q:(atKey xs k).isSome=true
 ·rw[if_pos q,if_pos q];exact r.repl k ry
 ·rw[if_neg q,if_neg q];exact Paired.snoc r ⟨rfl,hb,ry⟩
theorem KT.keeps{H H':Hp}{kvs:List (List Key×V)}{xs:List (List Key×Addr×Value)}(r:KT H kvs xs)(ht:∀b ys,H b=some (.tup ys)->H' b=some (.tup ys)):KT H' kvs xs:=
 Paired.mapP r λ_ _ z=>⟨z.1,ht _ _ z.2.1,z.2.2⟩
section
variable {P:Program}{w:World}{H:Hp}{h:Heap}{a:Addr}
theorem rd_of{u:HO}(ok:HOk P w H h)(e:Rd H a u):ya7 P w H h a u:=e.ok ok
theorem qh9{kvs:List (Key×V)}(ok:HOk P w H h)(e:Rd H a (.dK kvs)):kvs.length<=sizeLine/\(a == sysModules)=false/\∃vs,KV kvs vs/\h.DictOf (ya4 P w) a vs:=
 show ya7 P w H h a (.dK kvs) from rd_of ok e
theorem dk_of{kvs:List (Key×V)}(ok:HOk P w H h)(e:H a=some (.dK kvs)):kvs.length<=sizeLine/\(a == sysModules)=false/\∃vs,KV kvs vs/\h.DictOf (ya4 P w) a vs:=qh9 ok (.inl e)
theorem qip{ks:List Key}(ok:HOk P w H h)(e:H a=some (.tup (ks.map kV))):(tupleKind (ya4 P w)).is h ks a:=by
 obtain ⟨_,its,r,o,h1,h2,n,h3⟩:=(show ya7 P w H h a (.tup (ks.map kV)) from ok a _ e)
 exact ⟨o,its.toArray,n,h1,h2,h3,by simpa using yh4 r⟩
theorem qlk{kvs:List (List Key×V)}(ok:HOk P w H h)(e:Rd H a (.dT kvs)):kvs.length<=sizeLine/\(a == sysModules)=false/\
  ∃xs,KT H kvs xs/\h.DictOfH (tupleKind (ya4 P w)) a xs:=by
 obtain ⟨z,y,xs,r,o,es,ep,h1,h2,h3,h4,h5⟩:=(show ya7 P w H h a (.dT kvs) from rd_of ok e)
 refine ⟨z,y,xs,r,o,es,ep,h1,h2,h3,h4,λx hx=>?_,h5⟩
 have all:∀{l:List (List Key×V)}{m:List (List Key×Addr×Value)},KT H l m->∀x∈m,(tupleKind (ya4 P w)).is h x.1 x.2.1:=by
  intro l m q
  induction q with
  |nil=>intro x hx;exact nomatch hx
  |@cons p q ps qs hq t ih=>
   intro x hx
   rcases mem_cons.mp hx with e|hx
   ·subst e
    exact qip ok (by rw[<-hq.1];exact hq.2.1)
   ·exact ih x hx
 exact all r x hx
theorem dt_of{kvs:List (List Key×V)}(ok:HOk P w H h)(e:H a=some (.dT kvs)):kvs.length<=sizeLine/\(a == sysModules)=false/\
  ∃xs,KT H kvs xs/\h.DictOfH (tupleKind (ya4 P w)) a xs:=qlk ok (.inl e)
end
def DGet(H:Hp)(a:Addr)(y:V)(r:Option V):Prop:=
 (∃kvs k,Rd H a (.dK kvs)/\y=kV k/\r=valV kvs k)\/∃kvs k b,Rd H a (.dT kvs)/\y=.ref b/\H b=some (.tup (k.map kV))/\r=valV kvs k
def DPut(H:Hp)(a:Addr)(y v:V)(H':Hp):Prop:=
 (∃kvs k,H a=some (.dK kvs)/\y=kV k/\kvs.length<sizeLine/\H'=upd H a (.dK (putK kvs k v)))\/
 ∃kvs k b,H a=some (.dT kvs)/\y=.ref b/\H b=some (.tup (k.map kV))/\kvs.length<sizeLine/\H'=upd H a (.dT (putK kvs k v))
theorem DGet.k{H:Hp}{a:Addr}{kvs:List (Key×V)}{k:Key}(e:H a=some (.dK kvs)):DGet H a (kV k) (valV kvs k):=.inl ⟨kvs,k,.inl e,rfl,rfl⟩
theorem DPut.k{H:Hp}{a:Addr}{kvs:List (Key×V)}{k:Key}{v:V}(e:H a=some (.dK kvs))(hl:kvs.length<sizeLine):DPut H a (kV k) v (upd H a (.dK (putK kvs k v))):=.inl ⟨kvs,k,e,rfl,hl,rfl⟩
section
variable {X:Cx}{pins:List (Addr×Obj)}{σ:St}{H:Hp}{s:Shared}{a:Addr}{y v:V}{u r:Value}{o:Option V}{A:Around}{E:Value->Shared->Prop}
theorem Inv.big(I:Inv X pins σ H s):sysModules<s.heap.objs.size:=by
 have h:mainGlobals<s.heap.objs.size:=(I.mod.glob.keeps I.bk).lt
 exact Nat.lt_trans (by decide) h
theorem ylw{Q:Value->Shared->Prop}(hu:A.units+1<cLine)(I:Inv X pins σ H s)(g:DGet H a y (some v))(ry:RelV y u)(h:∀w' s',Inv X pins σ H s'->RelV v w'->Q w' s') :
  wpAny (model X.prog X.w) A (getItem (.ref a) u) Q E s:=by
 rcases g with ⟨kvs,k,e,ey,l⟩|⟨kvs,k,b,e,ey,eb,l⟩
 ·subst ey
  obtain ⟨z,hd,vs,rel,dd⟩:=qh9 I.hok e
  obtain ⟨w',hw,rw'⟩:=RelO.some_of (v:=v) (o:=valueAt vs k) (by rw[l];exact rel.val k)
  exact wpAny_getItem_of (ykb ry) dd.mapOf hw (h w' _ (I.tok _) rw')
 ·subst ey
  cases (show u=Value.ref b from ry)
  obtain ⟨z,hd,xs,rel,dd⟩:=qlk I.hok e
  obtain ⟨w',hw,rw'⟩:=RelO.some_of (v:=v) (o:=(atKey xs k).map (·.2)) (by rw[l];exact rel.val k)
  obtain ⟨p,hp,hp2⟩:=Option.map_eq_some_iff.mp hw
  refine wpAny_getItem_heap (tupleKind_room_in1 hu) (qip I.hok eb) dd hp ?_
  rw[hp2]
  exact h w' _ (I.tok _) rw'
theorem d_in{Q:Value->Shared->Prop}(hu:A.units+1<cLine)(I:Inv X pins σ H s)(g:DGet H a y o)(ry:RelV y u)(h:∀s',Inv X pins σ H s'->Q (.bool o.isSome) s') :
  wpAny (model X.prog X.w) A (compareOp .In u (.ref a)) Q E s:=by
 rcases g with ⟨kvs,k,e,ey,l⟩|⟨kvs,k,b,e,ey,eb,l⟩
 ·subst ey
  obtain ⟨z,hd,vs,rel,dd⟩:=qh9 I.hok e
  refine wpAny_in_of (ykb ry) hd dd.mapOf ?_
  rw[<-(rel.val k).isSome_eq,<-l]
  exact h _ (I.tok _)
 ·subst ey
  cases (show u=Value.ref b from ry)
  obtain ⟨z,hd,xs,rel,dd⟩:=qlk I.hok e
  refine wpAny_in_heap (tupleKind_room_in1 hu) (qip I.hok eb) hd dd ?_
  have q:=(rel.val k).isSome_eq
  rw[Option.isSome_map]at q
  rw[<-q,<-l]
  exact h _ (I.tok _)
theorem d_notIn{Q:Value->Shared->Prop}(hu:A.units+1<cLine)(I:Inv X pins σ H s)(g:DGet H a y o)(ry:RelV y u)(h:∀s',Inv X pins σ H s'->Q (.bool (!o.isSome)) s') :
  wpAny (model X.prog X.w) A (compareOp .NotIn u (.ref a)) Q E s:=by
 rcases g with ⟨kvs,k,e,ey,l⟩|⟨kvs,k,b,e,ey,eb,l⟩
 ·subst ey
  obtain ⟨z,hd,vs,rel,dd⟩:=qh9 I.hok e
  refine wpAny_notIn_of (ykb ry) hd dd.mapOf ?_
  rw[<-(rel.val k).isSome_eq,<-l]
  exact h _ (I.tok _)
 ·subst ey
  cases (show u=Value.ref b from ry)
  obtain ⟨z,hd,xs,rel,dd⟩:=qlk I.hok e
  refine wpAny_notIn_heap (tupleKind_room_in1 hu) (qip I.hok eb) hd dd ?_
  have q:=(rel.val k).isSome_eq
  rw[Option.isSome_map]at q
  rw[<-q,<-l]
  exact h _ (I.tok _)
theorem qjf{h':Heap}{t':Nat}{ob:HO}(I:Inv X pins σ H s)(mu:Mut (H a))(hs:Heap.SameBut a s.heap h')(he:∃q,h'.get? a=some q)(new:ya7 X.prog X.w (upd H a ob) h' a ob) :
  Inv X pins σ (upd H a ob) { s with heap:=h',toks:=t' }:=
 I.write (x:=a) (e:=a) mu (.inl rfl) (λb q hb z=>(hs.2 b hb).trans z) he new
theorem dk_new{P:Program}{w:World}{H':Hp}{h':Heap}{kvs:List (Key×V)}{vs:List (Key×Value)}(z:kvs.length<=sizeLine)(hd:(a == sysModules)=false)(rel:KV kvs vs)(dd:h'.DictOf (ya4 P w) a vs) :
  ya7 P w H' h' a (.dK kvs):=⟨z,hd,vs,rel,dd⟩
theorem qk8{H':Hp}{Q:Unit->Shared->Prop}(hu:A.units+1<cLine)(I:Inv X pins σ H s)(g:DPut H a y v H')(ry:RelV y u)(rv:RelV v r)(h:∀s',Inv X pins σ H' s'->Q () s') :
  wpAny (model X.prog X.w) A (setItem (.ref a) u r) Q E s:=by
 rcases g with ⟨kvs,k,e,ey,l,eH⟩|⟨kvs,k,b,e,ey,eb,l,eH⟩
 ·subst ey eH
  obtain ⟨z,hd,vs,rel,dd⟩:=dk_of I.hok e
  have hz:vs.length<=sizeLine:=by rw[<-rel.length];exact z
  have hl:(putK kvs k v).length<=sizeLine:=by have:=ycp kvs k v;omega
  refine wpAny_setItem_pairs (hsz:=hz) (ykb ry) dd λh' dd' hs=>h _ ?_
  have he:∃q,h'.get? a=some q:=let ⟨q,_,_,hq,_⟩:=dd';⟨q,hq⟩
  exact qjf I (by rw[e];exact True.intro) hs he (dk_new hl hd (rel.put k rv) dd')
 ·subst ey eH
  cases (show u=Value.ref b from ry)
  obtain ⟨z,hd,xs,rel,dd⟩:=dt_of I.hok e
  have hz:xs.length<=sizeLine:=by rw[<-Paired.length rel];exact z
  have hl:(putK kvs k v).length<=sizeLine:=by have:=ycp kvs k v;omega
  refine wpAny_setItem_heap (hsz:=hz) (tupleKind_room_in1 hu) (qip I.hok eb) dd λh' dd' hs=>h _ ?_
  obtain ⟨q,es,ep,hq,h2,h3,h4,_,h5⟩:=dd'
  refine qjf I (by rw[e];exact True.intro) hs ⟨q,hq⟩ ⟨hl,hd,_,(rel.put k eb rv).keeps λc ys ec=>?_,q,es,ep,hq,h2,h3,h4,h5⟩
  rw[yae (qcg ec e (λz=>nomatch z))]
  exact ec
end
def NoSl(i:Expr):Prop:=∀ov iv,subscripted i false ov iv=operate [ov,iv] (getItem ov iv)
theorem subD_of{prog:Program}{w:World}{A:Around}{E:Value->Shared->Prop}{s:Shared}{env:Env}{value slice:Expr}{pos:Pos}{T id:String}{Q:Value->Shared->Prop}
  (hl:typeLookup (.type T) "__getitem__"=pure (some (.builtin id))) (hs:NoSl slice)
  (h:wpAny (model prog w) A (eval value env) (λo s₁=>wpAny (model prog w) A (eval slice env) (λi s₂=>s₂.TypeIs o T/\wpAny (model prog w) A (getItem o i) Q E s₂) E s₁) E s) :
  wpAny (model prog w) A (eval (.Subscript value slice pos) env) Q E s:=by
 refine Subscript_ (wpAny_mono h (λo s₁ h₁=>wpAny_mono h₁ (λi s₂ h₂=>?_) λ_ _ x=>x) λ_ _ x=>x)
 obtain ⟨hT,h₂⟩:=h₂
 unfold subscriptTail
 refine wpAny_bind ?_
 rw[getitemInPython_of_ne hT.not_modules]
 refine wpAny_bind (wpAny_specialOf hT hl ?_)
 have fin:wpAny (model prog w) A (subscripted slice false o i) (λr s₃=>wpAny (model prog w) A (letTemporaryGo value o r >>= λ_=>pure r) Q E s₃) E s₂:=by
  rw[hs o i]
  exact wpAny_operating (wpAny_mono h₂ (λr s₃ h₃=>wpAny_bind (wpAny_letTemporaryGo (wpAny_pure h₃))) λ_ _ x=>x)
 first
  |exact wpAny_pure (wpAny_bind fin)
  |exact wpAny_bind (wpAny_pure (wpAny_bind fin))
  |exact wpAny_bind fin
theorem yi9{X:Cx}{pins:List (Addr×Obj)}{σ:St}{H:Hp}{s:Shared}{a:Addr}{y:V}{o:Option V}(I:Inv X pins σ H s)(g:DGet H a y o):s.TypeIs (.ref a) "dict":=by
 rcases g with ⟨kvs,k,e,_,_⟩|⟨kvs,k,b,e,_,_,_⟩
 ·obtain ⟨_,_,vs,_,dd⟩:=qh9 I.hok e
  exact dd.typeIs
 ·obtain ⟨_,_,xs,_,dd⟩:=qlk I.hok e
  exact dd.typeIs
def tDGet(td ty:TE):TE:=λσ H Q=>td σ H λx H1=>ty σ H1 λy H2=>∃a v,x=.ref a/\DGet H2 a y (some v)/\Q v H2
def tDIn(ty td:TE):TE:=λσ H Q=>ty σ H λy H1=>td σ H1 λx H2=>∃a o,x=.ref a/\DGet H2 a y o/\Q (.bl o.isSome) H2
def tDNotIn(ty td:TE):TE:=λσ H Q=>ty σ H λy H1=>td σ H1 λx H2=>∃a o,x=.ref a/\DGet H2 a y o/\Q (.bl (!o.isSome)) H2
def sDPut(td ty tv:TE):TS:=λD σ H=>tv σ H λv H1=>td σ H1 λx H2=>ty σ H2 λy H3=>∃a H4,x=.ref a/\DPut H3 a y v H4/\D.nx σ H4
section
variable {X:Cx}{o i e value:Expr}{pos pos' tpos:Pos}{td ty tv:TE}
theorem pe_dget(hu:X.A.units+1<cLine)(ho:PE X o td)(hi:PE X i ty)(hs:NoSl i):PE X (.Subscript o i pos) (tDGet td ty):=by
 intro pins s σ H Q I h
 refine subD_of PySem.F.slot_dict_getitem.lookup hs (thn (ho pins s σ H _ I h) λu s1 ⟨x,H1,I1,rx,q1⟩=>thn (hi pins s1 σ H1 _ I1 q1) λiv s2 ⟨y,H2,I2,ry,a,v,ex,g,q2⟩=>?_)
 subst ex
 obtain rfl:u=Value.ref a:=rx
 exact ⟨yi9 I2 g,ylw hu I2 g ry λw' s3 I3 rw'=>⟨v,H2,I3,rw',q2⟩⟩
theorem pc_din(hu:X.A.units+1<cLine)(hi:PE X i ty)(ho:PE X o td):PC X .In i o (tDIn ty td):=by
 intro pins s σ H Q I h
 refine thn (hi pins s σ H _ I h) λiv s1 ⟨y,H1,I1,ry,q1⟩=>thn (ho pins s1 σ H1 _ I1 q1) λu s2 ⟨x,H2,I2,rx,a,ov,ex,g,q2⟩=>?_
 subst ex
 obtain rfl:u=Value.ref a:=rx
 exact d_in hu I2 g ry λs3 I3=>⟨.bl ov.isSome,H2,I3,rfl,q2⟩
theorem yf5(hu:X.A.units+1<cLine)(hi:PE X i ty)(ho:PE X o td):PC X .NotIn i o (tDNotIn ty td):=by
 intro pins s σ H Q I h
 refine thn (hi pins s σ H _ I h) λiv s1 ⟨y,H1,I1,ry,q1⟩=>thn (ho pins s1 σ H1 _ I1 q1) λu s2 ⟨x,H2,I2,rx,a,ov,ex,g,q2⟩=>?_
 subst ex
 obtain rfl:u=Value.ref a:=rx
 exact d_notIn hu I2 g ry λs3 I3=>⟨.bl (!ov.isSome),H2,I3,rfl,q2⟩
theorem yho(hu:X.A.units+1<cLine)(ho:PE X o td)(hi:PE X i ty)(hv:PE X value tv)(hs:swapsWith value (some (.Subscript o i pos')) pos.line X.env=pure false) :
  PS X (.Assign [.Subscript o i pos'] value pos) (sDPut td ty tv):=by
 intro pins s σ H D I h
 refine wpAny_Assign_Subscript (thn (hv pins s σ H _ I h) λr s1 ⟨v,H1,I1,rv,q1⟩=>thn (ho pins s1 σ H1 _ I1 q1) λu s2 ⟨x,H2,I2,rx,q2⟩=>thn (hi pins s2 σ H2 _ I2 q2) λiv s3 ⟨y,H3,I3,ry,a,H4,ex,g,q3⟩=>?_) hs
 subst ex
 obtain rfl:u=Value.ref a:=rx
 exact qk8 hu I3 g ry rv λs4 I4=>⟨σ,H4,I4,q3⟩
end
theorem dk_empty{P:Program}{w:World}{H:Hp}(h:Heap)(hb:sysModules<h.objs.size):ya7 P w H (h.push { cls:=.type "dict",data:=.dict #[] }) h.objs.size (.dK []):=
 ⟨zero_le _,beq_eq_false_iff_ne.mpr (Ne.symm (ne_of_lt hb)),[],.nil,Heap.DictOf.new h⟩
def tDNewK:TE:=λ_ H Q=>∀p,H p=none->Q (.ref p) (upd H p (.dK []))
section
variable {X:Cx}{pos:Pos}
theorem yek:PE X (.Dict [] [] pos) tDNewK:=λpins s σ H Q I h=>
 wpAny_Dict_empty ⟨.ref s.heap.objs.size,_,I.laid (a:=s.heap.objs.size) (o:=.dK []) (t':=s.toks) (λ_ _ q=>get?_push_of_some _ q) (le_refl _) (dk_empty s.heap I.big),rfl,h _ (I.hok.fresh (le_refl _))⟩
end
section
variable {κ:Type} [DecidableEq κ]
theorem qlr{kvs:List (κ×V)}{k:κ}{v:V}(h:valV kvs k=some v):k∈kvs.map (·.1):=by
 have q:(kvs.any λkv=>decide (kv.1=k))=true:=by
  rw[ycc,h]
  all_goals rfl
 obtain ⟨p,hp,e⟩:=any_eq_true.mp q
 exact mem_map.mpr ⟨p,hp,of_decide_eq_true e⟩
theorem yhq:∀{l:List κ}{k:κ},l.Nodup->¬ k∈l->(l++[k]).Nodup
 |[],k,_,_=>by simp
 |a::r,k,h,hk=>by
  obtain ⟨h1,h2⟩:=nodup_cons.mp h
  show (a::(r++[k])).Nodup
  refine nodup_cons.mpr ⟨λm=>?_,yhq h2 λm=>hk (mem_cons.mpr (Or.inr m))⟩
  rcases mem_append.mp m with q|q
  ·exact h1 q
  ·exact hk (mem_cons.mpr (Or.inl (mem_singleton.mp q).symm))
end
end L2
namespace Mx
open PySem L2 PyProof.Rows
structure QE(X:Cx)(e:Expr)(t:TE):Prop where
 of:PE X e t
section
variable {X:Cx}{e o i:Expr}{te td ty:TE}{pos:Pos}
theorem qaa(h:PE X e te):QE X e te:=⟨h⟩
theorem qja(hu:X.A.units+1<cLine)(ho:QE X o td)(hi:QE X i ty)(hs:NoSl i):QE X (.Subscript o i pos) (tDGet td ty):=⟨pe_dget hu ho.of hi.of hs⟩
theorem qgz{i:Nat}{x:Str}{pos':Pos}(hN:X.N.Nodup)(hi:X.N[i]?=some x)(hx:Loc X.env.scope x)(he:QE X e te)(hs:swapsWith e (some (.Name x pos')) pos.line X.env=pure false:=by rfl)(hf:X.fn x=true\/X.env.scope.names.lookup x=some .local:=by first|exact .inl rfl|exact .inr rfl|assumption) :
  QS X (.Assign [.Name x pos'] e pos) (tAsg te (ydm i)):=⟨ps_set hN hi hx he.of hs hf⟩
theorem qsE(i:Nat){x:Str}{pos':Pos}(hN:X.N.Nodup)(he:QE X e te)(hi:X.N[i]?=some x:=by rfl)(hx:Loc X.env.scope x:=by exact Or.inl rfl)(hs:swapsWith e (some (.Name x pos')) pos.line X.env=pure false:=by rfl)(hf:X.fn x=true\/X.env.scope.names.lookup x=some .local:=by first|exact .inl rfl|exact .inr rfl|assumption):QS X (.Assign [.Name x pos'] e pos) (tAsg te (ydm i)):=qgz hN hi hx he hs hf
theorem qas(he:QE X e te):QS X (.Return (some e) pos) (tRet te):=⟨yap he.of⟩
structure QT(X:Cx)(e:Expr)(t:TT):Prop where
 of:PT X e t
theorem qt_of{t:TT}(h:PT X e t):QT X e t:=⟨h⟩
theorem qbc{a b:List Stmt}{t u:TS}{c:Expr}{tc:TT}(hc:QT X c tc)(ha:QSs X a t)(hb:QSs X b u):QS X (.If c a b pos) (tIfS tc t u):=⟨qbh hc.of ha.of hb.of⟩
def tTStrs(xs:List Str):TE:=λ_ H Q=>xs.length<=sizeLine/\∀p,H p=none->Q (.ref p) (upd H p (.tup (xs.map V.str)))
theorem qe_tstrs{es:List Expr}{k}{xs:List Str}(h:qjt es=some xs):QE X (.Tuple es k pos) (tTStrs xs):=⟨by
 intro pins s σ H Q I hq
 refine yda (qk6 h) pins s σ H Q I ?_
 exact ⟨by rw[length_map];exact hq.1,hq.2⟩⟩
theorem ya9{a b:Expr}{ta tb:TE}{op:CmpOp}{r:R2}(ho:OpR X (compareOp op) r)(ha:QE X a ta)(hb:QE X b tb)(hm:behindInMarks op b=false):QT X (.Compare a [op] [b] pos) (tTest (tOp r ta tb)):=⟨qao ho ha.of hb.of hm⟩
theorem qav{a b:Expr}{ta tb:TE}{r:R2}(hr:IxR X r)(ha:QE X a ta)(hb:QE X b tb)(hs:ql2 b:=by intro _ _;rfl):QE X (.Subscript a b pos) (tOp r ta tb):=⟨qaq hr ha.of hb.of hs⟩
structure QA(X:Cx)(es:List Expr)(t:TA):Prop where
 of:PA X es t
theorem yad:QA X [] tNil:=⟨qad⟩
theorem qa_cons{es:List Expr}{t:TA}(ha:QE X e te)(hr:QA X es t)(hs:starEach (e::es) X.env=(false,eval e X.env)::starEach es X.env:=by rfl):QA X (e::es) (qdm te t):=⟨yaa ha.of hr.of hs⟩
theorem qa5{es:List Expr}{t:TA}(h:QA X es t):QE X (.List es pos) (tLst t):=⟨ycw h.of⟩
theorem qbl{es:List Expr}{k}{t:TA}(h:QA X es t):QE X (.Tuple es k pos) (tTup t):=⟨yda h.of⟩
end
section
variable {X:Cx}{e a b c:Expr}{es:List Expr}{te ta tb:TE}{t:TA}{tA tB':TT}{pos p:Pos}{x:Str}{rest:List Expr}
theorem yas{k:Const}{j}(ha:QE X (.Constant k j pos) te)(hr:QA X es t):QA X (.Constant k j pos::es) (qdm te t):=⟨pa_cs ha.of hr.of⟩
theorem yah{x:Str}(ha:QE X (.Name x pos) te)(hr:QA X es t):QA X (.Name x pos::es) (qdm te t):=⟨ybt ha.of hr.of⟩
theorem qfd{f xs ks}(ha:QE X (.Call f xs ks pos) te)(hr:QA X es t):QA X (.Call f xs ks pos::es) (qdm te t):=⟨pa_cl ha.of hr.of⟩
theorem ycu{o i:Expr}(ha:QE X (.Subscript o i pos) te)(hr:QA X es t):QA X (.Subscript o i pos::es) (qdm te t):=⟨yaa ha.of hr.of rfl⟩
theorem ygz{o i:Expr}{op}(ha:QE X (.BinOp o op i pos) te)(hr:QA X es t):QA X (.BinOp o op i pos::es) (qdm te t):=⟨yaa ha.of hr.of rfl⟩
theorem qc3{xs k}(ha:QE X (.Tuple xs k pos) te)(hr:QA X es t):QA X (.Tuple xs k pos::es) (qdm te t):=⟨yaa ha.of hr.of rfl⟩
theorem ql9{xs}(ha:QE X (.List xs pos) te)(hr:QA X es t):QA X (.List xs pos::es) (qdm te t):=⟨yaa ha.of hr.of rfl⟩
theorem qa_lc{l o r}(ha:QE X (.ListComp l o r pos) te)(hr:QA X es t):QA X (.ListComp l o r pos::es) (qdm te t):=⟨yaa ha.of hr.of rfl⟩
theorem yat{op:Operator}{r:R2}(ho:OpR X (binaryOp op) r)(ha:QE X a ta)(hb:QE X b tb):QE X (.BinOp a op b pos) (tOp r ta tb):=⟨qb7 ho ha.of hb.of⟩
theorem qe_cmpR{op:CmpOp}{r:R2}(ho:OpR X (compareOp op) r)(ha:QE X a ta)(hb:QE X b tb)(hm:behindInMarks op b=false):QE X (.Compare a [op] [b] pos) (tOp r ta tb):=⟨qat ho ha.of hb.of hm⟩
theorem qhj(hc:QT X c tA)(ha:QE X a ta)(hb:QE X b tb):QE X (.IfExp c a b pos) (tIf tA ta tb):=⟨qfg hc.of ha.of hb.of⟩
theorem qe_mid(h:QE X e te):QE X e (tMid te):=⟨pe_mid h.of⟩
structure QW(X:Cx)(e:Expr)(t:TT):Prop where
 of:PW X e t
theorem yk9(ha:QT X a tA):QW X (.BoolOp .And [a] pos) tA:=⟨qcq ha.of⟩
theorem ygj(ha:QT X a tA):QW X (.BoolOp .Or [a] pos) tA:=⟨qjn ha.of⟩
theorem qw_and(ha:QT X a tA)(hb:QW X (.BoolOp .And (b::rest) pos) tB'):QW X (.BoolOp .And (a::b::rest) pos) (tAnd tA tB'):=⟨ycv ha.of hb.of⟩
theorem yiz(ha:QT X a tA)(hb:QW X (.BoolOp .Or (b::rest) pos) tB'):QW X (.BoolOp .Or (a::b::rest) pos) (tOr tA tB'):=⟨pw_or ha.of hb.of⟩
theorem QW.pt(h:QW X e tA):QT X e tA:=⟨h.of.pt⟩
theorem qcx(ha:QT X a tA):QT X (.UnaryOp .Not a pos) (tNot tA):=⟨qc2 ha.of⟩
theorem ybq{f xs ks}(h:QE X (.Call f xs ks pos) te):QT X (.Call f xs ks pos) (tB te):=⟨qcl h.of⟩
variable {id T:String}{r:List V->Hp->VK->Prop}
theorem qax(hc:yb6 X (.builtin id) r)(hg:Gl X x)(hm:X.mg x=none)(hv:bootBuiltins x=some (.builtin id))(ha:QA X (e::es) t)(hn:x≠"__name__":=by decide)(hdb:(x == ("__debug__" : Str))=false:=by decide)
  (he:starEach (e::es) X.env=(false,eval e X.env)::starEach es X.env:=by rfl) (hpl:(backTo pos (starEach es X.env)).any (·.1)=false:=by rfl):QE X (.Call (.Name x p) (e::es) [] pos) (tCB r t):=⟨qai hc hg hm hv ha.of hn hdb he hpl⟩
theorem qch(hc:yb6 X (.type T) r)(hg:Gl X x)(hm:X.mg x=none)(hv:bootBuiltins x=some (.type T))(ha:QA X (e::es) t)(hn:x≠"__name__":=by decide)(hdb:(x == ("__debug__" : Str))=false:=by decide)
  (he:starEach (e::es) X.env=(false,eval e X.env)::starEach es X.env:=by rfl) (hpl:(backTo pos (starEach es X.env)).any (·.1)=false:=by rfl):QE X (.Call (.Name x p) (e::es) [] pos) (tCB r t):=⟨yc7 hc hg hm hv ha.of hn hdb he hpl⟩
theorem qaj{k m:Nat}{ps:List Str}{sp:Sp}(h:Has X.prog X.w X.K X.mg X.base k x ps sp)(hr:Room m X.A)(ha:QA X (e::es) t)(hk:k<=m:=by decide)(hg:Gl X x:=by rfl)
  (hdb:(x == ("__debug__" : Str))=false:=by decide) (he:starEach (e::es) X.env=(false,eval e X.env)::starEach es X.env:=by rfl) (hpl:(backTo pos (starEach es X.env)).any (·.1)=false:=by rfl):QE X (.Call (.Name x p) (e::es) [] pos) (tCall sp [] E0 t):=⟨yag h hr ha.of hk hg hdb he hpl⟩
structure QI(X:Cx)(tg iter:Expr)(wi:TI):Prop where
 of:PI X tg iter wi
theorem ygg{tg iter:Expr}{wi:TI}(h:PI X tg iter wi):QI X tg iter wi:=⟨h⟩
theorem qf9{tg l:Expr}{tl:TE}(h:QE X l tl):QI X tg l (iList X.K tl):=⟨ya8 h.of⟩
theorem yb2{tg iter:Expr}{body:List Stmt}{wi:TI}{g:TG}{tb:TS}(hp:PassesOwn (model X.prog X.w) X.A X.env X.xe)(hc:X.calm=true)(hi:QI X tg iter wi)(hg:PG X tg g)(hb:QSs X body tb)(hs:∀x,foldedSetIterable iter X.env x=pure x:=by intro _;rfl):QS X (.For tg iter body [] pos) (tFor wi g tb):=⟨qb5 hp hc hi.of hg hb.of hs⟩
theorem qar(he:QE X e te)(hs:swapsWith e none pos.line X.env=pure false:=by rfl):QS X (.Expr e pos) (tDrop te):=⟨qbk he.of hs⟩
theorem qs_asg{tg:Expr}{g:TG}(he:QE X e te)(hg:PG X tg g)(hs:swapsWithSole [tg] e pos.line X.env=pure false:=by rfl)(hw:swappedStores [tg] e X.env=pure none:=by rfl)(h1:(assignEach [tg] X.env).map (·.2)=[assign tg X.env]:=by rfl):QS X (.Assign [tg] e pos) (tAsg te g):=⟨ylc he.of hg hs hw h1⟩
end
theorem yam{X:Cx}{st:Stmt}{rest ss:List Stmt}{t:TS}(h:ss=st::rest)(p:QSs X (st::rest) t):QSs X ss t:=h ▸ p
section
variable {P:Program}{w:World}{K:W.Frag}{mg:Str->Option Value}{base:Heap}
theorem Has.ofQ{x:Str}{st:Stmt}{ps N:List Str}{k:Nat}{sp:Sp}(F:FnAt K mg x st ps)(S:FnScope N ps (yac st))(len:∀vs H Q E,sp vs H Q E->vs.length=ps.length)
  (hbody:∀(f:Addr) (cdv:Value) (A:Around) (outer:List Env) (s:Shared) (H:Hp) (vs:List V) (Q:VK) (E:XK),Room k (A.deeper (envOfC x (yac st) s.heap.objs.size f cdv))->sp vs H Q E->
   ∃t,QSs (cxOf CX0 P w K mg base N x (yac st) f cdv A outer s H E).nox (yar st) t/\t { nx:=λ_ H'=>Q .non H',rt:=Q } (start N vs) H):Has P w K mg base (k+1) x ps sp:=
 Has.of F S len λf cdv A outer s H vs Q E hr h=>by
  obtain ⟨t,h1,h2⟩:=hbody f cdv A outer s H vs Q E hr h
  exact ⟨t,h1.of,h2⟩
theorem Fun.okQ{x qual:Str}{st:Stmt}{f:Addr}{fd:FuncData}{N ps:List Str}{k:Nat}{sp:Sp}(F:Fun K x qual st f fd)(S:FnScope N ps (yac st))(len:∀vs H Q E,sp vs H Q E->vs.length=ps.length)
  (hbody:∀(cdv:Value) (A:Around) (outer:List Env) (s:Shared) (H:Hp) (vs:List V) (Q:VK) (E:XK),Room k (A.deeper (envOfC qual (yac st) s.heap.objs.size f cdv))->sp vs H Q E->
   ∃t,QSs (cxOf CX0 P w K mg base N qual (yac st) f cdv A outer s H E).nox (yar st) t/\t { nx:=λ_ H'=>Q .non H',rt:=Q } (start N vs) H):FnOk P w K mg base CX0 (k+1) f fd ps sp:=
 F.ok S len λcdv A outer s H vs Q E hr h=>by
  obtain ⟨t,h1,h2⟩:=hbody cdv A outer s H vs Q E hr h
  exact ⟨t,h1.of,h2⟩
end
def ybh(K:W.Frag)(C:Addr)(m qual:Str)(st:Stmt)(ps:List Str):Prop:=∃f fd,Meth K C m f/\Fun K m qual st f fd/\qef K fd ps []
def HasM(P:Program)(w:World)(K:W.Frag)(mg:Str->Option Value)(base:Heap)(C:Addr)(k:Nat)(m:Str)(ps:List Str)(sp:Sp):Prop:=
 ∃f fd,Meth K C m f/\qef K fd ps []/\FnOk P w K mg base CX0 k f fd ps sp
def HasI(P:Program)(w:World)(K:W.Frag)(mg:Str->Option Value)(base:Heap)(C:Addr)(k:Nat)(x:Str)(ps:List Str)(sp:Sp):Prop:=
 ∃f fd,mg x=some (.ref C)/\Mk K C f/\qef K fd ps []/\FnOk P w K mg base CX0 k f fd ps sp
section
variable {P:Program}{w:World}{K:W.Frag}{mg:Str->Option Value}{base:Heap}{C:Addr}
theorem HasM.ofQ{m qual:Str}{st:Stmt}{ps N:List Str}{k:Nat}{sp:Sp}(F:ybh K C m qual st ps)(S:FnScope N ps (yac st))(len:∀vs H Q E,sp vs H Q E->vs.length=ps.length)
  (hbody:∀(f:Addr) (cdv:Value) (A:Around) (outer:List Env) (s:Shared) (H:Hp) (vs:List V) (Q:VK) (E:XK),Room k (A.deeper (envOfC qual (yac st) s.heap.objs.size f cdv))->sp vs H Q E->
   ∃t,QSs (cxOf CX0 P w K mg base N qual (yac st) f cdv A outer s H E).nox (yar st) t/\t { nx:=λ_ H'=>Q .non H',rt:=Q } (start N vs) H):HasM P w K mg base C (k+1) m ps sp:=by
 obtain ⟨f,fd,h1,h2,h3⟩:=F
 exact ⟨f,fd,h1,h3,Mx.Fun.okQ h2 S len λcdv A outer s H vs Q E hr h=>hbody f cdv A outer s H vs Q E hr h⟩
theorem HasI.of{x m:Str}{ps:List Str}{k:Nat}{sp:Sp}{f:Addr}(hm:mg x=some (.ref C))(M:Mk K C f)(u:∀g,Meth K C "__init__" g->g=f)(h:HasM P w K mg base C k "__init__" ps sp):HasI P w K mg base C k x ps sp:=by
 obtain ⟨g,fd,h1,h2,h3⟩:=h
 have:=u g h1
 subst this
 exact ⟨g,fd,hm,M,h2,h3⟩
theorem yk3{m:Str}{f g:Addr}(a:W.findIn K (.ref C) m=some (some (.ref f)))(b:Meth K C m g):g=f:=by
 have:=b.at_
 rw[a]at this
 cases this
 rfl
end
section
variable {X:Cx}{e o value:Expr}{es:List Expr}{te ta tv:TE}{t:TA}{pos p apos pos':Pos}{C:Addr}{m x f:Str}
theorem ybk{k n:Nat}{ps:List Str}{sp:Sp}{pl:Sem Bool}(c:Cls X.K C)(h:HasM X.prog X.w X.K X.mg X.base C k m ps sp)(hr:Room n X.A)(he:QE X o ta)(ha:QA X (e::es) t)(hk:k<=n:=by decide)
  (hst:starEach (e::es) X.env=(false,eval e X.env)::starEach es X.env:=by rfl) (hpl:(backTo pos (starEach es X.env)).any (·.1)=false:=by rfl)
  (ht:eval (.Call (.Attribute o m apos) (e::es) [] pos) X.env=(do
   let ov <-eval o X.env
   standAt apos.atName
   let (f,first) <-holding [ov] (getMethod ov m pl)
   callWith pos f first (backTo pos (starEach (e::es) X.env)) (backToKw pos (keywordEach [] X.env))):=by rfl) :
  QE X (.Call (.Attribute o m apos) (e::es) [] pos) (tMeth C m sp [] E0 ta t):=by
 obtain ⟨f,fd,h1,h2,h3⟩:=h
 exact ⟨pe_meth (pl:=pl) he.of c h1 h3 (hr.mono hk) h2 .nil pass0 ha.of hst hpl ht⟩
theorem qiq{k n:Nat}{ps:List Str}{sp:Sp}{pl:Sem Bool}(c:Cls X.K C)(h:HasM X.prog X.w X.K X.mg X.base C k m ps sp)(hr:Room n X.A)(he:QE X o ta)(hk:k<=n:=by decide)
  (ht:eval (.Call (.Attribute o m apos) [] [] pos) X.env=(do
   let ov <-eval o X.env
   standAt apos.atName
   let (f,first) <-holding [ov] (getMethod ov m pl)
   callWith pos f first (backTo pos (starEach [] X.env)) (backToKw pos (keywordEach [] X.env))):=by rfl) :
  QE X (.Call (.Attribute o m apos) [] [] pos) (tMeth C m sp [] E0 ta tNil):=by
 obtain ⟨f,fd,h1,h2,h3⟩:=h
 exact ⟨pe_meth0 (pl:=pl) he.of c h1 h3 (hr.mono hk) h2 .nil pass0 ht⟩
theorem qhf{k n:Nat}{ps:List Str}{sp:Sp}(h:HasI X.prog X.w X.K X.mg X.base C k x ps sp)(hr:Room n X.A)(ha:QA X (e::es) t)(hk:k+1<=n:=by decide)(hg:Gl X x:=by rfl)
  (hdb:(x == ("__debug__" : Str))=false:=by decide) (he:starEach (e::es) X.env=(false,eval e X.env)::starEach es X.env:=by rfl) (hpl:(backTo pos (starEach es X.env)).any (·.1)=false:=by rfl) :
  QE X (.Call (.Name x p) (e::es) [] pos) (tMake C sp [] E0 t):=by
 obtain ⟨f,fd,h0,h1,h2,h3⟩:=h
 exact ⟨pe_make h1 h3 (hr.mono hk) hg h0 h2 .nil pass0 ha.of hdb he hpl⟩
theorem qbn(he:QE X e ta)(hb:attributeBase e f X.env (eval e X.env)=eval e X.env):QE X (.Attribute e f pos) (tFld X.K ta f):=⟨pe_fld he.of hb⟩
theorem yji(ha:QE X o ta)(hv:QE X value tv)(hs:swapsWith value (some (.Attribute o f pos')) pos.line X.env=pure false):QS X (.Assign [.Attribute o f pos'] value pos) (sFld X.K ta tv f):=⟨ps_fld ha.of hv.of hs⟩
theorem qhu{b:Expr}{g:Str}(ha:QE X (.Attribute b g pos) te)(hr:QA X es t):QA X (.Attribute b g pos::es) (qdm te t):=⟨yaa ha.of hr.of rfl⟩
end
section
variable {X:Cx}{o e:Expr}{es:List Expr}{te to:TE}{t:TA}{pos p2:Pos}
theorem qe_sl{lo hi:Option Expr}{tl th:TO}{r:V->Option Int->Option Int->Hp->VK->Prop}(hr:SlR X r)(he:QE X e te)(hl:PO X lo tl)(hu:PO X hi th):QE X (.Subscript e (.Slice lo hi none p2) pos) (tSl r te tl th):=⟨qg5 hr he.of hl hu⟩
theorem ymf{name:Str}{apos cpos:Pos}{T id:String}{r:V->List V->Hp->VK->Prop}(pa:PlainAttrs T)(slot:Slot T name id)(hty:typeOf (.builtin id)=pure (.type "method_descriptor"))(hm:MtR X id r)(ho:QE X o to)(ha:QA X (e::es) t)
  (hbase:attributeBase o name X.env (eval o X.env)=eval o X.env:=by rfl)
  (hfew:((backTo cpos (starEach (e::es) X.env)).all (λx=>!x.1)&&(backToKw cpos (keywordEach [] X.env)).all (λx=>x.1.isSome)
   && decide ((e::es).length+([]:List Keyword).length+(if ([]:List Keyword).isEmpty then 0 else 1)<30))=true:=by rfl)
  (hline:(apos.endLine == cpos.line)=true:=by rfl) (hs:starEach (e::es) X.env=(false,eval e X.env)::starEach es X.env:=by rfl) (hplain:(backTo cpos (starEach es X.env)).any (·.1)=false:=by rfl) :
  QE X (.Call (.Attribute o name apos) (e::es) [] cpos) (tBM X.K T r to t):=⟨yga pa slot hty hm ho.of ha.of hbase hfew hline hs hplain⟩
end
end Mx
namespace L2
open PySem PyProof.Rows
def Lay(L:List Addr)(te:TE)(σ:L2.St)(d:PyData)(H:Hp):Prop:=(∀b∈L,H b≠none)->∀H1,Same H H1->∀Q:VK,(∀v H',Same H1 H'->At (yb7 H' L) v d->Q v H')->te σ H1 Q
def LayA(L:List Addr)(ta:TA)(σ:L2.St)(ds:List PyData)(H:Hp):Prop:=(∀b∈L,H b≠none)->∀H1,Same H H1->∀Q:List V->Hp->Prop,(∀vs H',Same H1 H'->AtAll (yb7 H' L) vs ds->Q vs H')->ta σ H1 Q
theorem yl9{L:List Addr}{H H1:Hp}{p:Addr}(hL:∀b∈L,H b≠none)(s:Same H H1)(hp:H1 p=none):p∉L:=λz=>by
 cases e:H p with
 |none=>exact hL p z e
 |some o=>rw[s _ _ e]at hp;cases hp
section
variable {K:W.Frag}{σ:L2.St}{H:Hp}{te tf:TE}{ta:TA}{d:PyData}{ds es:List PyData}{L:List Addr}
theorem qeu:LayA L tNil σ [] H:=λhL H1 s Q k=>k [] H1 (smR H1) .nil
theorem ybl(h:Lay L te σ d H)(r:LayA L ta σ ds H):LayA L (qdm te ta) σ (d::ds) H:=λhL H1 s Q k=>
 h hL H1 s _ λv H2 s2 a2=>r hL H2 (s.trans s2) _ λvs H3 s3 a3=>k (v::vs) H3 (s2.trans s3) (.cons (a2.same (ybn s3 L)) a3)
theorem new_tup{H0 H2:Hp}{p:Addr}{vs:List V}(hL:∀b∈L,H0 b≠none)(s:Same H0 H2)(hp:H2 p=none)(a:AtAll (yb7 H2 L) vs ds):At (yb7 (upd H2 p (.tup vs)) L) (.ref p) (.tuple ds):=
 .tup (by rw[qfr (yl9 hL s hp)];exact qab) (a.same (ybn ((smR H2).upd hp) L))
theorem yjh{H0 H2:Hp}{p:Addr}{vs:List V}(hL:∀b∈L,H0 b≠none)(s:Same H0 H2)(hp:H2 p=none)(a:AtAll (yb7 H2 L) vs ds):At (yb7 (upd H2 p (.lst vs)) L) (.ref p) (.list ds):=
 .lst (by rw[qfr (yl9 hL s hp)];exact qab) (a.same (ybn ((smR H2).upd hp) L))
theorem qhh(h:LayA L ta σ ds H)(z:ds.length<=1000:=by exact le_of_ble_eq_true rfl):Lay L (tTup ta) σ (.tuple ds) H:=λhL H1 s Q k=>
 h hL H1 s _ λvs H2 s2 a2=>⟨by rw[a2.length];exact le_trans z (by decide),λp hp=>k _ _ (s2.upd hp) (new_tup hL (s.trans s2) hp a2)⟩
theorem yd0(h:LayA L ta σ ds H)(z:ds.length<=1000:=by exact le_of_ble_eq_true rfl):Lay L (tLst ta) σ (.list ds) H:=λhL H1 s Q k=>
 h hL H1 s _ λvs H2 s2 a2=>⟨by rw[a2.length];exact le_trans z (by decide),λp hp=>k _ _ (s2.upd hp) (yjh hL (s.trans s2) hp a2)⟩
theorem ymi:Lay L (tC .non) σ .none H:=λhL H1 s Q k=>k _ H1 (smR H1) .non
theorem lay_bl{b:Bool}:Lay L (tC (.bl b)) σ (.bool b) H:=λhL H1 s Q k=>k _ H1 (smR H1) (.bl b)
theorem qd4{i:Int}:Lay L (tC (.int i)) σ (.int i) H:=λhL H1 s Q k=>k _ H1 (smR H1) (.int i)
theorem qg0{x:Str}:Lay L (tC (.str x)) σ (.str x) H:=λhL H1 s Q k=>k _ H1 (smR H1) (.str x)
theorem ylr{i:Int}:Lay L (tUn (rU λi=>V.int (-i)) (tC (.int i))) σ (.int (-i)) H:=λhL H1 s Q k=>⟨i,rfl,k _ H1 (smR H1) (.int _)⟩
theorem yhe{i:Nat}{v:V}(hσ:σ[i]?=some (some v))(h:At (yb7 H L) v d):Lay L (tVar i) σ d H:=λhL H1 s Q k=>⟨v,hσ,k v H1 (smR H1) (h.same (ybn s L))⟩
theorem qk1(h1:Lay L te σ (.list ds) H)(h2:Lay L tf σ (.list es) H)(z:ds.length+es.length<=1000):Lay L (tOp rCat te tf) σ (.list (ds++es)) H:=λhL H1 s Q k=>
 h1 hL H1 s _ λv H2 s2 a2=>h2 hL H2 (s.trans s2) _ λu H3 s3 a3=>by
  obtain ⟨a,vs,rfl,ha,hw⟩:=(a2.same (ybn s3 L)).lstEq
  obtain ⟨b,us,rfl,hb,hu⟩:=a3.lstEq
  exact ⟨a,b,vs,us,rfl,rfl,qba _ _ _ _ ha,qba _ _ _ _ hb,by rw[hw.length,hu.length];exact le_trans z (by decide),λp hp=>k _ _ ((s2.trans s3).upd hp) (yjh hL ((s.trans s2).trans s3) hp (hw.append hu))⟩
theorem qif{H:Hp}{vs:List V}{ds:List PyData}(h:AtAll H vs ds):∀n,AtAll H (List.replicate n vs).flatten (List.replicate n ds).flatten
 |0=>.nil
 |n+1=>by
  rw[replicate_succ,replicate_succ,flatten_cons,flatten_cons]
  exact h.append (qif h n)
theorem ymg{n:Nat}(h1:Lay L te σ (.list ds) H)(hn:n<=1000)(z:ds.length*n<=1000):Lay L (tOp rRep te (tC (.int n))) σ (.list (List.replicate n ds).flatten) H:=λhL H1 s Q k=>
 h1 hL H1 s _ λv H2 s2 a2=>by
  obtain ⟨a,vs,rfl,ha,hw⟩:=a2.lstEq
  refine ⟨a,n,vs,rfl,rfl,qba _ _ _ _ ha,by omega,by omega,by rw[hw.length,toNat_natCast];exact le_trans z (by decide),λp hp=>k _ _ (s2.upd hp) ?_⟩
  rw[toNat_natCast]
  exact yjh hL (s.trans s2) hp (qif hw n)
theorem gn{i:Nat}{v:V}{σ:L2.St}{H:Hp}{Q:L2.St->Hp->Prop}(h:Q (σ.set i (some v)) H):ydm i v σ H Q:=h
theorem yma{Q:VK}(h:Lay L te σ d H)(hL:∀b∈L,H b≠none)(k:∀v H',Same H H'->At (yb7 H' L) v d->Q v H'):te σ H Q:=h hL H (smR H) Q k
theorem lay_set{i:Nat}{rest:TS}{KK:Ends}(h:Lay [] te σ d H)(k:∀v H',Same H H'->At H' v d->rest KK (σ.set i (some v)) H'):tSeq (tAsg te (ydm i)) rest KK σ H:=
 h (λb hb=>by cases hb) H (smR H) _ λv H' s a=>k v H' s (a.same (qba _ _))
end
end L2
namespace L2
open PySem PySem.Spec PyProof.Rows
theorem yk5{a b:List Int}(p:a.Perm b)(ha:a.Pairwise (·<=·))(hb:b.Pairwise (·<=·)):a=b:=p.eq_of_pairwise (λx y _ _ h1 h2=>Int.le_antisymm h1 h2) ha hb
theorem qke{x y:Int}(h0:0<y)(h1:y<=18446744073709551616):Builtin.divisionGoesByPylong x y=false:=by
 have hl:y.natAbs.log2<65:=(Nat.log2_lt (by omega)).mpr (by omega)
 unfold Builtin.divisionGoesByPylong
 have e:decide ((if (y == 0)=true then 0 else y.natAbs.log2 / 30+1)>300)=false:=by
  refine decide_eq_false ?_
  rw[if_neg (by simp;omega)]
  omega
 show (decide ((if (y == 0)=true then 0 else y.natAbs.log2 / 30+1)>300)&&_)=false
 rw[e]
 rfl
section
variable {X:Cx}
def CDivB(_ j:Int):Prop:=0<j/\j<=18446744073709551616
theorem op_fdivB:OpR X (binaryOp .FloorDiv) (rI CDivB λi j=>.int (i / j)):=opI λi j _ _ _ _ _ hc q=>by
 have h1:(0:Int)<j:=hc.1
 exact floordiv_int (by omega) (by rw[Int.fdiv_eq_ediv_of_nonneg i (by omega)];exact q) (.inl (qke hc.1 hc.2))
def rSetdef:V->List V->Hp->VK->Prop:=λx vs H Q=>∃(a:Addr) (kvs:List (Key×V)) (k:Key) (v:V),x=.ref a/\vs=[kV k,v]/\H a=some (.dK kvs)/\kvs.length<sizeLine/\
 (∀y,valV kvs k=some y->Q y H)/\(valV kvs k=none->Q v (upd H a (.dK (putK kvs k v))))
theorem ylm:MtM X "dict.setdefault" rSetdef:=by
 intro pins s σ H x vs v us Q I rx rv h
 obtain ⟨a,kvs,k,d,rfl,rfl,ha,hl,q1,q2⟩:=h
 cases rx
 cases rv
 rename_i u us' ru rv'
 obtain ⟨r,rfl,rr⟩:=Vals.one rv'
 obtain ⟨z1,m1,vs1,r1,dd1⟩:=dk_of I.hok ha
 have l1:=r1.length
 have rk:=r1.val k
 refine call_meetsIn F.slot_dict_setdefault dd1.typeIs F.entry_dict_setdefault (F.args_dict_setdefault_3 _ _ _) (kt_meets_setdefault (ya4 X.prog X.w) a (ykb ru) m1 r) ⟨vs1,dd1,by omega,λw' hw=>?_,λhn h' dd' sb=>?_⟩
 ·rw[hw]at rk
  cases hv:valV kvs k with
  |none=>rw[hv]at rk;exact absurd rk (by intro z;cases z)
  |some y=>
   rw[hv]at rk
   exact ⟨y,_,I.tok _,rk,q1 y hv⟩
 ·rw[hn]at rk
  cases hv:valV kvs k with
  |some y=>rw[hv]at rk;exact absurd rk (by intro z;cases z)
  |none=>
   have he:∃q,h'.get? a=some q:=let ⟨q,_,_,hq,_⟩:=dd';⟨q,hq⟩
   have hl':(putK kvs k d).length<=sizeLine:=by have:=ycp kvs k d;omega
   exact ⟨d,_,qjf I (by rw[ha];exact True.intro) sb he (dk_new hl' m1 (r1.put k rr) dd'),rr,q2 hv⟩
end
section
variable {X:Cx}{pins:List (Addr×Obj)}{σ:St}{H:Hp}{s:Shared}{a:Addr}{kvs:List (Key×V)}
theorem is_kV{P:Program}{w:World}{k:Key}{u:Value}(h:(ya4 P w).is k u=true):RelV (kV k) u:=by
 rcases yav h with ⟨i,t,rfl,rfl⟩|⟨x,t,rfl,rfl⟩<;>exact ⟨t,rfl⟩
theorem Inv.frzD(I:Inv X pins σ H s)(e:H a=some (.dK kvs)):∃o es ep,o.data=.dict es ep/\s.heap.get? a=some o/\Inv X pins σ (upd H a (.frz o (.dK kvs))) s:=by
 obtain ⟨z,hd,vs,r,ob,es,ep,ho,hx,hda,rest⟩:=(show ya7 X.prog X.w H s.heap a (.dK kvs) from I.hok a _ e)
 exact ⟨ob,es,ep,hda,ho,I.write (x:=a) (e:=a) (t':=s.toks) (o:=.frz ob (.dK kvs)) (by rw[e];exact True.intro) (.inl rfl) (λb u _ q=>q) ⟨ob,ho⟩ ⟨ho,z,hd,vs,r,ob,es,ep,ho,hx,hda,rest⟩⟩
theorem Inv.frzAt{o:Obj}{es:Array DictEntry}{ep:Nat}(I:Inv X pins σ H s)(e:H a=some (.frz o (.dK kvs)))(hda:o.data=.dict es ep):kvs.length<=sizeLine/\(a == sysModules)=false/\∃vs,KV kvs vs/\s.heap.DictAt (ya4 X.prog X.w) a vs ep:=by
 obtain ⟨ho,z,hd,vs,r,ob,es',ep',ho',hx,hda',rest⟩:=(show ya7 X.prog X.w H s.heap a (.frz o (.dK kvs)) from I.hok a _ e)
 rw[ho]at ho';cases ho'
 rw[hda]at hda';cases hda'
 exact ⟨z,hd,vs,r,o,es,ho,hx,hda,rest⟩
theorem KV.at_{kvs:List (Key×V)}{vs:List (Key×Value)}(r:KV kvs vs):∀{i:Nat},i<kvs.length->∃k v u,kvs[i]?=some (k,v)/\vs[i]?=some (k,u)/\RelV v u:=by
 induction r with
 |nil=>intro i h;exact absurd h (not_lt_zero _)
 |@cons p q l1 l2 h _ ih=>
  intro i hi
  cases i with
  |zero=>exact ⟨p.1,p.2,q.2,rfl,by rw[h.1];rfl,h.2⟩
  |succ i=>exact ih (i:=i) (by simpa using hi)
def Itd(a:Addr)(o:Obj)(kvs:List (Key×V)):It:=
 ⟨λi H=>H a=some (.frz o (.dK kvs))/\i<kvs.length,λi H x H'=>H'=H/\∃k v,kvs[i]?=some (k,v)/\x=kV k,λi H=>H a=some (.frz o (.dK kvs))/\kvs.length<=i⟩
theorem qlo{P:Program}{w:World}{K:W.Frag}{tg:Expr}(a it:Addr)(o:Obj){es:Array DictEntry}{ep:Nat}(hda:o.data=.dict es ep):Turn P w K tg (Itd a o kvs) [it] it (λi h=>h.IsKeyIter it a i kvs.length ep) where
 mem:=by simp
 obj:=λi h st b hb=>by
  have e:b=it:=by simpa using hb
  subst e
  obtain ⟨ob,ho,hc,hd⟩:=st
  exact ⟨ob,ho,λv z=>by rw[hd]at z;cases z⟩
 keep:=λi h h' st k=>st.at (k it (by simp))
 item:=by
  intro X hP hw hK hc i pins s σ H E I hf st hg
  subst hP hw hK
  obtain ⟨f0,f1,f2,f3,f4,f5⟩:=hf it (by simp)
  obtain ⟨z,hd,vs,r,dd⟩:=I.frzAt hg.1 hda
  obtain ⟨k,v,u,e1,e2,rv⟩:=r.at_ hg.2
  have hl:=r.length
  rw[hl]at st
  refine wpAny_pyNext_dict_item st dd e2 λkey h' hk st' sb=>?_
  have I1:Inv X pins σ H { s with heap:=h',toks:=s.toks }:=I.turned (λb o hb e=>(sb.2 b hb).trans e) f0 f1 f3 f4 f5
  obtain ⟨ob,ho,hcl,hdat⟩:=id st'
  exact ⟨key,rfl,go_of (s:={ s with heap:=h' }) (n:="dict_keyiterator") ho hcl hdat (by decide) ⟨kV k,H,I1,is_kV hk,⟨rfl,k,v,e1,rfl⟩,by rw[hl];exact st',λb hb=>(hf b hb).1⟩⟩
 done:=by
  intro X hP hw hK hc i pins s σ H E I hf st hg
  subst hP hw hK
  obtain ⟨f0,f1,f2,f3,f4,f5⟩:=hf it (by simp)
  obtain ⟨z,hd,vs,r,dd⟩:=I.frzAt hg.1 hda
  have hl:=r.length
  rw[hl]at st
  exact wpAny_pyNext_dict_end (I.ok.hd hc) st dd (getElem?_eq_none (by have:=hg.2;omega)) λh' eb=>⟨rfl,I.turned (t':=s.toks) (λb o hb e=>eb b o hb e) f0 f1 f3 f4 f5⟩
 self:=λ_ _ _ _ _ st h=>wpAny_pyIter_keyiter st h
end
section
variable {X:Cx}{kvs:List (Key×V)}
def vwI(v a:Addr):HO:=.ext λh=>h.IsItemsView v a
def rItems:V->List V->Hp->VK->Prop:=λx vs H Q=>∃(a:Addr) (kvs:List (Key×V)),x=.ref a/\vs=[]/\Rd H a (.dK kvs)/\∀v,H v=none->Q (.ref v) (upd H v (vwI v a))
theorem vw_ok{P:Program}{w:World}{H:Hp}(h:Heap)(a:Addr):ya7 P w H (h.push { cls:=.type "dict_items",data:=.fields #[.ref a] }) h.objs.size (vwI h.objs.size a):=
 ⟨⟨_,get?_push_size _ rfl,rfl,rfl⟩,⟨_,get?_push_size _ rfl⟩,λ_ _ ⟨o,ho,r⟩ k=>⟨o,k o ho,r⟩⟩
theorem mt_items:MtM X "dict.items" rItems:=by
 intro pins s σ H x vs v us Q I rx rv h
 obtain ⟨a,kvs,rfl,rfl,ha,q⟩:=h
 cases rx
 cases rv
 obtain ⟨z1,m1,vs1,r1,dd1⟩:=qh9 I.hok ha
 refine call_meetsIn F.slot_dict_items dd1.typeIs F.entry_dict_items (F.args_dict_items_1 _) (meets_dict_items (ya4 X.prog X.w) a m1) ⟨⟨vs1,dd1⟩,?_⟩
 exact ⟨.ref s.heap.objs.size,_,I.laid (a:=s.heap.objs.size) (o:=vwI s.heap.objs.size a) (t':=s.toks) (λ_ _ q=>get?_push_of_some _ q) (le_refl _) (vw_ok s.heap a),rfl,q _ (I.hok.fresh (le_refl _))⟩
theorem qii:entryFor table "dict_itemiterator.__iter__"=some Builtin.«dict_keyiterator.__iter__»:=
 entryFor_alias (id':="dict_keyiterator.__iter__") (by kernel_rfl) rfl (by decide +kernel) (by kernel_rfl)
theorem ykp{prog:Program}{w:World}{A:Around}{E:Value->Shared->Prop}{s:Shared}{it d:Addr}{i n ep:Nat}{ok ov:Value}{Q:Value->Shared->Prop}(hit:IsItemIter s.heap it d i n ep ok ov)(h:Q (.ref it) s):wpAny (model prog w) A (pyIter (.ref it)) Q E s:=by
 have hT:s.TypeIs (.ref it) "dict_itemiterator":=⟨_,hit,rfl⟩
 refine wpAny_pyIter_slot hT F.slot_dict_itemiterator_iter (wpAny_call_entry F.slot_dict_itemiterator_iter hT qii ?_ (F.args_dict_itemiterator_iter_1 _))
 show wpAny _ _ (ret (.ref it)) _ _ s
 exact wpAny_pure ⟨_,rfl,"dict_itemiterator",_,hT,F.slot_dict_itemiterator_next.lookup,h⟩
def Iti(a:Addr)(o:Obj)(kvs:List (Key×V)):It:=
 ⟨λi H=>H a=some (.frz o (.dK kvs))/\i<kvs.length,λi H x H'=>∃p k v,H p=none/\x=.ref p/\H'=upd H p (.tup [kV k,v])/\kvs[i]?=some (k,v),λi H=>H a=some (.frz o (.dK kvs))/\kvs.length<=i⟩
theorem qkl{P:Program}{w:World}{K:W.Frag}{el:List Expr}{k:Nat}{tp:Pos}(a it:Addr)(o:Obj){es:Array DictEntry}{ep:Nat}(hda:o.data=.dict es ep) :
  Turn P w K (.Tuple el k tp) (Iti a o kvs) [it] it (λi h=>∃ok ov,IsItemIter h it a i kvs.length ep ok ov) where
 mem:=by simp
 obj:=λi h st b hb=>by
  have e:b=it:=by simpa using hb
  subst e
  obtain ⟨ok,ov,ho⟩:=st
  exact ⟨_,ho,λv z=>by
   have z':Data.fields _=Data.cell v:=z
   cases z'⟩
 keep:=λi h h' ⟨ok,ov,st⟩ k=>⟨ok,ov,k it (by simp) _ st⟩
 item:=by
  intro X hP hw hK hc i pins s σ H E I hf st hg
  subst hP hw hK
  obtain ⟨z,hd,vs,r,dd⟩:=I.frzAt hg.1 hda
  obtain ⟨k,v,u,e1,e2,rv⟩:=r.at_ hg.2
  have hl:=r.length
  obtain ⟨ok,ov,st⟩:=st
  rw[hl]at st
  refine wpAny_pyNext_items_item st dd e2 λkey h' hk ho hT hsz kk=>?_
  have hil:it<s.heap.objs.size:=lt_size st
  refine ⟨_,rfl,wpAny_letOwnedTupleGo_items ho λh2 he2 hs2=>?_⟩
  have keep2:∀b ob,b∉[it]->s.heap.get? b=some ob->h2.get? b=some ob:=λb ob hb z=>by
   have h3:b≠it:=λq=>hb (by simp[q])
   exact (hs2.2 b h3).trans (kk b ob h3 z)
  have hT2:h2.get? s.heap.objs.size=some { cls:=.type "tuple",data:=.seq #[key,u] }:=(hs2.2 _ (ne_of_gt hil)).trans hT
  have fresh:H s.heap.objs.size=none:=I.hok.fresh (le_refl _)
  have new:ya7 X.prog X.w (upd H s.heap.objs.size (.tup [kV k,v])) h2 s.heap.objs.size (.tup [kV k,v]):=
   ⟨by show 2<=sizeLine;decide,[key,u],.cons (is_kV hk) (.cons rv .nil),⟨_,hT2,rfl,_,rfl⟩⟩
  refine ⟨.ref s.heap.objs.size,upd H s.heap.objs.size (.tup [kV k,v]),I.turnedL keep2 hf (le_refl _) new,rfl,⟨_,k,v,fresh,rfl,rfl,e1⟩,⟨key,u,by rw[hl];exact he2⟩,λb hb=>?_⟩
  rw[yae]
  ·exact (hf b hb).1
  ·have hb':b=it:=by simpa using hb
   rw[hb'];exact ne_of_lt hil
 done:=by
  intro X hP hw hK hc i pins s σ H E I hf st hg
  subst hP hw hK
  obtain ⟨f0,f1,f2,f3,f4,f5⟩:=hf it (by simp)
  obtain ⟨z,hd,vs,r,dd⟩:=I.frzAt hg.1 hda
  have hl:=r.length
  obtain ⟨ok,ov,st⟩:=st
  rw[hl]at st
  exact wpAny_pyNext_items_end (I.ok.hd hc) st dd (getElem?_eq_none (by have:=hg.2;omega)) λh' eb=>⟨rfl,I.turned (t':=s.toks) (λb o hb e=>eb b o hb e) f0 f1 f3 f4 f5⟩
 self:=λ_ _ _ _ _ ⟨ok,ov,st⟩ h=>ykp st h
end
end L2
namespace L2
open PySem PySem.Spec PyProof.Rows PySem.W
section
variable {cmp:Nat->Nat->(Bool->Shared->Prop)->Shared->Prop}{Ok:Shared->Prop}{g:Nat->Int}{n:Nat}
def Ans(cmp:Nat->Nat->(Bool->Shared->Prop)->Shared->Prop)(Ok:Shared->Prop)(g:Nat->Int)(n:Nat):Prop:=
 ∀i j C s,i<n->j<n->Ok s->(∀s',Ok s'->C (decide (g i<g j)) s')->cmp i j C s
def Gk(g:Nat->Int)(p:Array Nat)(k:Nat):Int:=g (p.getD k 0)
def UpTo(g:Nat->Int)(p:Array Nat)(k:Nat):Prop:=∀i j,i<=j->j<k->Gk g p i<=Gk g p j
def DnTo(g:Nat->Int)(p:Array Nat)(k:Nat):Prop:=∀i j,i<=j->j<k->Gk g p j<=Gk g p i
def PmN(p:Array Nat)(n:Nat):Prop:=p.Perm (List.toArray (List.range n))
theorem PmN.size{p:Array Nat}(h:PmN p n):p.size=n:=by rw[h.size_eq];simp
theorem PmN.lt{p:Array Nat}(h:PmN p n){k:Nat}(hk:k<n):p.getD k 0<n:=by
 have hs:k<p.size:=by rw[h.size];exact hk
 have e:p.getD k 0=p[k]:=by simp[Array.getD,hs]
 rw[e]
 have:p[k]∈List.toArray (List.range n):=h.mem_iff.mp (Array.getElem_mem hs)
 simpa using this
theorem yed{p q:Array Nat}{i j:Nat}(h:p[i]?=q[j]?):Gk g p i=Gk g q j:=by
 unfold Gk;rw[<-getD_eq_getD_getElem?.symm,<-getD_eq_getD_getElem?.symm];simp[getD_eq_getD_getElem?,h]
theorem yh3{p:Array Nat}{src d:Nat}(hs:src<p.size)(hd:d<=src)(k:Nat):Gk g (bubble p src d) k=if k=src-d then Gk g p src else if src-d<k/\k<=src then Gk g p (k-1) else Gk g p k:=by
 have e:=getElem?_bubble hs d hd k
 by_cases h1:k=src-d
 ·rw[if_pos h1]at e ⊢;exact yed e
 ·rw[if_neg h1]at e ⊢
  by_cases h2:src-d<k/\k<=src
  ·rw[if_pos h2]at e ⊢;exact yed e
  ·rw[if_neg h2]at e ⊢;exact yed e
theorem ylu{p:Array Nat}{i j:Nat}(hj:j<=p.size)(k:Nat):Gk g (kas_rev p i j) k=if i<=k/\k<j then Gk g p (i+j-1-k) else Gk g p k:=by
 have e:=getElem?_mirror_all (xs:=p) (i:=i) hj k
 unfold kas_rev
 by_cases h1:i<=k/\k<j
 ·rw[if_pos h1]at e ⊢;exact yed e
 ·rw[if_neg h1]at e ⊢;exact yed e
theorem qeo{p:Array Nat}{i j:Nat}(hj:j<=p.size)(heq:∀k,i<=k->k<j->Gk g p k=Gk g p (j-1))(k:Nat):Gk g (kas_rev p i j) k=Gk g p k:=by
 rw[ylu hj]
 split
 ·rw[heq _ (by omega) (by omega),heq k (by omega) (by omega)]
 ·rfl
theorem PmN.rev{p:Array Nat}(h:PmN p n)(i j:Nat):PmN (kas_rev p i j) n:=(mirror_perm p i j _).trans h
theorem PmN.bub{p:Array Nat}(h:PmN p n)(i j:Nat):PmN (bubble p i j) n:=(bubble_perm p i j).trans h
theorem t_asc(hc:Ans cmp Ok g n){p:Array Nat}(hp:PmN p n){Q:Nat->Shared->Prop}:∀(f m:Nat) (s:Shared),1<=m->m+f=n->UpTo g p m->Ok s->
  (∀m' s',Ok s'->m<=m'->m'<=n->UpTo g p m'->(m' < n->Gk g p m' < Gk g p (m' - 1))->Q m' s')->(kas_asc p f m).kasWp cmp Q s
 |0,m,s,h1,hf,hu,ok,q=>q m s ok (le_refl _) (by omega) hu (by omega)
 |f+1,m,s,h1,hf,hu,ok,q=>by
  refine hc _ _ _ s (hp.lt (by omega)) (hp.lt (by omega)) ok λs' ok'=>?_
  by_cases hl:Gk g p m<Gk g p (m-1)
  ·rw[show decide (g (p.getD m 0)<g (p.getD (m-1) 0))=true from decide_eq_true hl]
   exact q m s' ok' (le_refl _) (by omega) hu λ_=>hl
  ·rw[show decide (g (p.getD m 0)<g (p.getD (m-1) 0))=false from decide_eq_false hl]
   refine t_asc hc hp f (m+1) s' (by omega) (by omega) (λi j hij hj=>?_) ok' λm' s'' o1 o2 o3 o4 o5=>q m' s'' o1 (by omega) o3 o4 o5
   by_cases hjm:j<m
   ·exact hu i j hij hjm
   ·have e:j=m:=by omega
    subst e
    by_cases hi:i=j
    ·subst hi;exact Int.le_refl _
    ·exact Int.le_trans (hu i (j-1) (by omega) (by omega)) (Int.not_lt.mp hl)
theorem qlq(hc:Ans cmp Ok g n){Q:Array Nat×Nat×Nat->Shared->Prop}:∀(f:Nat) (p:Array Nat) (m q:Nat) (s:Shared),PmN p n->1<=m->m+f=n->DnTo g p m->q+1<=m->(∀i,m-(q+1)<=i->i<m->Gk g p i=Gk g p (m-1))->Ok s->
  (∀p' m' q' s',Ok s'->PmN p' n->m<=m'->m'<=n->DnTo g p' m'->q' + 1<=m'->(∀i,m' - (q' + 1)<=i->i<m'->Gk g p' i=Gk g p' (m' - 1))->Q (p',m',q') s')->(kas_desc f p m q).kasWp cmp Q s
 |0,p,m,q,s,hp,h1,hf,hd,hq,he,ok,k=>k p m q s ok hp (le_refl _) (by omega) hd hq he
 |f+1,p,m,q,s,hp,h1,hf,hd,hq,he,ok,k=>by
  refine hc _ _ _ s (hp.lt (by omega)) (hp.lt (by omega)) ok λs' ok'=>?_
  have hsz:m<=p.size:=by rw[hp.size];omega
  by_cases hl:Gk g p m<Gk g p (m-1)
  ·rw[show decide (g (p.getD m 0)<g (p.getD (m-1) 0))=true from decide_eq_true hl]
   have step1:∀xs:Array Nat,(∀k,Gk g xs k=Gk g p k)->DnTo g xs (m+1):=by
    intro xs hk i j hij hj
    rw[hk,hk]
    by_cases hjx:j<m
    ·exact hd i j hij hjx
    ·have hj':j=m:=by omega
     subst hj'
     by_cases hi':i=j
     ·subst hi';exact Int.le_refl _
     ·exact Int.le_trans (Int.le_of_lt hl) (hd i (j-1) (by omega) (by omega))
   have fin:∀xs:Array Nat,PmN xs n->(∀k,Gk g xs k=Gk g p k)->(kas_desc f xs (m+1) 0).kasWp cmp Q s':=λxs hx hk=>
    qlq hc f xs (m+1) 0 s' hx (by omega) (by omega) (step1 xs hk) (by omega) (λi h1 h2=>by congr 1;omega) ok' λp' m' q' s'' o1 o2 o3=>k p' m' q' s'' o1 o2 (by omega)
   show (if q>0 then _ else _:KasT _).kasWp cmp Q s'
   by_cases hneq:q>0
   ·rw[if_pos hneq]
    exact fin _ (hp.rev _ _) (qeo hsz he)
   ·rw[if_neg hneq]
    exact fin _ hp λ_=>rfl
  ·rw[show decide (g (p.getD m 0)<g (p.getD (m-1) 0))=false from decide_eq_false hl]
   refine hc _ _ _ s' (hp.lt (by omega)) (hp.lt (by omega)) ok' λs2 ok2=>?_
   by_cases hl2:Gk g p (m-1)<Gk g p m
   ·rw[show decide (g (p.getD (m-1) 0)<g (p.getD m 0))=true from decide_eq_true hl2]
    exact k p m q s2 ok2 hp (le_refl _) (by omega) hd hq he
   ·rw[show decide (g (p.getD (m-1) 0)<g (p.getD m 0))=false from decide_eq_false hl2]
    have heqx:Gk g p m=Gk g p (m-1):=by omega
    refine qlq hc f p (m+1) (q+1) s2 hp (by omega) (by omega) (λi j hij hj=>?_) (by omega) (λi h1 h2=>?_) ok2 λp' m' q' s'' o1 o2 o3=>k p' m' q' s'' o1 o2 (by omega)
    ·by_cases hjx:j<m
     ·exact hd i j hij hjx
     ·have hj':j=m:=by omega
      subst hj'
      by_cases hi':i=j
      ·subst hi';exact Int.le_refl _
      ·rw[heqx];exact hd i (j-1) (by omega) (by omega)
    ·rw[show m+1-1=m by omega]
     by_cases hix:i=m
     ·subst hix;rfl
     ·rw[heqx];exact he i (by omega) (by omega)
theorem qlz(hc:Ans cmp Ok g n){p:Array Nat}(hp:PmN p n){Q:Nat×Array Nat->Shared->Prop}{m:Nat}{s:Shared}(h1:1<=m)(hm:m<=n)(hd:DnTo g p m)(ok:Ok s)
  (q:∀m' p' s',Ok s'->PmN p' n->1<=m'->m'<=n->UpTo g p' m'->Q (m',p') s'):(kas_tail3 m n p).kasWp cmp Q s:=by
 unfold kas_tail3
 rw[KasT.kasWp_bind]
 have hsz:m<=p.size:=by rw[hp.size];exact hm
 refine t_asc hc (hp.rev 0 m) (n-m) m s h1 (by omega) (λi j hij hj=>?_) ok λm' s' o1 o2 o3 o4 _=>q m' _ s' o1 (hp.rev 0 m) (by omega) o3 o4
 rw[ylu hsz,ylu hsz,if_pos ⟨zero_le _,by omega⟩,if_pos ⟨zero_le _,hj⟩]
 exact hd _ _ (by omega) (by omega)
theorem ygp(hc:Ans cmp Ok g n){p:Array Nat}(hp:PmN p n){Q:Nat×Array Nat->Shared->Prop}{m:Nat}{s:Shared}(hm:m+1<=n)(hd:DnTo g p (m+1))(ok:Ok s)
  (q:∀m' p' s',Ok s'->PmN p' n->1<=m'->m'<=n->UpTo g p' m'->Q (m',p') s'):(kas_descPart m n p).kasWp cmp Q s:=by
 unfold kas_descPart
 rw[KasT.kasWp_bind]
 refine qlq hc (n-(m+1)) p (m+1) 0 s hp (by omega) (by omega) hd (by omega) (λi h1 h2=>by congr 1;omega) ok λp' m' q' s' o1 o2 o3 o4 o5 o6 o7=>?_
 have hsz:m'<=p'.size:=by rw[o2.size];exact o4
 show (if q' > 0 then _ else _:KasT _).kasWp cmp Q s'
 by_cases hq:q' > 0
 ·rw[if_pos hq]
  refine qlz (m:=m') hc (o2.rev _ _) (by omega) o4 (λi j hij hj=>?_) o1 q
  show Gk g (kas_rev p' (m' - (q' + 1)) m') j<=Gk g (kas_rev p' (m' - (q' + 1)) m') i
  rw[qeo hsz o7,qeo hsz o7]
  exact o5 i j hij hj
 ·rw[if_neg hq]
  exact qlz (m:=m') hc o2 (by omega) o4 o5 o1 q
theorem t_count(hc:Ans cmp Ok g n){p:Array Nat}(hp:PmN p n){Q:Nat×Array Nat->Shared->Prop}{s:Shared}(h1:1<=n)(ok:Ok s)
  (q:∀m' p' s',Ok s'->PmN p' n->1<=m'->m'<=n->UpTo g p' m'->Q (m',p') s'):(kas_count n p).kasWp cmp Q s:=by
 unfold kas_count
 rw[KasT.kasWp_bind]
 refine t_asc hc hp (n-1) 1 s (le_refl _) (by omega) (λi j hij hj=>by rw[show i=j by omega];exact Int.le_refl _) ok λm s' o1 o2 o3 o4 o5=>?_
 by_cases hm:m=n
 ·rw[if_pos (by simp[hm])]
  exact q m p s' o1 hp o2 o3 o4
 ·rw[if_neg (by simp[hm])]
  have hlt:=o5 (by omega)
  by_cases h2:m>1
  ·rw[if_pos h2]
   refine hc _ _ _ s' (hp.lt (by omega)) (hp.lt (by omega)) o1 λs2 ok2=>?_
   by_cases hl:Gk g p 0<Gk g p (m-1)
   ·rw[show decide (g (p.getD 0 0)<g (p.getD (m-1) 0))=true from decide_eq_true hl]
    exact q m p s2 ok2 hp o2 o3 o4
   ·rw[show decide (g (p.getD 0 0)<g (p.getD (m-1) 0))=false from decide_eq_false hl]
    have hsz:m<=p.size:=by rw[hp.size];exact o3
    have all:∀k,0<=k->k<m->Gk g p k=Gk g p (m-1):=λk _ hk=>by
     have a:=o4 0 k (zero_le _) hk
     have b:=o4 k (m-1) (by omega) (by omega)
     omega
    refine ygp hc (hp.rev 0 m) (by omega) (λi j hij hj=>?_) ok2 q
    rw[qeo hsz all,qeo hsz all]
    by_cases hj':j<m
    ·rw[all i (zero_le _) (by omega),all j (zero_le _) hj'];exact Int.le_refl _
    ·have e:j=m:=by omega
     subst e
     by_cases hi:i=j
     ·subst hi;exact Int.le_refl _
     ·rw[all i (zero_le _) (by omega)];omega
  ·rw[if_neg h2]
   have e:m=1:=by omega
   subst e
   refine ygp hc hp (by omega) (λi j hij hj=>?_) o1 q
   by_cases hi:i=j
   ·subst hi;exact Int.le_refl _
   ·rw[show i=0 by omega,show j=1 by omega];exact Int.le_of_lt hlt
theorem yjd(hc:Ans cmp Ok g n){p:Array Nat}(hp:PmN p n){k:Nat}(hk:k<n)(hu:UpTo g p k){Q:Nat->Shared->Prop}:∀(f l r:Nat) (s:Shared),l<=r->r<=k->r-l<=f->(∀i,i<l->Gk g p i<=Gk g p k)->(∀i,r<=i->i<k->Gk g p k<Gk g p i)->Ok s->
  (∀l s',Ok s'->l<=k->(∀i,i<l->Gk g p i<=Gk g p k)->(∀i,l<=i->i<k->Gk g p k<Gk g p i)->Q l s')->(kas_place p k f l r).kasWp cmp Q s
 |0,l,r,s,h1,h2,h3,hlo,hhi,ok,q=>q l s ok (by omega) hlo λi a b=>hhi i (by omega) b
 |f+1,l,r,s,h1,h2,h3,hlo,hhi,ok,q=>by
  show (if l≥r then _ else _:KasT _).kasWp cmp Q s
  by_cases hge:l≥r
  ·rw[if_pos hge]
   exact q l s ok (by omega) hlo λi a b=>hhi i (by omega) b
  ·rw[if_neg hge]
   refine hc _ _ _ s (hp.lt hk) (hp.lt (by omega)) ok λs' ok'=>?_
   by_cases hl:Gk g p k<Gk g p ((l+r) / 2)
   ·rw[show decide (g (p.getD k 0)<g (p.getD ((l+r) / 2) 0))=true from decide_eq_true hl]
    exact yjd hc hp hk hu f l ((l+r) / 2) s' (by omega) (by omega) (by omega) hlo (λi a b=>Int.lt_of_lt_of_le hl (hu _ _ a b)) ok' q
   ·rw[show decide (g (p.getD k 0)<g (p.getD ((l+r) / 2) 0))=false from decide_eq_false hl]
    exact yjd hc hp hk hu f ((l+r) / 2+1) r s' (by omega) (by omega) (by omega) (λi a=>Int.le_trans (hu i ((l+r) / 2) (by omega) (by omega)) (Int.not_lt.mp hl)) hhi ok' q
theorem t_bin(hc:Ans cmp Ok g n){Q:Array Nat->Shared->Prop}:∀(f:Nat) (p:Array Nat) (k:Nat) (s:Shared),PmN p n->k+f=n->UpTo g p k->Ok s->(∀p' s',Ok s'->PmN p' n->UpTo g p' n->Q p' s')->(kas_bin f p k).kasWp cmp Q s
 |0,p,k,s,hp,hf,hu,ok,q=>q p s ok hp (by rw[<-hf];exact hu)
 |f+1,p,k,s,hp,hf,hu,ok,q=>by
  unfold kas_bin
  rw[KasT.kasWp_bind]
  refine yjd hc hp (by omega) hu k 0 k s (zero_le _) (le_refl _) (by omega) (λi h=>by omega) (λi a b=>by omega) ok λl s' ok' hl hlo hhi=>?_
  have hs:k<p.size:=by rw[hp.size];omega
  refine t_bin hc f _ (k+1) s' (hp.bub k (k-l)) (by omega) (λi j hij hj=>?_) ok' q
  rw[yh3 hs (by omega),yh3 hs (by omega),show k-(k-l)=l by omega]
  by_cases ei:i=l
  ·rw[if_pos ei]
   by_cases ej:j=l
   ·rw[if_pos ej];exact Int.le_refl _
   ·rw[if_neg ej,if_pos (by omega)];exact Int.le_of_lt (hhi _ (by omega) (by omega))
  ·rw[if_neg ei]
   by_cases i2:l<i/\i<=k
   ·rw[if_pos i2,if_neg (by omega),if_pos (by omega)];exact hu _ _ (by omega) (by omega)
   ·rw[if_neg i2]
    by_cases ej:j=l
    ·rw[if_pos ej];exact hlo i (by omega)
    ·rw[if_neg ej]
     by_cases j2:l<j/\j<=k
     ·rw[if_pos j2];exact hu _ _ (by omega) (by omega)
     ·rw[if_neg j2];exact hu _ _ hij (by omega)
theorem t_sort(hc:Ans cmp Ok g n)(h1:1<=n){Q:Array Nat->Shared->Prop}{s:Shared}(ok:Ok s)(q:∀p s',Ok s'->PmN p n->UpTo g p n->Q p s'):(kas_sort n).kasWp cmp Q s:=by
 unfold kas_sort
 rw[KasT.kasWp_bind]
 refine t_count hc (p:=List.toArray (List.range n)) (Array.Perm.refl _) h1 ok λm p s' o1 o2 o3 o4 o5=>?_
 show (if m<n then _ else _:KasT _).kasWp cmp Q s'
 by_cases hm:m<n
 ·rw[if_pos hm]
  exact t_bin hc _ p (max m 1) s' o2 (by omega) (by rw[show max m 1=m by omega];exact o5) o1 q
 ·rw[if_neg hm]
  exact q p s' o1 o2 (by rw[show n=m by omega];exact o5)
end
def numL:List Int->Int
 |[]=>0
 |x::xs=>x*4096 ^ xs.length+numL xs
def Sml(xs:List Int):Prop:=∀x∈xs,0<=x/\x<4096
theorem yi4:∀{xs:List Int},Sml xs->0<=numL xs/\numL xs<4096 ^ xs.length
 |[],_=>⟨Int.le_refl _,by show (0:Int)<4096 ^ 0;decide⟩
 |x::xs,h=>by
  obtain ⟨a,b⟩:=yi4 (xs:=xs) λy hy=>h y (mem_cons_of_mem _ hy)
  obtain ⟨c,d⟩:=h x (mem_cons_self ..)
  have hp:(0:Int)<4096 ^ xs.length:=Int.pow_pos (by decide)
  have e:(4096:Int) ^ (x::xs).length=4096*4096 ^ xs.length:=by rw[length_cons,Int.pow_succ,Int.mul_comm]
  have m1:0<=x*4096 ^ xs.length:=Int.mul_nonneg c (Int.le_of_lt hp)
  have m2:x*4096 ^ xs.length<=4095*4096 ^ xs.length:=Int.mul_le_mul_of_nonneg_right (by omega) (Int.le_of_lt hp)
  unfold numL
  rw[e]
  generalize x*4096 ^ xs.length=z at *
  generalize (4096:Int) ^ xs.length=u at *
  constructor<;>omega
theorem qks{x y:Int}{xs ys:List Int}(hl:xs.length=ys.length)(hx:Sml (x::xs))(hy:Sml (y::ys))(h:x<y):numL (x::xs)<numL (y::ys):=by
 obtain ⟨a,b⟩:=yi4 (xs:=xs) λz hz=>hx z (mem_cons_of_mem _ hz)
 obtain ⟨c,d⟩:=yi4 (xs:=ys) λz hz=>hy z (mem_cons_of_mem _ hz)
 have hp:(0:Int)<4096 ^ ys.length:=Int.pow_pos (by decide)
 rw[hl]at b
 unfold numL
 rw[hl]
 have m:(x+1)*4096 ^ ys.length<=y*4096 ^ ys.length:=Int.mul_le_mul_of_nonneg_right (by omega) (Int.le_of_lt hp)
 rw[Int.add_mul]at m
 generalize x*4096 ^ ys.length=u at *
 generalize y*4096 ^ ys.length=v at *
 generalize (4096:Int) ^ ys.length=q at *
 omega
section
variable {prog:Program}{w:World}{A:Around}{E:Value->Shared->Prop}{s:Shared}{Q:Bool->Shared->Prop}
theorem yjq:∀{us vs:List Value}{ns ms:List Int} (i:Nat),IntsAre us ns->IntsAre vs ms->ns.length=ms.length->Sml ns->Sml ms->Q (decide (numL ns<numL ms)) s->KatLex prog w A true false Q (us.zip vs) i s
 |_,_,_,_,i,.nil,.nil,_,_,_,h=>kat_nil h
 |_,_,_,_,i,.nil,.cons _ _ _,hl,_,_,_=>by simp at hl
 |_,_,_,_,i,.cons _ _ _,.nil,hl,_,_,_=>by simp at hl
 |_,_,_,_,i,.cons (ns:=ns) n t r,.cons (ns:=ms) m u q,hl,h1,h2,h=>by
  have hl':ns.length=ms.length:=by simpa using hl
  refine kat_cons (wpAny_eqBool_int ?_)
  refine kat_go (λe=>kat_yes ?_) (λe=>kat_no ?_)
  ·have e':n=m:=by simpa using e
   subst e'
   refine yjq (i+1) r q hl' (λy hy=>h1 y (mem_cons_of_mem _ hy)) (λy hy=>h2 y (mem_cons_of_mem _ hy)) ?_
   rw[show decide (numL ns<numL ms)=decide (numL (n::ns)<numL (n::ms)) from decide_eq_decide.mpr (by show _↔n*4096 ^ ns.length+numL ns<n*4096 ^ ms.length+numL ms;rw[hl'];omega)]
   exact h
  ·have e':¬ n=m:=by simpa using e
   have hd:decide (numL (n::ns)<numL (m::ms))=decide (n<m):=by
    refine decide_eq_decide.mpr ⟨λz=>?_,λz=>qks hl' h1 h2 z⟩
    rcases Int.lt_trichotomy n m with a|a|a
    ·exact a
    ·exact absurd a e'
    ·have:=qks hl'.symm h2 h1 a
     omega
   rw[hd]at h
   cases i with
   |zero=>exact kat_lt_int h
   |succ i=>exact kat_one _ _ (PyProof.Rows.lt_int h)
theorem lt_ints{x y:Addr}{ox oy:Obj}{n k:Nat}{us vs:List Value}{ns ms:List Int}(hx:s.heap.get? x=some ox)(dx:ox.data=.seq us.toArray n)(hy:s.heap.get? y=some oy)(dy:oy.data=.seq vs.toArray k)
  (r:IntsAre us ns) (q:IntsAre vs ms) (hl:ns.length=ms.length) (h1:Sml ns) (h2:Sml ms) (h:Q (decide (numL ns<numL ms)) s):wpAny (model prog w) A (keyLt' (tuples' true) (.ref x) (.ref y)) Q E s:=by
 refine kat_lt hx dx hy dy ?_
 have e1:=r.length
 have e2:=q.length
 have ef:decide (us.toArray.size<vs.toArray.size)=false:=decide_eq_false (by rw[size_toArray,size_toArray];omega)
 rw[ef]
 exact yjq 0 r q hl h1 h2 h
end
section
variable {prog:Program}{w:World}{A:Around}{E:Value->Shared->Prop}{s:Shared}
theorem sort_by{a:Addr}{vs:List Value}{n:Nat}{κ:SortKind}{g:Nat->Int}{P:PySem.Fin->Shared->Prop}(ho:s.heap.get? a=some (seqObj "list" vs.toArray n))(h64:vs.length<64)
  (hk:2<=vs.length->∀s1:Shared,(∀b o,b≠a->s.heap.get? b=some o->s1.heap.get? b=some o)->∀(Q:SortKind->Shared->Prop),Q κ s1->wpAny (model prog w) A (keyKind' vs.toArray) Q (λ_ _=>False) s1)
  (hq:∀s1:Shared,(∀b o,b≠a->s.heap.get? b=some o->s1.heap.get? b=some o)->∀i j,i<vs.length->j<vs.length->∀(C:Bool->Shared->Prop),C (decide (g i<g j)) s1->wpAny (model prog w) A (keyLt' κ (vs.getD i Value.none) (vs.getD j Value.none)) C (λ_ _=>False) s1)
  (h:∀p:Array Nat,PmN p vs.length->UpTo g p vs.length->P (.done (.ret .none)) { s with heap:=sortedHeap s.heap a vs (List.toArray (p.toList.map λi=>vs.getD i Value.none)) }) :
  wpAny (model prog w) A (Builtin.«list.sort» ⟨[.ref a],[]⟩) P E s:=by
 rw[list_sort_plain]
 have ha:a<s.heap.objs.size:=lt_size ho
 refine wpAny_bind (listItems_at ho rfl ?_)
 refine wpAny_bind (listUpdate_at ho rfl ?_)
 obtain ⟨e1,ho1⟩:∃e1,(s.heap.update a (Obj.mapSeq λ_=>#[])).get? a=some (seqObj "list" #[] e1):=⟨_,get?_update_seq ho (λ_=>#[])⟩
 refine wpAny_bind (seqEpoch_at ho1 rfl ?_)
 refine wpAny_bind (wpAny_newTuple ?_)
 refine wpAny_bind (wpAny_newList ?_)
 refine wpAny_holding ?_
 have ho6:(((s.heap.update a (Obj.mapSeq λ_=>#[])).push (seqObj "tuple" vs.toArray 0)).push (seqObj "list" #[] 0)).get? a=some (seqObj "list" #[] e1):=by
  rw[Heap.get?_push_ne _ _ _ (by rw[size_push',Heap.size_update];exact ne_of_lt (lt_succ_of_lt ha)),Heap.get?_push_ne _ _ _ (by rw[Heap.size_update];exact ne_of_lt ha)]
  exact ho1
 have kp:∀b o,b≠a->s.heap.get? b=some o->(((s.heap.update a (Obj.mapSeq λ_=>#[])).push (seqObj "tuple" vs.toArray 0)).push (seqObj "list" #[] 0)).get? b=some o:=λb o hb e=>
  get?_push_of_some _ (get?_push_of_some _ ((get?_update_other _ _ (Ne.symm hb)).trans e))
 show wpAny (model prog w) A _ P E { s with heap:=((s.heap.update a (Obj.mapSeq λ_=>#[])).push (seqObj "tuple" vs.toArray 0)).push (seqObj "list" #[] 0) }
 dsimp only
 have hsz:vs.toArray.size=vs.length:=by simp
 by_cases h2:vs.toArray.size<2
 ·rw[if_pos h2,if_pos h2]
  refine wpAny_bind (wpAny_pure ?_)
  rw[StateT.run_pure]
  refine wpAny_bind (wpAny_pure ?_)
  dsimp only
  refine wpAny_bind (seqEpoch_at ho6 rfl ?_)
  have eo:(arrOf (SortSt.mk' general' (vs.toArray.zip vs.toArray) #[] 7 none)).map (·.2)=List.toArray ((List.toArray (List.range vs.length)).toList.map λi=>vs.getD i Value.none):=by
   refine kat_snds (ks:=vs) (vs:=vs) rfl (p:=List.toArray (List.range vs.length)) ?_
   have e:=kas_range (vs.toArray.zip vs.toArray)
   rw[show (vs.toArray.zip vs.toArray).size=vs.length by simp]at e
   exact e.symm
  rw[eo]
  refine wpAny_bind (listUpdate_at ho6 rfl ?_ (hsz2:=by rw[size_toArray,length_map,length_toList,size_toArray,length_range,sizeLine_eq];omega))
  simp only[bne_self_eq_false,Bool.false_eq_true,if_false]
  refine wpAny_pure (h _ (Array.Perm.refl _) λi j hij hj=>?_)
  have:i=j:=by omega
  subst this;exact Int.le_refl _
 ·rw[if_neg h2,if_neg h2]
  have h2':2<=vs.length:=by omega
  generalize hs1:({ s with heap:=((s.heap.update a (Obj.mapSeq λ_=>#[])).push (seqObj "tuple" vs.toArray 0)).push (seqObj "list" #[] 0) }:Shared)=s1
  have kp1:∀b o,b≠a->s.heap.get? b=some o->s1.heap.get? b=some o:=by rw[<-hs1];exact kp
  have ho7:s1.heap.get? a=some (seqObj "list" #[] e1):=by rw[<-hs1];exact ho6
  refine wpAny_bind (wpAny_mono (hk h2' s1 kp1 (λκ' s'=>κ'=κ/\s'=s1) ⟨rfl,rfl⟩) ?_ λ_ _ x=>x.elim)
  rintro _ _ ⟨rfl,rfl⟩
  rename_i κ s1
  have ans:Ans (kas_ask prog w A κ vs) (λs'=>s'=s1) g vs.length:=λi j C s2 hi hj e k=>by
   have e':s2=s1:=e
   subst e'
   exact hq s2 kp1 i j hi hj C (k s2 rfl)
  refine wpAny_bind (wpAny_mono (kat_run (Q:=λst' s'=>∃p:Array Nat,p.size=vs.length/\arrOf st'=p.map (kas_item (vs.toArray.zip vs.toArray))/\failedOf st'=none/\PmN p vs.length/\UpTo g p vs.length/\s'=s1)
   rfl h2' h64 (λp' st' s' a1 a2 a3 a4=>⟨p',a1,a2,a3,a4⟩) (t_sort ans (by omega) rfl λp s' ok pm up=>⟨pm,up,ok⟩)) ?_ λ_ _ e=>e)
  rintro ⟨⟨⟩,st'⟩ s' ⟨p,hp,har,hf,pm,up,rfl⟩
  dsimp only
  refine wpAny_bind (seqEpoch_at ho7 rfl ?_)
  rw[kat_snds rfl har]
  refine wpAny_bind (listUpdate_at ho7 rfl ?_ (hsz2:=by rw[size_toArray,length_map,length_toList,hp,sizeLine_eq];omega))
  rw[hf]
  simp only[bne_self_eq_false,Bool.false_eq_true,if_false]
  refine wpAny_pure ?_
  rw[<-hs1]
  exact h p pm up
abbrev TL:=Addr×List Int
def TIs(h:Heap)(ts:List TL):Prop:=∀t∈ts,∃(o:Obj) (us:List Value) (n:Nat),h.get? t.1=some o/\o.cls=.type "tuple"/\o.data=.seq us.toArray n/\IntsAre us t.2
def qa1(ts:List TL):List Value:=ts.map λt=>Value.ref t.1
def ybc(ts:List TL):List V:=ts.map λt=>V.ref t.1
def OkT(m:Nat)(ts:List TL):Prop:=∀t∈ts,t.2.length=m+1/\Sml t.2
def RiseT(ts:List TL):Prop:=ts.Pairwise λt u=>numL t.2<=numL u.2
theorem qkv:∀{h:Heap}{ts:List TL}{m:Nat},TIs h ts->OkT m ts->∃fs:List Value,KatTups h (qa1 ts) fs/\fs.length=ts.length/\∀v∈fs,∃i t,v=Value.int i t
 |h,[],m,_,_=>⟨[],.nil,rfl,λv hv=>by simp at hv⟩
 |h,t::ts,m,x,y=>by
  obtain ⟨fs,k1,k2,k3⟩:=qkv (ts:=ts) (λu hu=>x u (mem_cons_of_mem _ hu)) (λu hu=>y u (mem_cons_of_mem _ hu))
  obtain ⟨o,us,n,e1,e2,e3,e4⟩:=x t (mem_cons_self ..)
  obtain ⟨y1,_⟩:=y t (mem_cons_self ..)
  generalize ht:t.2=ns at *
  cases e4 with
  |nil=>simp at y1
  |cons i tk r=>exact ⟨.int i tk::fs,.cons e1 e2 e3 rfl k1,by simp[k2],λv hv=>by
    rcases mem_cons.mp hv with rfl|hv
    ·exact ⟨i,tk,rfl⟩
    ·exact k3 v hv⟩
theorem qiz:∀{ts:List TL}{us:List Value},Vals (ybc ts) us->us=qa1 ts
 |[],_,.nil=>rfl
 |t::ts,_,.cons r q=>by
  rw[qiz q]
  cases r
  rfl
theorem yhy:∀(ts:List TL),Vals (ybc ts) (qa1 ts)
 |[]=>.nil
 |t::ts=>.cons rfl (yhy ts)
theorem ykm{α:Type}(d:α)(l:List α):(List.range l.length).map (λi=>l.getD i d)=l:=by
 refine List.ext_getElem? λi=>?_
 rw[getElem?_map]
 by_cases h:i<l.length
 ·rw[List.getElem?_range h,getElem?_eq_getElem h]
  simp[getD_eq_getElem?_getD,h]
 ·rw[getElem?_eq_none (by omega:l.length<=i),getElem?_eq_none (by simpa using h)]
  rfl
theorem perm_out{α:Type}(d:α)(l:List α){p:Array Nat}(h:PmN p l.length):(p.toList.map λi=>l.getD i d).Perm l:=by
 have:=(Array.perm_iff_toList_perm.mp h).map (λi=>l.getD i d)
 rw[List.toList_toArray,ykm]at this
 exact this
theorem rise_out{g:Nat->Int}{p:Array Nat}{n:Nat}{α:Type}(f:Nat->α)(key:α->Int)(hs:p.size=n)(hk:∀i,key (f i)=g i)(h:UpTo g p n):(p.toList.map f).Pairwise λa b=>key a<=key b:=by
 rw[List.pairwise_iff_getElem]
 intro i j hi hj hij
 rw[length_map,length_toList]at hi hj
 have:=h i j (le_of_lt hij) (by omega)
 rw[getElem_map,getElem_map,hk,hk]
 unfold Gk at this
 simpa [Array.getD,hi,hj] using this
theorem qld{a:Addr}{ts:List TL}{n m:Nat}{P:PySem.Fin->Shared->Prop}(ho:s.heap.get? a=some (seqObj "list" (qa1 ts).toArray n))(h64:ts.length<64)(hT:TIs s.heap ts)(hO:OkT m ts)
  (h:∀ts':List TL,ts'.Perm ts->RiseT ts'->P (.done (.ret .none)) { s with heap:=sortedHeap s.heap a (qa1 ts) (qa1 ts').toArray }) :
  wpAny (model prog w) A (Builtin.«list.sort» ⟨[.ref a],[]⟩) P E s:=by
 have hl:(qa1 ts).length=ts.length:=length_map _
 have kT:∀s1:Shared,(∀b o,b≠a->s.heap.get? b=some o->s1.heap.get? b=some o)->TIs s1.heap ts:=λs1 k t ht=>by
  obtain ⟨o,us,k2,e1,e2,e3,r⟩:=hT t ht
  refine ⟨o,us,k2,k _ _ (λz=>?_) e1,e2,e3,r⟩
  rw[z,ho]at e1
  cases e1
  exact absurd (Value.type.inj (show Value.type "list"=Value.type "tuple" from e2)) (by decide)
 have hv:∀i,(qa1 ts).getD i Value.none=if h:i<ts.length then Value.ref (ts[i]).1 else Value.none:=λi=>by
  unfold qa1
  rw[getD_eq_getElem?_getD,getElem?_map]
  by_cases h:i<ts.length
  ·rw[dif_pos h,getElem?_eq_getElem h];rfl
  ·rw[dif_neg h,getElem?_eq_none (by omega)];rfl
 refine sort_by (κ:=tuples' true) (g:=λi=>numL (ts.getD i (0,[])).2) ho (by omega) (λh2 s1 k Q q=>?_) (λs1 k i j hi hj C c=>?_) λp pm up=>?_
 ·obtain ⟨fs,k1,k2,k3⟩:=qkv (kT s1 k) hO
  refine kat_kind (T:=.type "int") k1 (by omega) (λv hv=>?_) (by decide) ?_
  ·obtain ⟨i,t,rfl⟩:=k3 v hv
   exact Looks.of_pure rfl
  ·exact q
 ·rw[hl]at hi hj
  rw[hv,hv,dif_pos hi,dif_pos hj]
  obtain ⟨o1,u1,n1,a1,a2,a3,a4⟩:=kT s1 k ts[i] (getElem_mem hi)
  obtain ⟨o2,u2,n2,b1,b2,b3,b4⟩:=kT s1 k ts[j] (getElem_mem hj)
  obtain ⟨l1,m1⟩:=hO ts[i] (getElem_mem hi)
  obtain ⟨l2,m2⟩:=hO ts[j] (getElem_mem hj)
  have e1:ts.getD i (0,[])=ts[i]:=by simp[getD_eq_getElem?_getD,hi]
  have e2:ts.getD j (0,[])=ts[j]:=by simp[getD_eq_getElem?_getD,hj]
  rw[e1,e2]at c
  exact lt_ints a1 a3 b1 b3 a4 b4 (by omega) m1 m2 c
 ·rw[hl]at pm up
  have:=h (p.toList.map λi=>ts.getD i (0,[])) (perm_out _ _ pm) (rise_out _ (λt:TL=>numL t.2) pm.size (λi=>rfl) up)
  have e:(qa1 (p.toList.map λi=>ts.getD i (0,[])))=p.toList.map λi=>(qa1 ts).getD i Value.none:=by
   unfold qa1
   rw[map_map]
   refine map_congr_left λi hi=>?_
   have hi':i<ts.length:=by
    have:=(Array.perm_iff_toList_perm.mp pm).mem_iff.mp hi
    simpa using this
   show Value.ref (ts.getD i (0,[])).1=_
   rw[getD_eq_getElem?_getD,getD_eq_getElem?_getD,getElem?_map,getElem?_eq_getElem hi']
   rfl
  rw[e]at this
  exact this
theorem qf1{v:Value}{Q:Value->Shared->Prop}
  (h:wpAny (model prog w) A.in1 (collect v) (λvs s1=>vs.length<64/\(∀(s2:Shared),s2={ s1 with heap:=s1.heap.push (seqObj "list" vs.toArray 0) }->
   wpAny (model prog w) A.in1.in1 (Builtin.«list.sort» ⟨[.ref s1.heap.objs.size],[]⟩) (λf s3=>f=.done (.ret .none)/\Q (.ref s1.heap.objs.size) s3) (λ_ _=>False) s2)) E s) :
  wpAny (model prog w) A (call (.builtin "sorted") [v]) Q E s:=by
 refine Calls.call_function_entry kind_sorted plain_sorted entry_sorted (args_sorted1 v) ?_
 unfold Builtin.«sorted»
 refine wpAny_bind (m:=checkCount "sorted" 1 1 _) ?_
 refine wpAny_pure ?_
 refine wpAny_bind (wpAny_mono h (λvs s1 hq=>?_) λ_ _ x=>x)
 obtain ⟨h64,k⟩:=hq
 refine wpAny_bind (wpAny_newList ?_ (qd3 (by omega)))
 have gL:(s1.heap.push (seqObj "list" vs.toArray 0)).get? s1.heap.objs.size=some (seqObj "list" vs.toArray 0):=get?_push_size _ rfl
 refine wpAny_bind (wpAny_holding (wpAny_call_entry slot_list_sort ⟨_,gL,rfl⟩ entry_list_sort (wpAny_mono (k _ rfl) (λf s3 hf=>?_) λ_ _ x=>x.elim) (args_list_sort _)))
 obtain ⟨rfl,q⟩:=hf
 exact ⟨_,rfl,wpAny_pure ⟨_,rfl,q⟩⟩
theorem yla{R:Result->Shared->Prop}{T:String}{r d:Addr}{n:Nat}{P:Nat->Value->Prop}{OK:Heap->Prop}(K:KdlSrc prog w T r d n P OK)(hh:A.handled=none)(hok:OK s.heap)(hn:n<=sizeLine)
  (k:∀h' tk acc c,h'.get? s.heap.objs.size=some { cls:=.type "list",dict:=none,data:=.seq acc c,slots:=#[] }->ItemsOf P acc n->(∀b o,s.heap.get? b=some o->h'.get? b=some o)->R (.ok (.ret (.ref s.heap.objs.size))) { s with heap:=h',toks:=tk }) :
  codeAny (model prog w) A (.builtin "proto.collect" ⟨[.ref r],[]⟩) R s:=by
 have hlt:=K.there _ hok
 refine codeAny_builtin F.entry_proto_collect ?_
 rw[Around.under_plainId F.plain_proto_collect _]
 show wpAny _ A.in1 (newList [] >>= λl=>again (.builtin "list.__iadd__" ⟨[l,.ref r],[]⟩)) _ _ s
 refine wpAny_bind (wpAny_newObj_type ?_)
 refine wpAny_pure ⟨plainId_quiet F.plain_list_iadd _,?_⟩
 refine codeAny_builtin F.entry_list_iadd ?_
 rw[Around.under_plainId F.plain_list_iadd _]
 show wpAny _ A.in1 (Builtin.List.listExtendWith (.ref s.heap.objs.size) (.ref r) (.ref s.heap.objs.size)) _ _ _
 have g0:(s.heap.push { cls:=.type "list",data:=.seq ([]:List Value).toArray }).get? s.heap.objs.size=some { cls:=.type "list",data:=.seq #[] }:=get?_push_size _ rfl
 refine kdl_extend (R:=R) (s:={ s with heap:=s.heap.push { cls:=.type "list",data:=.seq ([]:List Value).toArray } }) K hh (K.keep _ _ hok λb _ o e=>get?_push_of_some _ e) _ (ne_of_gt hlt.1) (ne_of_gt hlt.2) _ 0 g0 (λh' tk acc c kp g it=>?_) hn
 exact k h' tk acc c g it λb o e=>kp b o (ne_of_lt (lt_size e)) (get?_push_of_some _ e)
theorem collectK{Q:List Value->Shared->Prop}{T:String}{r d:Addr}{n:Nat}{P:Nat->Value->Prop}{OK:Heap->Prop}(K:KdlSrc prog w T r d n P OK)(hh:A.handled=none)(hok:OK s.heap)(hn:n<=sizeLine)
  (k:∀vs h' tk,vs.length=n->(∀(j:Nat) v,vs[j]?=some v->P j v)->s.heap.objs.size<h'.objs.size->(∀b o,s.heap.get? b=some o->h'.get? b=some o)->Q vs { s with heap:=h',toks:=tk }) :
  wpAny (model prog w) A (collect (.ref r)) Q E s:=by
 unfold collect
 refine wpAny_bind (wpAny_runValue (yla K hh hok hn λh' tk acc c g it kp=>?_))
 refine wpAny_bind (wpAny_load g ?_)
 exact wpAny_pure (k acc.toList h' tk (by rw[length_toList];exact it.1) (λj v e=>it.2 j v (by rw[<-getElem?_toList];exact e)) (lt_size g) kp)
end
section
variable {X:Cx}
def rSortT:List V->Hp->VK->Prop:=λxs H Q=>∃(l:Addr) (ts:List TL) (m:Nat),xs=[.ref l]/\H l=some (.lst (ybc ts))/\(∀t∈ts,H t.1=some (.tup (t.2.map V.int)))/\OkT m ts/\ts.length<64/\
 ∀(p:Addr) (ts':List TL),H p=none->ts'.Perm ts->RiseT ts'->Q (.ref p) (upd H p (.lst (ybc ts')))
theorem tis_of{P:Program}{w:World}{H:Hp}{h:Heap}(ok:HOk P w H h){ts:List TL}(hT:∀t∈ts,H t.1=some (.tup (t.2.map V.int))):TIs h ts:=λt ht=>by
 obtain ⟨_,its,r,o,h1,h2,n,h3⟩:=(show ya7 P w H h t.1 (.tup (t.2.map V.int)) from ok t.1 _ (hT t ht))
 exact ⟨o,its,n,h1,h2,h3,qcn r⟩
theorem TIs.keep{h h':Heap}{ts:List TL}(x:TIs h ts)(k:∀b o,h.get? b=some o->h'.get? b=some o):TIs h' ts:=λt ht=>by
 obtain ⟨o,us,n,e1,r⟩:=x t ht
 exact ⟨o,us,n,k _ _ e1,r⟩
theorem yie{pins:List (Addr×Obj)}{σ:St}{H:Hp}{s s1:Shared}{ts:List TL}{m:Nat}{Q:VK}{A:Around}{E:Value->Shared->Prop}(I:Inv X pins σ H s)(hh:∃h' tk,s1={ s with heap:=h',toks:=tk }/\∀b o,s.heap.get? b=some o->h'.get? b=some o)(hz:s.heap.objs.size<=s1.heap.objs.size)
  (hT:∀t∈ts,H t.1=some (.tup (t.2.map V.int))) (hO:OkT m ts) (h64:ts.length<64) (q:∀(p:Addr) (ts':List TL),H p=none->ts'.Perm ts->RiseT ts'->Q (.ref p) (upd H p (.lst (ybc ts')))) :
  wpAny (model X.prog X.w) A (Builtin.«list.sort» ⟨[.ref s1.heap.objs.size],[]⟩) (λf s3=>f=.done (.ret .none)/\EP X pins σ Q (.ref s1.heap.objs.size) s3) E { s1 with heap:=s1.heap.push (seqObj "list" (qa1 ts).toArray 0) }:=by
 obtain ⟨h',tk,rfl,kp⟩:=hh
 have gL:(h'.push (seqObj "list" (qa1 ts).toArray 0)).get? h'.objs.size=some (seqObj "list" (qa1 ts).toArray 0):=get?_push_size _ rfl
 refine qld (s:={ s with heap:=h'.push (seqObj "list" (qa1 ts).toArray 0),toks:=tk }) gL h64 ((tis_of I.hok hT).keep λb o e=>get?_push_of_some _ (kp b o e)) hO λts' hp hr=>⟨rfl,?_⟩
 obtain ⟨ep,ge⟩:=sortedHeap_at (out:=(qa1 ts').toArray) gL
 have hf:H h'.objs.size=none:=I.hok.fresh hz
 refine ⟨.ref h'.objs.size,_,I.laid (o:=.lst (ybc ts')) (t':=tk) (λb o g=>?_) hz ?_,rfl,q _ ts' hf hp hr⟩
 ·have hb:b<h'.objs.size:=lt_size (kp b o g)
  rw[sortedHeap_old (ne_of_lt hb) (by rw[show (h'.push (seqObj "list" (qa1 ts).toArray 0)).objs.size=h'.objs.size+1 from size_push ..];exact lt_succ_of_lt hb)]
  exact get?_push_of_some _ (kp b o g)
 ·exact ⟨qd3 (by unfold ybc;rw[length_map,hp.length_eq];omega),qa1 ts',ep,yhy ts',ge⟩
theorem qka:yb6 X (.builtin "sorted") rSortT:=by
 intro pins s σ H xs us Q I r h
 obtain ⟨l,ts,m,rfl,hH,hT,hO,h64,q⟩:=h
 cases r with
 |cons r rr=>
  cases rr
  cases r
  obtain ⟨z,its,n,rv,hl,e⟩:=I.lstM hH
  have ei:=qiz rv
  subst ei
  have hlt:(qa1 ts).length=ts.length:=length_map _
  refine qf1 (collect_list (vs:=qa1 ts) ⟨_,e,rfl,n,rfl⟩ ⟨by omega,λs2 hs=>?_⟩ (qd3 (by omega)))
  subst hs
  have kp:∀b o,s.heap.get? b=some o->((s.heap.push (seqObj "list" #[] 0)).update s.heap.objs.size (Obj.mapSeq (·++(qa1 ts).toArray))).get? b=some o:=λb o g=>
   (get?_update_other _ _ (Ne.symm (ne_of_lt (lt_size g)))).trans (get?_push_of_some _ g)
  exact yie (s1:={ s with heap:=(s.heap.push (seqObj "list" #[] 0)).update s.heap.objs.size (Obj.mapSeq (·++(qa1 ts).toArray)) }) I ⟨_,_,rfl,kp⟩ (by show _<=Array.size _;rw[Heap.size_update,size_push];exact le_succ _) hT hO h64 q
def rSortDI:List V->Hp->VK->Prop:=λxs H Q=>∃(a:Addr) (kvs:List (Key×V)) (ns:List Int),xs=[.ref a]/\Rd H a (.dK kvs)/\kvs.map (·.1)=ns.map Sum.inl/\ns.length<64/\
 ∀(p:Addr) (ns':List Int),H p=none->ns'.Perm ns->ns'.Pairwise (·<=·)->Q (.ref p) (upd H p (.lst (ns'.map V.int)))
theorem ye6{P:Program}{w:World}:∀{vs:List Value}{ns:List Int},vs.length=ns.length->(∀(j:Nat) v n,vs[j]?=some v->ns[j]?=some n->(ya4 P w).is (Sum.inl n) v=true)->IntsAre vs ns
 |[],[],_,_=>.nil
 |[],_::_,h,_=>by simp at h
 |_::_,[],h,_=>by simp at h
 |v::vs,n::ns,h,k=>by
  have h0:=k 0 v n rfl rfl
  rcases yav (k:=Sum.inl n) (v:=v) h0 with ⟨i,t,e,rfl⟩|⟨x,t,e,_⟩
  ·cases e
   exact .cons _ t (ye6 (by simpa using h) λj v n a b=>k (j+1) v n (by simpa using a) (by simpa using b))
  ·cases e
theorem qje(hc:X.calm=true):yb6 X (.builtin "sorted") rSortDI:=by
 intro pins s σ H xs us Q I r h
 obtain ⟨a,kvs,ns,rfl,hH,hk,h64,q⟩:=h
 cases r with
 |cons r rr=>
  cases rr
  cases r
  obtain ⟨z1,m1,vs1,r1,dd1⟩:=qh9 I.hok hH
  obtain ⟨ep,dat⟩:=dd1.dictAt
  have hl:=r1.length
  have hl2:kvs.length=ns.length:=by have:=congrArg List.length hk;simpa using this
  refine qf1 (collectK (kdl_dict (knd:=ya4 X.prog X.w) (kvs:=vs1) (ep:=ep) m1) (by simpa using I.ok.hd hc) dat (qd3 (by omega)) λvs h' tk hvl hP hz kp=>⟨by omega,λs2 hs=>?_⟩)
  subst hs
  have i1:IntsAre vs ns:=ye6 (P:=X.prog) (w:=X.w) (by omega) λj v n e1 e2=>by
   obtain ⟨k,x,e3,e4⟩:=hP j v e1
   obtain ⟨k',v',u',e5,e6,_⟩:=r1.at_ (i:=j) (by rw[hl2];exact (List.getElem?_eq_some_iff.mp e2).1)
   rw[e6]at e3;cases e3
   have:=congrArg (·[j]?) hk
   simp only[getElem?_map,e5,e2,Option.map_some,Option.some.injEq]at this
   rw[this]at e4
   exact e4
  have gL:(h'.push (seqObj "list" vs.toArray 0)).get? h'.objs.size=some (seqObj "list" vs.toArray 0):=get?_push_size _ rfl
  refine list_sort_tree gL i1 (by omega) λout n2 a1 a2 a3=>⟨rfl,?_⟩
  obtain ⟨ep,ge⟩:=sortedHeap_at (out:=out) gL
  have hf:H h'.objs.size=none:=I.hok.fresh (le_of_lt hz)
  refine ⟨.ref h'.objs.size,_,I.laid (o:=.lst (n2.map V.int)) (t':=tk) (λb o g=>?_) (le_of_lt hz) ?_,rfl,q _ n2 hf a2 a3⟩
  ·have hb:b<h'.objs.size:=lt_size (kp b o g)
   rw[sortedHeap_old (ne_of_lt hb) (by rw[show (h'.push (seqObj "list" vs.toArray 0)).objs.size=h'.objs.size+1 from size_push ..];exact lt_succ_of_lt hb)]
   exact get?_push_of_some _ (kp b o g)
  ·exact ⟨qd3 (by rw[length_map,a2.length_eq];omega),out.toList,ep,qd8 a1,by simpa using ge⟩
end
end L2
namespace L2
open PySem PySem.Spec PyProof.Rows
theorem for_by{J:It}{n:Nat}{g:TG}{tb:TS}{D:Ends}{σ:St}{H:Hp}(Pv:Nat->St->Hp->Prop)(h0:Pv 0 σ H)(hd:∀σ H,Pv n σ H->J.stop n H/\D.nx σ H)
  (hs:∀i σ H,i<n->Pv i σ H->J.go i H/\∀x H',J.yld i H x H'->g x σ H' λσ2 H2=>tb { D with nx:=Pv (i+1),ct:=Pv (i+1),bk:=D.nx } σ2 H2) :
  ∃W:Nat->Nat->St->Hp->Prop,(∃m,W 0 m σ H)/\∀i m σ H,W i m σ H->
   (J.stop i H/\D.nx σ H)\/(J.go i H/\∃N:St->Hp->Prop,(∀σ' H',N σ' H'->∃m',m' < m/\W (i+1) m' σ' H')/\∀x H',J.yld i H x H'->g x σ H' λσ2 H2=>tb { D with nx:=N,ct:=N,bk:=D.nx } σ2 H2):=by
 refine ⟨λi m σ H=>m=n-i/\i<=n/\Pv i σ H,⟨n,by simp,zero_le _,h0⟩,?_⟩
 rintro i m σ H ⟨rfl,hi,p⟩
 by_cases hlt:i<n
 ·obtain ⟨g1,g2⟩:=hs i σ H hlt p
  exact .inr ⟨g1,Pv (i+1),λσ' H' p'=>⟨n-(i+1),by omega,rfl,hlt,p'⟩,g2⟩
 ·have e:i=n:=by omega
  subst e
  exact .inl (hd σ H p)
section
variable {X:Cx}{kvs:List (Key×V)}{a:Addr}{H:Hp}{pins:List (Addr×Obj)}{σ:St}{s:Shared}
structure Frz(H:Hp)(a:Addr)(o:Obj)(kvs:List (Key×V))(H2:Hp):Prop where
 at_:H2 a=some (.frz o (.dK kvs))
 st:∀b,b≠a->H2 b=H b
theorem Inv.frzR(I:Inv X pins σ H s)(e:Rd H a (.dK kvs)):∃o es ep H2,o.data=.dict es ep/\Inv X pins σ H2 s/\Frz H a o kvs H2:=by
 rcases e with e|⟨o,e⟩
 ·obtain ⟨o,es,ep,hda,ho,I2⟩:=I.frzD e
  exact ⟨o,es,ep,_,hda,I2,qab,λb h=>yae h⟩
 ·obtain ⟨ho,z,hd,vs,r,ob,es',ep',ho',hx,hda',rest⟩:=(show ya7 X.prog X.w H s.heap a (.frz o (.dK kvs)) from I.hok a _ e)
  rw[ho]at ho';cases ho'
  exact ⟨o,es',ep',H,hda',I,e,λb h=>rfl⟩
def tItems(to:TE):TE:=λσ H Q=>to σ H λx H1=>∃a kvs,x=.ref a/\Rd H1 a (.dK kvs)/\∀v,H1 v=none->Q (.ref v) (upd H1 v (vwI v a))
theorem qjk{o:Expr}{to:TE}{apos cpos:Pos}(ho:PE X o to)(hbase:attributeBase o "items" X.env (eval o X.env)=eval o X.env:=by rfl)(hline:(apos.endLine == cpos.line)=true:=by rfl) :
  PE X (.Call (.Attribute o "items" apos) [] [] cpos) (tItems to):=by
 intro pins s σ H Q I h
 refine wpAny_Call_method0_late hbase hline (thn (ho pins s σ H _ I h) λv s1 ⟨x,H1,I1,r1,a,kvs,e,hr,q⟩=>?_)
 subst e
 cases r1
 obtain ⟨z1,m1,vs1,r2,dd1⟩:=qh9 I1.hok hr
 refine ⟨"dict","dict.items",PySem.F.plainAttrs_dict,PySem.F.slot_dict_items,PySem.F.type_dict_items,dd1.typeIs,λb eb=>?_,?_⟩
 ·cases eb
  obtain ⟨ob,es,ep,e1,e2,_⟩:=dd1
  exact ⟨ob,e1,e2.2.1⟩
 ·exact Calls.callWith_builtin rfl (PySem.evalArgs_none (mt_items pins s1 σ H1 (.ref a) [] (.ref a) [] Q I1 rfl .nil ⟨a,kvs,rfl,rfl,hr,q⟩))
def iItemsR(tl:TE):TI:=λσ H R=>tl σ H λx H1=>∃v a kvs,x=.ref v/\H1 v=some (vwI v a)/\Rd H1 a (.dK kvs)/\∀o H2,Frz H1 a o kvs H2->R (Iti a o kvs) H2
theorem qir{el:List Expr}{k:Nat}{tp:Pos}{l:Expr}{tl:TE}(hl:PE X l tl):PI X (.Tuple el k tp) l (iItemsR tl):=by
 intro pins s σ H R I h
 refine thn (hl pins s σ H _ I h) λv s1 ⟨x,H1,I1,r1,q1⟩=>?_
 obtain ⟨v',a,kvs,e,hv,hq,q⟩:=q1
 subst e
 cases r1
 obtain ⟨iv,_⟩:=(show ya7 X.prog X.w H1 s1.heap v' (vwI v' a) from I1.hok v' _ hv)
 obtain ⟨o,es,ep,H2,hda,I2,fz⟩:=I1.frzR hq
 obtain ⟨z,hd,vs,r,dd⟩:=I2.frzAt fz.at_ hda
 refine wpAny_pyIter_items iv dd ?_
 refine ⟨s1.heap.objs.size,[s1.heap.objs.size],_,_,_,rfl,I2.kept (t':=s1.toks) λb o e=>get?_push_of_some _ e,qkl a _ o hda,⟨.none,.none,by rw[r.length];exact get?_push_size _ rfl⟩,λb hb=>?_,q o H2 fz⟩
 have e:b=s1.heap.objs.size:=by simpa using hb
 subst e
 exact I2.fpOk (le_refl _) (I2.hok.fresh (le_refl _))
def iDictR(tl:TE):TI:=λσ H R=>tl σ H λx H1=>∃a kvs,x=.ref a/\Rd H1 a (.dK kvs)/\∀o H2,Frz H1 a o kvs H2->R (Itd a o kvs) H2
theorem pi_dictR{tg l:Expr}{tl:TE}(hl:PE X l tl):PI X tg l (iDictR tl):=by
 intro pins s σ H R I h
 refine thn (hl pins s σ H _ I h) λv s1 ⟨x,H1,I1,r1,q1⟩=>?_
 obtain ⟨a,kvs,e,hq,q⟩:=q1
 subst e
 cases r1
 obtain ⟨o,es,ep,H2,hda,I2,fz⟩:=I1.frzR hq
 obtain ⟨z,hd,vs,r,dd⟩:=I2.frzAt fz.at_ hda
 refine wpAny_pyIter_dict hd dd ?_
 refine ⟨s1.heap.objs.size,[s1.heap.objs.size],_,_,_,rfl,I2.kept (t':=s1.toks) λb o e=>get?_push_of_some _ e,qlo a _ o hda,⟨_,get?_push_size _ rfl,rfl,by rw[r.length];rfl⟩,λb hb=>?_,q o H2 fz⟩
 have e:b=s1.heap.objs.size:=by simpa using hb
 subst e
 exact I2.fpOk (le_refl _) (I2.hok.fresh (le_refl _))
end
def Srt(xs:Array Nat):Prop:=∀(i j:Nat) (x y:Nat),i<j->xs[i]?=some x->xs[j]?=some y->x<y
theorem yhb(xs:Array Nat)(j:Nat)(hs:Srt xs):∀(fuel lo hi:Nat),hi-lo<=fuel->lo<=hi->hi<=xs.size->(∀k x,k<lo->xs[k]?=some x->x<j)->(∀k x,hi<=k->xs[k]?=some x->j<=x)->
  (∀k x,k<SetTable.below.go xs j fuel lo hi->xs[k]?=some x->x<j)/\(∀k x,SetTable.below.go xs j fuel lo hi<=k->xs[k]?=some x->j<=x)/\SetTable.below.go xs j fuel lo hi<=xs.size
 |0,lo,hi,hf,h1,h2,ha,hb=>by
  have e:lo=hi:=by omega
  subst e
  exact ⟨ha,hb,h2⟩
 |fuel+1,lo,hi,hf,h1,h2,ha,hb=>by
  unfold SetTable.below.go
  by_cases hlt:lo<hi
  ·rw[if_pos hlt]
   have hm:(lo+hi) / 2<xs.size:=by omega
   have hg:xs[(lo+hi) / 2]?=some (xs.getD ((lo+hi) / 2) j):=by
    rw[getD_eq_getD_getElem?,Array.getElem?_eq_getElem hm];rfl
   dsimp only
   by_cases hc:xs.getD ((lo+hi) / 2) j<j
   ·rw[if_pos hc]
    refine yhb xs j hs fuel _ hi (by omega) (by omega) h2 (λk x hk hx=>?_) hb
    by_cases he:k=(lo+hi) / 2
    ·subst he;rw[hg]at hx;cases hx;exact hc
    ·have:=hs k ((lo+hi) / 2) x _ (by omega) hx hg
     omega
   ·rw[if_neg hc]
    refine yhb xs j hs fuel lo _ (by omega) (by omega) (by omega) ha (λk x hk hx=>?_)
    by_cases he:k=(lo+hi) / 2
    ·subst he;rw[hg]at hx;cases hx;omega
    ·have:=hs ((lo+hi) / 2) k _ x (by omega) hg hx
     omega
  ·rw[if_neg hlt]
   have e:lo=hi:=by omega
   subst e
   exact ⟨ha,hb,h2⟩
theorem yg3{xs:Array Nat}(j:Nat)(hs:Srt xs):(∀k x,k<SetTable.below xs j->xs[k]?=some x->x<j)/\(∀k x,SetTable.below xs j<=k->xs[k]?=some x->j<=x)/\SetTable.below xs j<=xs.size:=by
 unfold SetTable.below
 refine yhb xs j hs xs.size 0 xs.size (by omega) (zero_le _) (le_refl _) (λk x h=>absurd h (not_lt_zero _)) (λk x h hx=>?_)
 rw[Array.getElem?_eq_none h]at hx;cases hx
theorem yg0{xs:Array Nat}{j n:Nat}(hs:Srt xs)(hn:n<=xs.size)(h1:∀k x,k<n->xs[k]?=some x->x<j)(h2:∀k x,n<=k->xs[k]?=some x->j<=x):SetTable.below xs j=n:=by
 obtain ⟨b1,b2,b3⟩:=yg3 j hs
 rcases Nat.lt_trichotomy (SetTable.below xs j) n with h|h|h
 ·have hlt:SetTable.below xs j<xs.size:=by omega
  have g:=Array.getElem?_eq_getElem hlt
  have:=h1 _ _ h g
  have:=b2 _ _ (le_refl _) g
  omega
 ·exact h
 ·have hlt:n<xs.size:=by omega
  have g:=Array.getElem?_eq_getElem hlt
  have:=h2 _ _ (le_refl _) g
  have:=b1 _ _ h g
  omega
theorem ybs{α:Type}(xs:Array α)(p:Nat)(x:α)(hp:p<=xs.size)(i:Nat):(SetTable.insertAt xs p x)[i]?=if i<p then xs[i]? else if i=p then some x else xs[i-1]?:=by
 unfold SetTable.insertAt
 have e1:((xs.extract 0 p).push x++xs.extract p xs.size).toList=xs.toList.take p++x::xs.toList.drop p:=by
  simp
  exact take_of_length_le (by simp)
 rw[<-getElem?_toList,e1]
 have hl:(xs.toList.take p).length=p:=by rw[length_take,length_toList];omega
 by_cases h1:i<p
 ·rw[if_pos h1,getElem?_append_left (by omega),List.getElem?_take_of_lt h1,getElem?_toList]
 ·rw[if_neg h1,getElem?_append_right (by omega),hl]
  by_cases h2:i=p
  ·rw[if_pos h2,h2,Nat.sub_self];rfl
  ·rw[if_neg h2]
   obtain ⟨d,hd⟩:∃d,i-p=d+1:=⟨i-p-1,by omega⟩
   rw[hd,List.getElem?_cons_succ,List.getElem?_drop,getElem?_toList]
   congr 1
   omega
theorem ykf{xs:Array Nat}{j:Nat}(hs:Srt xs)(hj:xs[SetTable.below xs j]?≠some j):Srt (SetTable.insertAt xs (SetTable.below xs j) j):=by
 obtain ⟨b1,b2,b3⟩:=yg3 j hs
 have hgt:∀k x,SetTable.below xs j<=k->xs[k]?=some x->j<x:=λk x hk hx=>by
  have h1:=b2 k x hk hx
  by_cases he:x=j
  ·subst he
   by_cases hk2:k=SetTable.below xs x
   ·subst hk2;exact absurd hx hj
   ·have hlt:SetTable.below xs x<xs.size:=by
     have:=(Array.getElem?_eq_some_iff.mp hx).1
     omega
    have g:=Array.getElem?_eq_getElem hlt
    have h2:=hs _ k _ x (by omega) g hx
    have h3:=b2 _ _ (le_refl _) g
    omega
  ·omega
 intro a b x y hab hx hy
 rw[ybs _ _ _ b3]at hx hy
 by_cases ha:a<SetTable.below xs j
 ·rw[if_pos ha]at hx
  by_cases hb:b<SetTable.below xs j
  ·rw[if_pos hb]at hy
   exact hs a b x y hab hx hy
  ·rw[if_neg hb]at hy
   have hxj:=b1 a x ha hx
   by_cases hb2:b=SetTable.below xs j
   ·rw[if_pos hb2]at hy;cases hy;exact hxj
   ·rw[if_neg hb2]at hy
    have:=hgt (b-1) y (by omega) hy
    omega
 ·rw[if_neg ha]at hx
  have hb:¬ b<SetTable.below xs j:=by omega
  rw[if_neg hb]at hy
  by_cases ha2:a=SetTable.below xs j
  ·rw[if_pos ha2]at hx
   cases hx
   rw[if_neg (by omega)]at hy
   exact hgt (b-1) y (by omega) hy
  ·rw[if_neg ha2]at hx
   rw[if_neg (by omega)]at hy
   exact hs (a-1) (b-1) x y (by omega) hx hy
theorem qk9(n:Nat):Srt (Array.range n):=by
 intro i j x y hij hx hy
 have h1:=(Array.getElem?_eq_some_iff.mp hx).2
 have h2:=(Array.getElem?_eq_some_iff.mp hy).2
 simp at h1 h2
 omega
theorem srt_of{l:List Nat}(h:l.Pairwise (· < ·)):Srt l.toArray:=by
 intro i j x y hij hx hy
 have hx':l[i]?=some x:=by simpa using hx
 have hy':l[j]?=some y:=by simpa using hy
 obtain ⟨hi,e1⟩:=List.getElem?_eq_some_iff.mp hx'
 obtain ⟨hj,e2⟩:=List.getElem?_eq_some_iff.mp hy'
 have:=List.pairwise_iff_getElem.mp h i j hi hj hij
 rw[e1,e2]at this
 exact this
def TOk(t:SetTable):Prop:=Srt t.place/\t.dummies=#[]
theorem yjv(j:Nat):SetTable.has #[] j=false:=by
 unfold SetTable.has
 simp
theorem yiw{t:SetTable}(h:TOk t)(j:Nat):t.slot j≠.dummy:=by
 unfold SetTable.slot
 rw[h.2,yjv]
 dsimp only
 split
 ·intro z;cases z
 ·simp
theorem yj2{t:SetTable}{j:Nat}(h:t.slot j=.empty):t.place[SetTable.below t.place j]?≠some j:=by
 intro e
 unfold SetTable.slot at h
 dsimp only at h
 rw[if_pos (by rw[e];simp)]at h
 cases h
theorem qd9(t:SetTable)(p:SetTable.Probe):(t.advance p).dummy=p.dummy:=by
 unfold SetTable.advance
 split<;>rfl
theorem qgb{t:SetTable}(ht:TOk t)(f:Nat->Int)(h:Int):∀(fuel:Nat) (p:SetTable.Probe) (j:Nat) (d:Option Nat),p.dummy=none->SetTable.probe.go t f h fuel p=some (.empty j d)->t.slot j=.empty/\d=none
 |0,p,j,d,hp,e=>by
  unfold SetTable.probe.go at e
  cases e
 |fuel+1,p,j,d,hp,e=>by
  unfold SetTable.probe.go at e
  split at e
  ·rename_i hs
   cases e
   exact ⟨hs,hp⟩
  ·rename_i hs
   exact absurd hs (yiw ht _)
  ·split at e
   ·cases e
   ·exact qgb ht f h fuel _ j d (by rw[qd9];exact hp) e
theorem qiu{t:SetTable}(ht:TOk t){h:Int}{j:Nat}{b:Bool}(e:t.freeSlot h=some (j,b)):t.slot j=.empty:=by
 unfold SetTable.freeSlot at e
 split at e
 ·rename_i j' d hp
  have hq:SetTable.probe.go t (λ_=>h+1) h (10*SetTable.turns t.mask) (t.probeStart h)=some (.empty j' d):=hp
  obtain ⟨h1,h2⟩:=qgb ht _ _ _ _ _ _ rfl hq
  subst h2
  cases e
  exact h1
 ·cases e
theorem put_ok{t:SetTable}(ht:TOk t){j:Nat}(h:t.slot j=.empty):TOk (t.put j).1/\(t.put j).1.led=t.led:=by
 refine ⟨⟨ykf ht.1 (yj2 h),?_⟩,rfl⟩
 show (if SetTable.has t.dummies j then SetTable.eraseAt t.dummies (SetTable.below t.dummies j) else t.dummies)=#[]
 rw[ht.2,yjv]
 rfl
theorem qdl(t:SetTable)(n:Nat):TOk (t.standIn n)/\(t.standIn n).led=t.led:=⟨⟨qk9 n,rfl⟩,rfl⟩
theorem qij{t:SetTable}(ht:TOk t)(n:Nat):TOk (t.orStandIn n)/\(t.orStandIn n).led=t.led:=by
 unfold SetTable.orStandIn
 split
 ·exact ⟨ht,rfl⟩
 ·exact qdl t n
theorem yl0{t:SetTable}(ht:TOk t)(es:Array (Int×Value))(h:Int)(x:Value):TOk (layNew t es h x).2.1/\(layNew t es h x).2.1.led=t.led:=by
 unfold layNew
 split
 ·rename_i j b e
  have hp:=put_ok ht (qiu ht e)
  have ho:=qij hp.1 (SetTable.insertAt es (t.put j).2 (h,x)).size
  exact ⟨ho.1,ho.2.trans hp.2⟩
 ·exact qdl t _
theorem yel{α:Type}(f:Nat->Option α):∀(l:List Nat),l.Pairwise (· < ·)->((l.filterMap λj=>(f j).map (j,·)).map (·.1)).Pairwise (· < ·):=by
 intro l hl
 have hsub:((l.filterMap λj=>(f j).map (j,·)).map (·.1)).Sublist l:=by
  induction l with
  |nil=>exact .slnil
  |cons a l ih=>
   rw[List.filterMap_cons]
   have:=ih (List.pairwise_cons.mp hl).2
   cases f a with
   |none=>exact .cons _ this
   |some b=>exact .cons₂ _ this
 exact hl.sublist hsub
theorem yky{t t':SetTable}{hs:Array Int}{n:Nat}{o:Array Nat}(e:t.relaid hs n=some (t',o)):TOk t'/\t'.led=t.led:=by
 unfold SetTable.relaid SetTable.laid at e
 cases ho:SetTable.layClean (SetTable.sizeAbove n-1) hs with
 |none=>rw[ho]at e;cases e
 |some owner=>
  rw[ho]at e
  cases e
  refine ⟨⟨srt_of ?_,rfl⟩,rfl⟩
  exact yel (λj=>owner.getD j none) _ List.pairwise_lt_range
theorem qi6{t:SetTable}(es:Array (Int×Value))(n:Nat):TOk (relayAll t es n).2.1/\(relayAll t es n).2.1.led=t.led:=by
 unfold relayAll
 split
 ·rename_i t' o e
  dsimp only
  split
  ·exact yky e
  ·exact qdl t _
 ·exact qdl t _
def byTx(w:World):Bool:=w.params.followText "set-order"
def SetL(P:Program)(w:World)(h:Heap)(a:Addr)(ks:List Int):Prop:=
 ∃o es ep t,h.get? a=some o/\o.ExactSet/\o.data=.set es ep t/\ElemsOf (intKind P w) es.toList/\(∃ns,IntsAre (es.toList.map (·.2)) ns/\ns.Perm ks)/\es.size<scanBound/\t.fits es.size=true/\TOk t/\(byTx w=true\/t.led=true)
theorem yea{vs' vs:List Value}(p:vs'.Perm vs):∀{ns:List Int},IntsAre vs ns->∃ns',IntsAre vs' ns'/\ns'.Perm ns:=by
 induction p with
 |nil=>intro ns h;exact ⟨ns,h,List.Perm.refl _⟩
 |cons x _ ih=>
  intro ns h
  cases h with
  |cons n t r=>
   obtain ⟨ns',h1,h2⟩:=ih r
   exact ⟨n::ns',.cons n t h1,h2.cons n⟩
 |swap x y l=>
  intro ns h
  cases h with
  |cons n t r=>
   cases r with
   |cons m u r=>exact ⟨m::n::_,.cons m u (.cons n t r),List.Perm.swap ..⟩
 |trans _ _ ih1 ih2=>
  intro ns h
  obtain ⟨n1,a1,b1⟩:=ih2 h
  obtain ⟨n2,a2,b2⟩:=ih1 a1
  exact ⟨n2,a2,b2.trans b1⟩
theorem qg8:∀{vs:List Value}{ns:List Int},IntsAre vs ns->(∀v∈vs,∃n t,v=.int n t/\n∈ns)/\∀n∈ns,∃t,Value.int n t∈vs
 |_,_,.nil=>⟨λv h=>by simp at h,λn h=>by simp at h⟩
 |_,_,.cons n t r=>by
  obtain ⟨h1,h2⟩:=qg8 r
  refine ⟨λv hv=>?_,λm hm=>?_⟩
  ·rcases mem_cons.mp hv with rfl|hv
   ·exact ⟨n,t,rfl,mem_cons_self ..⟩
   ·obtain ⟨m,u,e,hm⟩:=h1 v hv
    exact ⟨m,u,e,mem_cons_of_mem _ hm⟩
  ·rcases mem_cons.mp hm with rfl|hm
   ·exact ⟨t,mem_cons_self ..⟩
   ·obtain ⟨u,hu⟩:=h2 m hm
    exact ⟨u,mem_cons_of_mem _ hu⟩
theorem yid:∀{vs:List Value}{ns:List Int} (k:Int) (t:Tok),IntsAre vs ns->IntsAre (vs++[.int k t]) (ns++[k])
 |_,_,k,t,.nil=>.cons k t .nil
 |_,_,k,t,.cons n u r=>.cons n u (yid k t r)
section
variable {P:Program}{w:World}{A:Around}{E:Value->Shared->Prop}{s:Shared}{a:Addr}{ks:List Int}
theorem storeL{o:Obj}{es:Array (Int×Value)}{ep:Nat}{t:SetTable}{es':Array (Int×Value)}{t':SetTable}{ks':List Int}{h:Heap}(g:h.get? a=some o)(gx:o.ExactSet)(gd:o.data=.set es ep t)
  (el:ElemsOf (intKind P w) es'.toList) (hv:∃ns,IntsAre (es'.toList.map (·.2)) ns/\ns.Perm ks') (hb:es'.size<scanBound) (hf:t'.fits es'.size=true) (ht:TOk t') (hl:byTx w=true\/t'.led=true) :
  (h.update a (Obj.putSet es' t')).get? a=some { o with data:=.set es' (ep+1) t' }/\SetL P w (h.update a (Obj.putSet es' t')) a ks':=by
 have hg:(h.update a (Obj.putSet es' t')).get? a=some { o with data:=.set es' (ep+1) t' }:=by
  have z:=get?_update_self (Obj.putSet es' t') g (by rw[putSet_of es' t' gd];rfl)
  rw[putSet_of es' t' gd]at z
  exact z
 exact ⟨hg,_,es',ep+1,t',hg,gx,rfl,el,hv,hb,hf,ht,hl⟩
theorem addL{k:Int}{tk:Tok}{Q:Bool->Shared->Prop}(hS:SetL P w s.heap a ks)(hroom:ks.length+1<scanBound)
  (h:∀b h',Heap.SameBut a s.heap h'->SetL P w h' a (if k∈ks then ks else ks++[k])->Q b { s with heap:=h' }) :
  wpAny (model P w) A (setAddHashed a (.int k tk) ((intKind P w).hash k)) Q E s:=by
 obtain ⟨o,es,ep,t,g,gx,gd,el,⟨ns,hi,hp⟩,hb,hf,ht,hl⟩:=hS
 have hlen:es.size=ks.length:=by
  have h1:=IntsAre.length hi
  rw[length_map,length_toList]at h1
  rw[h1,hp.length_eq]
 have kk:(intKind P w).is k (.int k tk)=true:=intKind_is _ _ _ _
 unfold setAddHashed setAddHashedIn
 refine wpAny_holding (wpAny_bind (wpAny_setState_of g gd hf ?_))
 dsimp only
 rw[byScan_of (knd:=intKind P w) rfl hb el]
 simp only[↓reduceIte]
 unfold setAddByScan
 refine wpAny_bind ?_
 refine wpAny_bind (wpAny_rule ?_)
 refine wpAny_bind (wpAny_setScan_of kk g gd hf el ?_)
 have same:∀m u,(intKind P w).is k (.int m u)=true->m=k:=λm u z=>(intKind P w).inj _ m k (intKind_is _ _ _ _) z
 cases hr:List.findIdx? (λe=>(intKind P w).is k e.2) es.toList with
 |some j=>
  dsimp only
  obtain ⟨hj,hpj,_⟩:=List.findIdx?_eq_some_iff_getElem.mp hr
  have hin:k∈ks:=by
   obtain ⟨m,u,e,hm⟩:=(qg8 hi).1 (es.toList[j]).2 (mem_map.mpr ⟨_,getElem_mem hj,rfl⟩)
   rw[e]at hpj
   have:=same m u hpj
   subst this
   exact hp.mem_iff.mp hm
  refine wpAny_pure (wpAny_pure ?_)
  have e:s={ s with heap:=s.heap }:=by cases s;rfl
  have z:=h false s.heap (Heap.SameBut.refl a s.heap) (by rw[if_pos hin];exact ⟨o,es,ep,t,g,gx,gd,el,⟨ns,hi,hp⟩,hb,hf,ht,hl⟩)
  rw[e]
  exact z
 |none=>
  dsimp only
  have hout:k∉ks:=λhin=>by
   obtain ⟨u,hu⟩:=(qg8 hi).2 k (hp.mem_iff.mpr hin)
   obtain ⟨e,he,e2⟩:=mem_map.mp hu
   have z:=List.findIdx?_eq_none_iff.mp hr e he
   rw[e2]at z
   rw[show (intKind P w).is k (.int k u)=true from intKind_is _ _ _ _]at z
   cases z
  rw[if_neg hout]at h
  have gw:∀(b:Bool) {s1:Shared}{Q':Unit->Shared->Prop},Q' () s1->wpAny (model P w) A (match b with|true=>rule "set.scan.the-table-gave-way"|false=>pure ()) Q' E s1:=λb s1 Q' z=>by cases b<;>first|exact wpAny_pure z|exact wpAny_rule z
  have pm:=layNew_perm t es ((intKind P w).hash k) (.int k tk)
  have fm:=layNew_fits t es ((intKind P w).hash k) (.int k tk)
  have tm:=yl0 ht es ((intKind P w).hash k) (.int k tk)
  generalize hL:layNew t es ((intKind P w).hash k) (.int k tk)=L at pm fm tm ⊢
  obtain ⟨es1,t1,wasDummy,gave⟩:=L
  dsimp only at pm fm tm ⊢
  rw[Array.toList_push]at pm
  have el1:ElemsOf (intKind P w) es1.toList:=(el.push kk rfl).perm pm
  have hv1:∃ns,IntsAre (es1.toList.map (·.2)) ns/\ns.Perm (ks++[k]):=by
   have q:=pm.map (·.2)
   rw[map_append]at q
   obtain ⟨n1,i1,p1⟩:=yea q (yid k tk hi)
   exact ⟨n1,i1,p1.trans (hp.append_right [k])⟩
  have sz1:es1.size=ks.length+1:=by
   rw[<-length_toList,pm.length_eq,length_append,length_toList,hlen];rfl
  have hb1:es1.size<scanBound:=by rw[sz1];exact hroom
  refine wpAny_bind (gw _ ?_)
  have tail:∀(t2:SetTable),t2.fits es1.size=true->TOk t2->(byTx w=true\/t2.led=true)->wpAny (model P w) A (do
    storeSet a es1 t2
    if (!wasDummy&&t2.tooFull)=true then do
      (match (relayAll t2 es1 (SetTable.grown es1.size)).2.2 with|true=>rule "set.scan.the-table-gave-way"|false=>pure ())
      storeSet a (relayAll t2 es1 (SetTable.grown es1.size)).1 (relayAll t2 es1 (SetTable.grown es1.size)).2.1
      pure (some true)
     else pure (some true)) (λr s1=>wpAny (model P w) A (match r with|some added=>pure added|none=>setAddHashedIn a (.int k tk) ((intKind P w).hash k) 99999) Q E s1) E s:=by
   intro t2 f2 k2 l2
   refine wpAny_bind (wpAny_storeSet_of g gd ?_ (fits_of_scanBound hb1))
   obtain ⟨g1,S1⟩:=storeL (P:=P) (w:=w) g gx gd el1 hv1 hb1 f2 k2 l2
   have sb1:=Heap.SameBut.update s.heap a (Obj.putSet es1 t2)
   split
   ·have pr:=relayAll_perm t2 es1 (SetTable.grown es1.size)
    have fr:=relayAll_fits t2 es1 (SetTable.grown es1.size)
    have tr:=qi6 (t:=t2) es1 (SetTable.grown es1.size)
    generalize hR:relayAll t2 es1 (SetTable.grown es1.size)=R at pr fr tr ⊢
    obtain ⟨es2,t3,gave2⟩:=R
    dsimp only at pr fr tr ⊢
    have sz2:es2.size=es1.size:=by rw[<-length_toList,pr.length_eq,length_toList]
    have hb2:es2.size<scanBound:=by rw[sz2];exact hb1
    refine wpAny_bind (gw _ ?_)
    refine wpAny_bind (wpAny_storeSet_of g1 rfl ?_ (fits_of_scanBound hb2))
    have hv2:∃ns,IntsAre (es2.toList.map (·.2)) ns/\ns.Perm (ks++[k]):=by
     obtain ⟨n1,i1,p1⟩:=hv1
     obtain ⟨n2,i2,p2⟩:=yea (pr.map (·.2)) i1
     exact ⟨n2,i2,p2.trans p1⟩
    obtain ⟨_,S2⟩:=storeL (P:=P) (w:=w) g1 gx rfl (el1.perm pr) hv2 hb2 fr tr.1 (l2.imp id λz=>tr.2.trans z)
    exact wpAny_pure (wpAny_pure (h true _ (sb1.trans (Heap.SameBut.update _ a _)) S2))
   ·exact wpAny_pure (wpAny_pure (h true _ sb1 S1))
  have l1:byTx w=true\/t1.led=true:=hl.imp id λz=>tm.2.trans z
  split
  ·refine wpAny_bind ?_
   rw[hashByValue_scannable 8 (rfl:(Value.int k tk).scannable=true)]
   refine wpAny_pure ?_
   split
   ·exact tail t1 fm tm.1 l1
   ·exact tail { t1 with plain:=false } (SetTable.fits_plain_off fm) tm.1 l1
  ·refine wpAny_bind (wpAny_pure ?_)
   simp only[↓reduceIte]
   exact tail t1 fm tm.1 l1
end
def ya0(f:Nat->Int):Nat->List Int
 |0=>[]
 |i+1=>if f i∈ya0 f i then ya0 f i else ya0 f i++[f i]
theorem qex(f:Nat->Int):∀i,(ya0 f i).length<=i
 |0=>le_refl _
 |i+1=>by
  have ih:=qex f i
  unfold ya0
  split
  ·omega
  ·rw[length_append];show _+1<=_;omega
theorem SetL.at{P:Program}{w:World}{h h':Heap}{a:Addr}{ks:List Int}(x:SetL P w h a ks)(k:∀o,h.get? a=some o->h'.get? a=some o):SetL P w h' a ks:=by
 obtain ⟨o,es,ep,t,g,r⟩:=x
 exact ⟨o,es,ep,t,k o g,r⟩
section
variable {P:Program}{w:World}{A:Around}{R:Result->Shared->Prop}{I:Addr}{fp wr:List Addr}{G:Array GenState->Array GenState->Prop}{n:Nat}{Pv:Nat->Value->Prop}{St:Nat->Shared->Prop}
theorem loopL(W:WalksS P w A.in1 I fp wr G n Pv St)(d:Addr)(hd:d∉fp)(f:Nat->Int)(hf:∀i v,Pv i v->∃t,v=.int (f i) t)(hb:n+1<scanBound):∀(k i:Nat) (s:Shared),n-i=k->i<=n->St i s->SetL P w s.heap d (ya0 f i)->
   (∀s',Moved (d::wr) G s s'->SetL P w s'.heap d (ya0 f n)->R (.ok (.ret .none)) s')->codeAny (model P w) A (.builtin "set.update.loop" ⟨[.ref d,.ref I],[]⟩) R s:=by
 have hw:d∉wr:=λz=>hd (W.sub _ z)
 have up:∀b∈wr,b∈d::wr:=λb z=>mem_cons_of_mem _ z
 intro k
 induction k with
 |zero=>
  intro i s hk hi st hS hR
  have e:i=n:=by omega
  subst e
  refine codeAny_builtin F.entry_set_update_loop ?_
  rw[Around.under_plainId F.plain_set_update_loop _]
  show wpAny _ A.in1 (pyNext (.ref I) >>= _) _ _ _
  refine wpAny_bind (W.done s _ _ st λs' m=>?_)
  show wpAny _ A.in1 (ret Value.none) _ _ _
  exact wpAny_pure (hR s' (m.mono up) (hS.at λo g=>m.heap d o hw g))
 |succ k ih=>
  intro i s hk hi st hS hR
  have hlt:i<n:=by omega
  refine codeAny_builtin F.entry_set_update_loop ?_
  rw[Around.under_plainId F.plain_set_update_loop _]
  show wpAny _ A.in1 (pyNext (.ref I) >>= _) _ _ _
  refine wpAny_bind (W.item i s _ _ hlt st λv s' hP st' m=>?_)
  obtain ⟨t,rfl⟩:=hf i v hP
  have hS':SetL P w s'.heap d (ya0 f i):=hS.at λo g=>m.heap d o hw g
  show wpAny _ A.in1 (holding [Value.int (f i) t] (setAdd d (.int (f i) t)) >>= _) _ _ _
  refine wpAny_bind (wpAny_holding ?_)
  unfold setAdd
  refine wpAny_holding ?_
  refine wpAny_bind ((intKind P w).pyHash (k:=f i) (intKind_is _ _ _ _) ?_)
  have room:(ya0 f i).length+1<scanBound:=by have:=qex f i;omega
  refine addL (s:={ s' with toks:=s'.toks+1 }) hS' room λb h' sb S2=>?_
  have S3:SetL P w h' d (ya0 f (i+1)):=S2
  refine wpAny_pure ⟨plainId_quiet F.plain_set_update_loop _,?_⟩
  refine ih (i+1) _ (by omega) hlt (W.frame _ s' _ _ st' (le_succ _) λb hb o g=>?_) S3 λs2 m2 S4=>?_
  ·rw[sb.2 b (λz:b=d=>hd (by rw[<-z];exact hb))];exact g
  ·refine hR s2 (Moved.trans W.gtrans ((m.mono up).then_heap (le_succ _) λb o hb g=>?_) m2) S4
   rw[sb.2 b (λz:b=d=>hb (by rw[z];exact mem_cons_self))];exact g
end
section
variable {P:Program}{w:World}{A:Around}{E:Value->Shared->Prop}{s:Shared}
theorem newL(v:Value){Q1:Value->Shared->Prop}(h:Q1 (.ref s.heap.objs.size) { s with heap:=s.heap.push { cls:=.type "set",dict:=none,data:=.set #[] 0 (.fresh 0 0 (!byTx w)) } }) :
  codeAny (model P w) A (.call (.builtin "set.__new__") ⟨[.type "set",v],[]⟩) (wants Q1 E) s:=by
 refine codeAny_of_tree ?_
 show wpAny _ A.in1 (do checkBuiltinCall "set.__new__" ⟨[.type "set",v],[]⟩;again (.builtin "set.__new__" ⟨[.type "set",v],[]⟩)) _ _ s
 refine wpAny_bind (wpAny_of_eq (F.newCall_set_1 v) (wpAny_pure ⟨plainId_quiet F.plain_set_new _,?_⟩))
 refine codeAny_builtin F.entry_set_new ?_
 rw[Around.under_plainId F.plain_set_new _]
 unfold Builtin.«set.__new__» Builtin.Frozenset.newClass
 have hsub:=sub_set_self
 obtain ⟨hp,g,d,tk,os⟩:=s
 dsimp only
 wp_walk
 refine wpAny_askSetting ?_
 refine wpAny_pure ?_
 dsimp only
 simp only[newObj]
 refine wpAny_bind (wpAny_alloc ?_)
 exact wpAny_pure (wpAny_pure h)
theorem SetL.new{h:Heap}{a:Addr}(g:h.get? a=some { cls:=.type "set",dict:=none,data:=.set #[] 0 (.fresh 0 0 (!byTx w)) }):SetL P w h a []:=by
 refine ⟨_,#[],0,_,g,⟨rfl,rfl,rfl⟩,rfl,λe he=>by simp at he,⟨[],.nil,List.Perm.refl _⟩,by decide,rfl,⟨λi j x y _ hx=>by simp[SetTable.fresh]at hx,rfl⟩,?_⟩
 cases byTx w
 ·exact .inr rfl
 ·exact .inl rfl
set_option maxHeartbeats 6400000 in
theorem ymk{l:Addr}{its:Array Value}{ns:List Int}{Q:Value->Shared->Prop}(hh:A.handled=none)(hl:s.heap.IsList l its)(hi:IntsAre its.toList ns)(hb:its.size+1<scanBound)
  (k:∀(h':Heap) (tk:Nat),SetL P w h' s.heap.objs.size (ya0 (λi=>ns.getD i 0) its.size)->(∀b o,b<s.heap.objs.size->s.heap.get? b=some o->h'.get? b=some o)->Q (.ref s.heap.objs.size) { s with heap:=h',toks:=tk }) :
  wpAny (model P w) A (call (.type "set") [.ref l]) Q E s:=by
 obtain ⟨c0,tl0,c1⟩:=F.called_set.mro
 have c2:=F.called_set.made
 have c3:=F.called_set.sub
 refine wpAny_call (codeAny_of_tree ?_)
 show wpAny _ _ (callAny (.type "set") _) _ _ s
 refine wpAny_pure ⟨?_,?_⟩
 ·exact Code.quiet_builtin _ (by decide +kernel)
 refine codeAny_builtin F.entry_type_call ?_
 rw[Around.under_plain (weight_type_call_type "set" [.ref l] []) rfl]
 have c4:=F.called_set.notType
 have c5:=F.called_set.canCreate
 have c6:=F.typeCall_set_1 (.ref l)
 repeat (any_goals first|assumption|wp_step)
 refine codeAny_mono (newL (.ref l) (E:=E) (Q1:=λv s1=>v=.ref s.heap.objs.size/\s1={ s with heap:=s.heap.push { cls:=.type "set",dict:=none,data:=.set #[] 0 (.fresh 0 0 (!byTx w)) } }) ⟨rfl,rfl⟩) λr s1 hr=>?_
 cases r with
 |error e=>exact hr
 |ok fl=>
  cases fl with
  |ret v=>
   obtain ⟨rfl,rfl⟩:=hr
   have g1:(s.heap.push { cls:=.type "set",dict:=none,data:=.set #[] 0 (.fresh 0 0 (!byTx w)) }).get? s.heap.objs.size=some { cls:=.type "set",dict:=none,data:=.set #[] 0 (.fresh 0 0 (!byTx w)) }:=get?_push_size _ rfl
   have c7:Shared.TypeIs { s with heap:=s.heap.push { cls:=.type "set",dict:=none,data:=.set #[] 0 (.fresh 0 0 (!byTx w)) } } (.ref s.heap.objs.size) "set":=⟨_,g1,rfl⟩
   have c8:=F.called_set.init.lookup
   have c9:=F.called_set.init.bind (.ref s.heap.objs.size)
   repeat (any_goals first|assumption|wp_step)
   refine codeAny_mono (codeAny_call_builtin (R:=wants (λr s2=>r=.none/\∃h' tk,s2={ s with heap:=h',toks:=tk }/\SetL P w h' s.heap.objs.size (ya0 (λi=>ns.getD i 0) its.size)/\
     (∀b o,b<s.heap.objs.size->s.heap.get? b=some o->h'.get? b=some o)) E) F.called_set.init.plain F.entry_set_init (check_set_init_1 c7 ?_)) λr2 s2 hr2=>?_
   ·obtain ⟨ol,gl,cl,nl,dl⟩:=hl
    obtain ⟨qc,qd,qa,qs⟩:=ol
    simp only at cl dl
    subst cl
    subst dl
    have gl':(s.heap.push { cls:=.type "set",dict:=none,data:=.set #[] 0 (.fresh 0 0 (!byTx w)) }).get? l=some { cls:=.type "list",dict:=qd,data:=.seq its nl,slots:=qs }:=get?_push_of_some _ gl
    have d1:=F.sub_list_set
    have d2:=F.sub_list_frozenset
    have d3:(Value.type "list" == Value.type "dict")=false:=by decide
    have hl1:(s.heap.push { cls:=.type "set",dict:=none,data:=.set #[] 0 (.fresh 0 0 (!byTx w)) }).IsList l its:=⟨_,gl',rfl,nl,rfl⟩
    unfold Builtin.«set.__init__» noKeywords Builtin.Frozenset.updateFrom
    generalize hPI:pyIter=PI
    wp_walk
    subst hPI
    refine wpAny_pyIter_list hl1 ?_
    refine wpAny_bind (wpAny_runValue ?_)
    have lt:l<s.heap.objs.size:=lt_size gl
    have h3:A.in1.in1.in1.handled=none:=by simp[hh]
    have nI:l≠(s.heap.push { cls:=.type "set",dict:=none,data:=.set #[] 0 (.fresh 0 0 (!byTx w)) }).objs.size:=by
     rw[size_push];exact ne_of_lt (lt_succ_of_lt lt)
    have nf:s.heap.objs.size∉[(s.heap.push { cls:=.type "set",dict:=none,data:=.set #[] 0 (.fresh 0 0 (!byTx w)) }).objs.size,l]:=by
     rw[size_push];simp only[mem_cons,mem_singleton,not_mem_nil,or_false,not_or]
     exact ⟨ne_of_lt (lt_succ_self _),ne_of_gt lt⟩
    have hv:∀(i:Nat) (v:Value),its[i]?=some v->∃t,v=.int ((λi=>ns.getD i 0) i) t:=λi v z=>PyProof.Rows.IntsAre.int_at hi i v (by rw[getElem?_toList];exact z)
    refine loopL ((Walks.list h3 _ l nI its).toS) s.heap.objs.size nf (λi=>ns.getD i 0) hv hb (its.size-0) 0 _ (by omega) (zero_le _) ⟨⟨_,get?_push_size _ rfl,rfl,rfl⟩,(hl1.push _)⟩ ?S0 ?R0
    case S0=>exact SetL.new (get?_push_of_some _ g1)
    case R0=>
     intro s' m S'
     obtain ⟨h',g',d',tk',os'⟩:=s'
     have eg:g'=s.gens:=m.gens
     have ed:d'=s.drawn:=m.drawn
     have eo:os'=s.os:=m.os
     subst eg
     subst ed
     subst eo
     show wpAny _ _ _ _ _ _
     refine wpAny_pure ?_
     show wpAny _ _ (ret Value.none) _ _ _
     refine wpAny_pure ⟨rfl,h',tk',rfl,S',λb o lb g=>?_⟩
     have b1:b≠s.heap.objs.size:=ne_of_lt lb
     have b2:b≠(s.heap.push { cls:=.type "set",dict:=none,data:=.set #[] 0 (.fresh 0 0 (!byTx w)) }).objs.size:=by
      rw[size_push];exact ne_of_lt (lt_succ_of_lt lb)
     exact m.heap b o (by simp only[mem_cons,mem_singleton,not_mem_nil,or_false,not_or];exact ⟨b1,b2⟩) (get?_push_of_some _ (get?_push_of_some _ g))
   ·cases r2 with
    |error e=>exact hr2
    |ok fl2=>
     cases fl2 with
     |ret r=>
      obtain ⟨rfl,h',tk,rfl,S',kp⟩:=hr2
      repeat (any_goals first|assumption|wp_step)
      exact k _ _ S' kp
     |_=>exact hr2.elim
  |_=>exact hr.elim
end
theorem qam:Slot "set_iterator" "__next__" "set_iterator.__next__":=
 .of (owner:="set_iterator") (n:="__next__") (by rw[typeLookup_type,builtinLookup_eq_fast];kernel_rfl) (by decide +kernel) (by decide +kernel) (by decide +kernel) (by first|exact .inl (by decide +kernel)|exact .inr (by decide +kernel)) (by rw[isSubtype_type];kernel_rfl)
theorem qbe:entryFor table "set_iterator.__next__"=some Builtin.«set_iterator.__next__»:=entryFor_of_tree (by kernel_rfl)
theorem ybj(v:Value):argsOk "set_iterator.__next__" ⟨[v],[]⟩:=by unfold argsOk;kernel_rfl
theorem qda:entryFor table "set.__iter__"=some Builtin.«frozenset.__iter__»:=
 entryFor_alias (id':="frozenset.__iter__") (by kernel_rfl) (by first|rfl|decide +kernel|(unfold String.splitOn;simp +decide [String.splitOnAux])) (by decide +kernel) (by kernel_rfl)
theorem yhr{M:Model}{A:Around}{E:Value->Shared->Prop}{s:Shared}{n:Nat}{Q:Nat->Shared->Prop}(hn:n≠0)(h:∀i d,i<n->Q i { s with drawn:=d }):wpAny M A (choose .order n) Q E s:=
 λΓ p hΓ=>⟨hn,h _ _ (mod_lt _ (Nat.pos_of_ne_zero hn))⟩
theorem qev{α:Type}:∀(xs:List α) (i:Nat) (x:α),xs[i]?=some x->(x::xs.eraseIdx i).Perm xs
 |[],i,x,h=>by simp at h
 |a::xs,0,x,h=>by
  have e:a=x:=by simpa using h
  subst e
  exact List.Perm.refl _
 |a::xs,i+1,x,h=>by
  have ih:=qev xs i x (by simpa using h)
  show (x::a::xs.eraseIdx i).Perm (a::xs)
  exact (List.Perm.swap a x _).trans (ih.cons a)
theorem yde{α:Type}{M:Model}{A:Around}{E:Value->Shared->Prop}:∀(n:Nat) (xs:List α) (s:Shared) (Q:List α->Shared->Prop),xs.length=n->(∀ys d,ys.Perm xs->Q ys { s with drawn:=d })->wpAny M A (drawOrder n xs) Q E s
 |0,xs,s,Q,hl,h=>by
  unfold drawOrder
  have e:xs=[]:=List.length_eq_zero_iff.mp hl
  subst e
  exact wpAny_pure (h [] s.drawn (List.Perm.refl _))
 |n+1,[],s,Q,hl,h=>by simp at hl
 |n+1,x::xs,s,Q,hl,h=>by
  unfold drawOrder
  refine wpAny_bind (yhr (by simp) λi d hi=>?_)
  have hg:(x::xs)[i]?=some (x::xs)[i]:=getElem?_eq_getElem hi
  rw[hg]
  dsimp only
  refine wpAny_bind (yde n _ _ _ (by rw[List.length_eraseIdx];simp only[if_pos hi];omega) λys d' hp=>?_)
  exact wpAny_pure (h _ d' ((hp.cons _).trans (qev _ i _ hg)))
theorem qmj{α:Type}(f:Nat->Nat):∀(n k:Nat) (xs:List α) (out:Array α),xs.length=n->∃ys:List α,ys.Perm xs/\(pickOrder.go f n k xs out).toList=out.toList++ys
 |0,k,xs,out,hl=>⟨[],by rw[List.length_eq_zero_iff.mp hl],by unfold pickOrder.go;simp⟩
 |n+1,k,xs,out,hl=>by
  have hlt:f k % xs.length<xs.length:=mod_lt _ (by omega)
  have hg:xs[f k % xs.length]?=some xs[f k % xs.length]:=getElem?_eq_getElem hlt
  unfold pickOrder.go
  rw[hg]
  dsimp only
  obtain ⟨ys,hp,e⟩:=qmj f n (k+1) (xs.eraseIdx (f k % xs.length)) (out.push xs[f k % xs.length]) (by rw[List.length_eraseIdx,if_pos hlt];omega)
  refine ⟨xs[f k % xs.length]::ys,(hp.cons _).trans (qev _ _ _ hg),?_⟩
  rw[e]
  simp
theorem qdq{α:Type}(f:Nat->Nat)(xs:Array α):(pickOrder f xs).toList.Perm xs.toList:=by
 obtain ⟨ys,hp,e⟩:=qmj f xs.size 0 xs.toList #[] (by simp)
 unfold pickOrder
 rw[e]
 simpa using hp
section
variable {P:Program}{w:World}{A:Around}{E:Value->Shared->Prop}{s:Shared}{a:Addr}{o:Obj}{es:Array (Int×Value)}{ep:Nat}{t:SetTable}
theorem yic{Q:Option (Value×Nat)->Shared->Prop}{slot i:Nat}(hb:byTx w=true)(g:s.heap.get? a=some o)(gd:o.data=.set es ep t)(hf:t.fits es.size=true)
  (h:Q (((pickOrder (w.params.setOrder a ep) es).toList.map (·.2))[i]?.map λv=>(v,slot)) s):wpAny (model P w) A (setNext a slot i ep) Q E s:=by
 unfold setNext
 refine wpAny_bind (wpAny_setState_of g gd hf ?_)
 dsimp only
 unfold setsByText
 refine wpAny_bind (wpAny_bind (wpAny_askSetting (wpAny_pure ?_)))
 have hb':w.params.followText "set-order"=true:=hb
 show wpAny _ _ (if w.params.followText "set-order"=true then _ else _) _ _ _
 rw[if_pos hb',if_neg (by simp)]
 unfold setWalk
 refine wpAny_bind (wpAny_bind (wpAny_setState_of g gd hf ?_))
 dsimp only
 unfold setsByText
 refine wpAny_bind (wpAny_bind (wpAny_askSetting (wpAny_pure ?_)))
 show wpAny _ _ (if w.params.followText "set-order"=true then _ else _) _ _ _
 rw[if_pos hb']
 refine wpAny_bind (wpAny_askSetting (wpAny_pure ?_))
 refine wpAny_pure ?_
 rw[getElem?_map,getElem?_toList,Option.map_map]at h
 exact h
theorem qjz{Q:Option (Value×Nat)->Shared->Prop}{slot i:Nat}(hb:byTx w=false)(g:s.heap.get? a=some o)(gd:o.data=.set es ep t)(hf:t.fits es.size=true)(hl:t.led=true)(hp:t.plain=true\/es.size<=1)
  (h:Q (match es[SetTable.below t.place slot]?,t.place[SetTable.below t.place slot]? with|some (_,x),some j=>some (x,j+1)|_,_=>none) s):wpAny (model P w) A (setNext a slot i ep) Q E s:=by
 unfold setNext
 refine wpAny_bind (wpAny_setState_of g gd hf ?_)
 dsimp only
 unfold setsByText
 refine wpAny_bind (wpAny_bind (wpAny_askSetting (wpAny_pure ?_)))
 have hb':w.params.followText "set-order"=false:=hb
 show wpAny _ _ (if w.params.followText "set-order"=true then _ else _) _ _ _
 rw[if_neg (by rw[hb'];exact Bool.false_ne_true)]
 refine wpAny_ite_split (λhd=>?_) λ_=>?_
 ·exfalso
  have hd':(!t.plain&&decide (es.size>1))=true:=hd
  rw[Bool.and_eq_true,decide_eq_true_eq]at hd'
  rcases hp with hp|hp
  ·rw[hp]at hd';exact absurd hd'.1 (by decide)
  ·omega
 ·refine wpAny_bind ?_
  refine wpAny_ite_split (λhd=>?_) λ_=>?_
  ·exfalso
   have hd':(!t.led && !es.isEmpty)=true:=hd
   rw[hl]at hd'
   exact absurd hd' (by simp)
  ·exact wpAny_pure (wpAny_pure h)
end
theorem qc9:Slot "set_iterator" "__iter__" "set_iterator.__iter__":=
 .of (owner:="set_iterator") (n:="__iter__") (by rw[typeLookup_type,builtinLookup_eq_fast];kernel_rfl) (by decide +kernel) (by decide +kernel) (by decide +kernel) (by first|exact .inl (by decide +kernel)|exact .inr (by decide +kernel)) (by rw[isSubtype_type];kernel_rfl)
theorem ye9:entryFor table "set_iterator.__iter__"=some Builtin.«dict_keyiterator.__iter__»:=
 entryFor_alias (id':="dict_keyiterator.__iter__") (by kernel_rfl) (by first|rfl|decide +kernel|(unfold String.splitOn;simp +decide [String.splitOnAux])) (by decide +kernel) (by kernel_rfl)
theorem yfi(v:Value):argsOk "set_iterator.__iter__" ⟨[v],[]⟩:=by unfold argsOk;kernel_rfl
def SI(h:Heap)(I:Addr)(f:Value)(i:Nat)(a:Addr)(n ep:Nat):Prop:=h.get? I=some { cls:=.type "set_iterator",dict:=none,data:=.fields #[f,rawInt i,.ref a,rawInt n,rawInt ep],slots:=#[] }
section
variable {P:Program}{w:World}{A:Around}{E:Value->Shared->Prop}{s:Shared}
theorem qie{I:Addr}{Q:Value->Shared->Prop}(hT:s.TypeIs (.ref I) "set_iterator")(h:Q (.ref I) s):wpAny (model P w) A (pyIter (.ref I)) Q E s:=by
 refine wpAny_pyIter_slot hT qc9 (wpAny_call_entry qc9 hT ye9 ?_ (yfi _))
 show wpAny _ _ (ret (.ref I)) _ _ s
 exact wpAny_pure ⟨_,rfl,"set_iterator",_,hT,qam.lookup,h⟩
theorem ygo{Q:Fin->Shared->Prop}(hh:A.handled=none)(h:∀h' e,(∀b o,s.heap.get? b=some o->h'.get? b=some o)->(∃o,h'.get? e=some o/\o.cls=.type "StopIteration")->E (.ref e) { s with heap:=h' }) :
  wpAny (model P w) A (newExc (.type "StopIteration") [] >>= λe=>(raiseNew e:Sem Fin)) Q E s:=by
 refine wpAny_bind ?_
 simp only[newExc,newTuple]
 refine wpAny_bind (wpAny_newObj_type ?_ (by size_fits))
 refine wpAny_bind (m:=firstArgMember _ _) ?_
 refine wpAny_of_eq (a:=Value.none) (by first|rfl|(simp only[firstArgMember];rfl)) ?_
 refine wpAny_newObj_type ?_ (by size_fits)
 simp only[raiseNew]
 refine wpAny_bind (wpAny_handled ?_)
 rw[hh]
 refine wpAny_bind (wpAny_pure (wpAny_throw ?_))
 exact h _ _ (λb o g=>get?_push_of_some _ (get?_push_of_some _ g)) ⟨_,get?_push_size _ rfl,rfl⟩
theorem yfg{h':Heap}{I:Addr}(k:∀b o,b≠I->s.heap.get? b=some o->h'.get? b=some o):Moved [I] (λx y=>y=x) s { s with heap:=h' }:=
 ⟨λb o hb g=>k b o (λz=>hb (by rw[z];exact mem_singleton.mpr rfl)) g,rfl,rfl,rfl,le_refl _⟩
theorem yhp(hh:A.handled=none){I a:Addr}{o:Obj}{es:Array (Int×Value)}{ep:Nat}{t:SetTable}(nI:a≠I)(gd:o.data=.set es ep t)(hf:t.fits es.size=true)(F:Nat->Nat)(vs:List Value)(hvs:vs.length=es.size)
  (hn:∀(B:Around) (D:Value->Shared->Prop) (s:Shared) (i:Nat) (Q:Option (Value×Nat)->Shared->Prop),s.heap.get? a=some o->i<=es.size->Q (vs[i]?.map λv=>(v,F (i+1))) s->wpAny (model P w) B (setNext a (F i) i ep) Q D s) :
  WalksS P w A I [I,a] [I] (λx y=>y=x) es.size (λi v=>vs[i]?=some v) (λi s=>SI s.heap I (rawInt (F i)) i a es.size ep/\s.heap.get? a=some o) where
 sub:=λb hb=>by rw[mem_singleton]at hb;rw[hb];exact mem_cons_self ..
 grefl:=λ_=>rfl
 gtrans:=λ_ _ _ h1 h2=>h2.trans h1
 frame:=λi s h' tk st _ k=>⟨k I (by simp) _ st.1,k a (by simp) _ st.2⟩
 item:=λi s Q E hi st hQ=>by
  obtain ⟨gI,ga⟩:=st
  have hT:s.TypeIs (.ref I) "set_iterator":=⟨_,gI,rfl⟩
  have hv:vs[i]?=some vs[i]:=getElem?_eq_getElem (by omega)
  unfold pyNext
  refine wpAny_bind (wpAny_attempt (wpAny_callSpecial?_slot (name:=Str.ofString "__next__") hT qam (wpAny_call_entry qam hT qbe ?_ (ybj _))))
  show wpAny _ _ (fieldsOf (.ref I) >>= _) _ _ s
  refine wpAny_bind (wpAny_fieldsOf gI rfl ?_)
  show wpAny _ _ (setEntries a >>= _) _ _ s
  refine wpAny_bind (wpAny_setEntries_of ga gd hf ?_)
  rw[if_neg (by simp)]
  show wpAny _ _ (setNext a (F i) i ep >>= _) _ _ s
  refine wpAny_bind (hn _ _ s i _ ga (by omega) ?_)
  rw[hv]
  show wpAny _ _ (setField (.ref I) 0 (rawInt (F (i+1))) >>= _) _ _ s
  refine wpAny_bind (wpAny_setField_rec gI (by simp) λm1 g1 e1=>?_)
  refine wpAny_bind (wpAny_setField_rec g1 (by simp) λm2 g2 e2=>?_)
  refine wpAny_pure ⟨_,rfl,wpAny_pure (hQ _ _ hv ⟨?_,?_⟩ (yfg λb ob hb g=>(e2.extBut _ _ hb (e1.extBut _ _ hb g))))⟩
  ·exact g2
  ·exact e2.extBut _ _ nI (e1.extBut _ _ nI ga)
 done:=λs Q E st hQ=>by
  obtain ⟨gI,ga⟩:=st
  have hT:s.TypeIs (.ref I) "set_iterator":=⟨_,gI,rfl⟩
  have hv:vs[es.size]?=none:=getElem?_eq_none (by omega)
  unfold pyNext
  refine wpAny_bind (wpAny_attempt (wpAny_callSpecial?_slot (name:=Str.ofString "__next__") hT qam (wpAny_call_entry qam hT qbe ?_ (ybj _))))
  show wpAny _ _ (fieldsOf (.ref I) >>= _) _ _ s
  refine wpAny_bind (wpAny_fieldsOf gI rfl ?_)
  show wpAny _ _ (setEntries a >>= _) _ _ s
  refine wpAny_bind (wpAny_setEntries_of ga gd hf ?_)
  rw[if_neg (by simp)]
  show wpAny _ _ (setNext a (F es.size) es.size ep >>= _) _ _ s
  refine wpAny_bind (hn _ _ s es.size _ ga (le_refl _) ?_)
  rw[hv]
  show wpAny _ _ (setField (.ref I) 2 Value.none >>= _) _ _ s
  refine wpAny_bind (wpAny_setField_rec gI (by simp) λm1 g1 e1=>?_)
  refine ygo (by first|exact hh|simpa using hh) λm2 e kp he=>?_
  obtain ⟨ob,go,gc⟩:=he
  refine wpAny_bind (wpAny_isInstance (T:="StopIteration") (b:=true) ⟨ob,go,gc⟩ isSubtype_stop ?_)
  exact wpAny_pure (hQ _ (yfg λb ob hb g=>kp b ob (e1.extBut _ _ hb g)))
 self:=λi s Q E st hQ=>by
  obtain ⟨gI,ga⟩:=st
  exact qie ⟨_,gI,rfl⟩ hQ
theorem qim(hh:A.handled=none){I a T:Addr}{o:Obj}{es:Array (Int×Value)}{ep:Nat}{t:SetTable}(nI:a≠I)(nT:T≠I)(gd:o.data=.set es ep t)(hf:t.fits es.size=true)(ps:List Nat)(hps:ps.length=es.size)(hlt:∀p∈ps,p<es.size)(vs:List Value)(hvs:vs=ps.map λp=>(es.getD p (0,.none)).2) :
  WalksS P w A I [I,a,T] [I] (λx y=>y=x) es.size (λi v=>vs[i]?=some v) (λi s=>SI s.heap I (.ref T) i a es.size ep/\s.heap.get? a=some o/\s.heap.get? T=some { cls:=.type "tuple",data:=.seq (ps.map λ(p:Nat)=>rawInt p).toArray }) where
 sub:=λb hb=>by rw[mem_singleton]at hb;rw[hb];exact mem_cons_self ..
 grefl:=λ_=>rfl
 gtrans:=λ_ _ _ h1 h2=>h2.trans h1
 frame:=λi s h' tk st _ k=>⟨k I (by simp) _ st.1,k a (by simp) _ st.2.1,k T (by simp) _ st.2.2⟩
 item:=λi s Q E hi st hQ=>by
  obtain ⟨gI,ga,gT⟩:=st
  have hT:s.TypeIs (.ref I) "set_iterator":=⟨_,gI,rfl⟩
  have hp:ps[i]?=some ps[i]:=getElem?_eq_getElem (by omega)
  have hpl:ps[i]<es.size:=hlt _ (getElem_mem _)
  have he:es[ps[i]]?=some es[ps[i]]:=Array.getElem?_eq_getElem hpl
  have hv:vs[i]?=some (es[ps[i]]).2:=by
   rw[hvs,getElem?_map,hp,Option.map_some,getD_eq_getD_getElem?,he]
   rfl
  have hpi:(ps.map λ(p:Nat)=>rawInt p).toArray[i]?=some (rawInt ps[i]):=by
   rw[List.getElem?_toArray,getElem?_map,hp];rfl
  unfold pyNext
  refine wpAny_bind (wpAny_attempt (wpAny_callSpecial?_slot (name:=Str.ofString "__next__") hT qam (wpAny_call_entry qam hT qbe ?_ (ybj _))))
  show wpAny _ _ (fieldsOf (.ref I) >>= _) _ _ s
  refine wpAny_bind (wpAny_fieldsOf gI rfl ?_)
  show wpAny _ _ (setEntries a >>= _) _ _ s
  refine wpAny_bind (wpAny_setEntries_of ga gd hf ?_)
  rw[if_neg (by simp)]
  show wpAny _ _ (seqItems? (.ref T) >>= _) _ _ s
  refine wpAny_bind (wpAny_seqItems gT rfl ?_)
  dsimp only
  rw[show ((i:Int)).toNat=i from rfl,hpi]
  show wpAny _ _ (setNextDrawn a ps[i] ep >>= _) _ _ s
  unfold setNextDrawn
  refine wpAny_bind (wpAny_bind (wpAny_setState_of ga gd hf ?_))
  dsimp only
  rw[if_neg (by simp),he]
  refine wpAny_pure ?_
  show wpAny _ _ (setField (.ref I) 1 (rawInt (i+1)) >>= _) _ _ s
  refine wpAny_bind (wpAny_setField_rec gI (by simp) λm1 g1 e1=>?_)
  refine wpAny_pure ⟨_,rfl,wpAny_pure (hQ _ _ hv ⟨?_,?_,?_⟩ (yfg λb ob hb g=>e1.extBut _ _ hb g))⟩
  ·exact g1
  ·exact e1.extBut _ _ nI ga
  ·exact e1.extBut _ _ nT gT
 done:=λs Q E st hQ=>by
  obtain ⟨gI,ga,gT⟩:=st
  have hT:s.TypeIs (.ref I) "set_iterator":=⟨_,gI,rfl⟩
  have hpi:(ps.map λ(p:Nat)=>rawInt p).toArray[es.size]?=none:=by
   rw[List.getElem?_toArray];exact getElem?_eq_none (by rw[length_map];omega)
  unfold pyNext
  refine wpAny_bind (wpAny_attempt (wpAny_callSpecial?_slot (name:=Str.ofString "__next__") hT qam (wpAny_call_entry qam hT qbe ?_ (ybj _))))
  show wpAny _ _ (fieldsOf (.ref I) >>= _) _ _ s
  refine wpAny_bind (wpAny_fieldsOf gI rfl ?_)
  show wpAny _ _ (setEntries a >>= _) _ _ s
  refine wpAny_bind (wpAny_setEntries_of ga gd hf ?_)
  rw[if_neg (by simp)]
  show wpAny _ _ (seqItems? (.ref T) >>= _) _ _ s
  refine wpAny_bind (wpAny_seqItems gT rfl ?_)
  dsimp only
  rw[show ((es.size:Int)).toNat=es.size from rfl,hpi]
  show wpAny _ _ (setField (.ref I) 0 (rawInt 0) >>= _) _ _ s
  refine wpAny_bind (wpAny_setField_rec gI (by simp) λm0 g0 e0=>?_)
  refine wpAny_bind (wpAny_setField_rec g0 (by simp) λm1 g1 e1=>?_)
  refine ygo (by first|exact hh|simpa using hh) λm2 e kp he=>?_
  obtain ⟨ob,go,gc⟩:=he
  refine wpAny_bind (wpAny_isInstance (T:="StopIteration") (b:=true) ⟨ob,go,gc⟩ isSubtype_stop ?_)
  exact wpAny_pure (hQ _ (yfg λb ob hb g=>kp b ob (e1.extBut _ _ hb (e0.extBut _ _ hb g))))
 self:=λi s Q E st hQ=>by
  obtain ⟨gI,ga,gT⟩:=st
  exact qie ⟨_,gI,rfl⟩ hQ
end
theorem qhz{t:SetTable}{n:Nat}(h:t.fits n=true):t.place.size=n:=by
 unfold SetTable.fits at h
 rw[Bool.and_eq_true,beq_iff_eq]at h
 exact h.1
def qih(t:SetTable)(i:Nat):Nat:=if i=0 then 0 else t.place.getD (i-1) 0+1
theorem ye8{t:SetTable}(hs:Srt t.place){i:Nat}(hi:i<=t.place.size):SetTable.below t.place (qih t i)=i:=by
 by_cases h0:i=0
 ·subst h0
  exact yg0 hs (zero_le _) (λk x hk=>absurd hk (not_lt_zero _)) λk x _ _=>zero_le _
 ·have hlt:i-1<t.place.size:=by omega
  have hg:t.place[i-1]?=some (t.place.getD (i-1) 0):=by
   rw[getD_eq_getD_getElem?,Array.getElem?_eq_getElem hlt];rfl
  have e:qih t i=t.place.getD (i-1) 0+1:=by unfold qih;rw[if_neg h0]
  rw[e]
  refine yg0 hs hi (λk x hk hx=>?_) λk x hk hx=>?_
  ·by_cases hk2:k=i-1
   ·subst hk2;rw[hg]at hx;cases hx;omega
   ·have:=hs k (i-1) x _ (by omega) hx hg;omega
  ·have:=hs (i-1) k _ x (by omega) hg hx;omega
section
variable {P:Program}{w:World}{A:Around}{E:Value->Shared->Prop}{s:Shared}{a:Addr}{ks:List Int}
def WalkOf(P:Program)(w:World)(s:Shared)(a:Addr)(ks:List Int)(I:Addr)(h':Heap)(d:Drawn):Prop:=
 ∃(n:Nat) (fp:List Addr) (vs:List Value) (ns:List Int) (St:Nat->Shared->Prop),n=ks.length/\(∀B:Around,B.handled=none->WalksS P w B I fp [I] (λx y=>y=x) n (λi v=>vs[i]?=some v) St)/\St 0 { s with heap:=h',drawn:=d }/\
  s.heap.objs.size<=I/\(∀b∈fp,b=a\/s.heap.objs.size<=b)/\(∀b o,s.heap.get? b=some o->h'.get? b=some o)/\IntsAre vs ns/\ns.Perm ks
theorem iterL{Q:Value->Shared->Prop}(hS:SetL P w s.heap a ks)(k:∀I h' d,WalkOf P w s a ks I h' d->Q (.ref I) { s with heap:=h',drawn:=d }):wpAny (model P w) A (pyIter (.ref a)) Q E s:=by
 obtain ⟨o,es,ep,t,g,gx,gd,el,⟨ns,hi,hp⟩,hb,hf,ht,hl⟩:=hS
 have hT:s.TypeIs (.ref a) "set":=⟨o,g,gx.1⟩
 have hlen:es.size=ks.length:=by
  have h1:=IntsAre.length hi
  rw[length_map,length_toList]at h1
  rw[h1,hp.length_eq]
 have hpl:t.place.size=es.size:=qhz hf
 have ha:a<s.heap.objs.size:=lt_size g
 refine wpAny_pyIter_slot hT F.slot_set_iter (wpAny_call_entry F.slot_set_iter hT qda ?_ (F.args_set_iter_1 _))
 show wpAny _ _ (Builtin.Frozenset.sizeOf a >>= _) _ _ s
 refine wpAny_bind ?_
 unfold Builtin.Frozenset.sizeOf
 refine wpAny_bind (wpAny_setEntries_of g gd hf ?_)
 refine wpAny_pure ?_
 refine wpAny_bind ?_
 refine wpAny_bind ?_
 refine wpAny_setState_of g gd hf ?_
 dsimp only
 unfold setsByText
 refine wpAny_bind (wpAny_bind (wpAny_askSetting (wpAny_pure ?_)))
 refine wpAny_pure ?_
 dsimp only
 refine wpAny_ite_split (λhd=>?_) λhd=>?_
 ·refine wpAny_bind (yde es.size (List.range es.size) s _ (by simp) λps d pp=>?_)
  have hpsl:ps.length=es.size:=by rw[pp.length_eq,length_range]
  refine wpAny_bind (wpAny_newTuple ?_ (by rw[length_map,hpsl];exact fits_of_scanBound hb))
  have gT:(s.heap.push { cls:=.type "tuple",data:=.seq (ps.map λ(p:Nat)=>rawInt p).toArray }).get? s.heap.objs.size=some { cls:=.type "tuple",data:=.seq (ps.map λ(p:Nat)=>rawInt p).toArray }:=get?_push_size _ rfl
  have ga:(s.heap.push { cls:=.type "tuple",data:=.seq (ps.map λ(p:Nat)=>rawInt p).toArray }).get? a=some o:=get?_push_of_some _ g
  refine wpAny_bind (wpAny_setEpoch_of (s:={ s with heap:=s.heap.push { cls:=.type "tuple",data:=.seq (ps.map λ(p:Nat)=>rawInt p).toArray },drawn:=d }) ga gd hf ?_)
  refine wpAny_bind (wpAny_newObj_type ?_ (by size_fits))
  have z1:(s.heap.push { cls:=.type "tuple",data:=.seq (ps.map λ(p:Nat)=>rawInt p).toArray }).objs.size=s.heap.objs.size+1:=size_push ..
  have hvp:(ps.map λp=>(es.getD p (0,.none)).2).Perm (es.toList.map (·.2)):=by
   refine (pp.map _).trans (List.Perm.of_eq ?_)
   refine List.ext_getElem (by simp) λi h1 h2=>?_
   have hi:i<es.size:=by simpa using h2
   rw[getElem_map,getElem_map,List.getElem_range,Array.getElem_toList]
   show (es.getD i (0,.none)).2=(es[i]).2
   rw[getD_eq_getD_getElem?,Array.getElem?_eq_getElem hi]
   rfl
  obtain ⟨n2,i2,p2⟩:=yea hvp hi
  have nI:a≠(s.heap.push { cls:=.type "tuple",data:=.seq (ps.map λ(p:Nat)=>rawInt p).toArray }).objs.size:=by rw[z1];exact neN (.inl (lt_succ_of_lt ha))
  have nT:s.heap.objs.size≠(s.heap.push { cls:=.type "tuple",data:=.seq (ps.map λ(p:Nat)=>rawInt p).toArray }).objs.size:=by rw[z1];exact neN (.inl (lt_succ_self _))
  refine wpAny_pure ⟨_,rfl,"set_iterator",_,⟨_,get?_push_size _ rfl,rfl⟩,qam.lookup,k _ _ d ?_⟩
  refine ⟨es.size,_,_,n2,_,hlen,λB hB=>qim hB nI nT gd hf ps hpsl (λp hp=>mem_range.mp (pp.mem_iff.mp hp)) _ rfl,⟨get?_push_size _ rfl,get?_push_of_some _ ga,get?_push_of_some _ gT⟩,by rw[z1];exact le_succ _,λb hb=>?_,λb ob gb=>get?_push_of_some _ (get?_push_of_some _ gb),i2,p2.trans hp⟩
  have hb':b=(s.heap.push { cls:=.type "tuple",data:=.seq (ps.map λ(p:Nat)=>rawInt p).toArray }).objs.size\/b=a\/b=s.heap.objs.size:=by simpa using hb
  rcases hb' with rfl|rfl|rfl
  ·exact .inr (by rw[z1];exact le_succ _)
  ·exact .inl rfl
  ·exact .inr (le_refl _)
 ·refine wpAny_bind (wpAny_pure ?_)
  refine wpAny_bind (wpAny_setEpoch_of g gd hf ?_)
  refine wpAny_bind (wpAny_newObj_type ?_ (by size_fits))
  have nI:a≠s.heap.objs.size:=neN (.inl ha)
  have es0:s={ s with drawn:=s.drawn }:=by cases s;rfl
  have fpk:∀b∈[s.heap.objs.size,a],b=a\/s.heap.objs.size<=b:=λb hb=>by
   have hb':b=s.heap.objs.size\/b=a:=by simpa using hb
   rcases hb' with rfl|rfl
   ·exact .inr (le_refl _)
   ·exact .inl rfl
  refine wpAny_pure ⟨_,rfl,"set_iterator",_,⟨_,get?_push_size _ rfl,rfl⟩,qam.lookup,?_⟩
  have key:WalkOf P w s a ks s.heap.objs.size (s.heap.push { cls:=.type "set_iterator",data:=.fields #[rawInt 0,rawInt 0,.ref a,rawInt es.size,rawInt ep] }) s.drawn:=by
   by_cases hbt:byTx w=true
   ·have hvp:((pickOrder (w.params.setOrder a ep) es).toList.map (·.2)).Perm (es.toList.map (·.2)):=(qdq _ es).map _
    obtain ⟨n2,i2,p2⟩:=yea hvp hi
    refine ⟨es.size,_,(pickOrder (w.params.setOrder a ep) es).toList.map (·.2),n2,_,hlen,λB hB=>yhp hB nI gd hf (λ_=>0) _ (by rw[hvp.length_eq,length_map,length_toList]) λC D s i Q g1 hi1 q=>yic hbt g1 gd hf q,⟨get?_push_size _ rfl,get?_push_of_some _ g⟩,le_refl _,fpk,λb ob gb=>get?_push_of_some _ gb,i2,p2.trans hp⟩
   ·have hbf:byTx w=false:=eq_false_of_ne_true hbt
    have hled:t.led=true:=hl.resolve_left hbt
    have hpz:t.plain=true\/es.size<=1:=by
     have hd':¬ ((!byTx w&&(!t.plain&&decide (es.size>1)))=true):=hd
     rw[hbf]at hd'
     cases hq:t.plain with
     |true=>exact .inl rfl
     |false=>
      right
      rw[hq]at hd'
      simpa using hd'
    refine ⟨es.size,_,es.toList.map (·.2),ns,_,hlen,λB hB=>yhp hB nI gd hf (qih t) _ (by rw[length_map,length_toList]) λC D s i Q g1 hi1 q=>qjz hbf g1 gd hf hled hpz ?_,⟨get?_push_size _ rfl,get?_push_of_some _ g⟩,le_refl _,fpk,λb ob gb=>get?_push_of_some _ gb,hi,hp⟩
    rw[ye8 ht.1 (by omega)]
    by_cases hlt:i<es.size
    ·have e1:es[i]?=some es[i]:=Array.getElem?_eq_getElem hlt
     have e2:t.place[i]?=some (t.place.getD i 0):=by
      rw[getD_eq_getD_getElem?,Array.getElem?_eq_getElem (by omega)];rfl
     rw[getElem?_map,getElem?_toList,e1]at q
     rw[e1,e2]
     exact q
    ·have e1:es[i]?=none:=Array.getElem?_eq_none (by omega)
     rw[getElem?_map,getElem?_toList,e1]at q
     rw[e1]
     exact q
  have z:=k _ _ _ key
  exact z
theorem yl2:typeLookup (.type "set") "__len__"=pure (some (.builtin "set.__len__")):=by rw[typeLookup_type,builtinLookup_eq_fast];kernel_rfl
theorem collectL{Q:List Value->Shared->Prop}(hh:A.handled=none)(hS:SetL P w s.heap a ks)(hz:ks.length<=4000)
  (k:∀vs ns h' d tk,IntsAre vs ns->ns.Perm ks->s.heap.objs.size<h'.objs.size->(∀b o,s.heap.get? b=some o->h'.get? b=some o)->Q vs { s with heap:=h',drawn:=d,toks:=tk }):wpAny (model P w) A (collect (.ref a)) Q E s:=by
 have hT:s.TypeIs (.ref a) "set":=by
  obtain ⟨o,es,ep,t,g,gx,_⟩:=hS
  exact ⟨o,g,gx.1⟩
 have ha:a<s.heap.objs.size:=by
  obtain ⟨o,es,ep,t,g,gx,_⟩:=hS
  exact lt_size g
 unfold collect
 refine wpAny_bind (wpAny_runValue (codeAny_builtin F.entry_proto_collect ?_))
 rw[Around.under_plainId F.plain_proto_collect _]
 show wpAny _ A.in1 (newList [] >>= λl=>again (.builtin "list.__iadd__" ⟨[l,.ref a],[]⟩)) _ _ s
 refine wpAny_bind (wpAny_newObj_type ?_)
 refine wpAny_pure ⟨plainId_quiet F.plain_list_iadd _,?_⟩
 refine codeAny_builtin F.entry_list_iadd ?_
 rw[Around.under_plainId F.plain_list_iadd _]
 show wpAny _ A.in1 (Builtin.List.listExtendWith (.ref s.heap.objs.size) (.ref a) (.ref s.heap.objs.size)) _ _ _
 generalize hH:s.heap.push { cls:=.type "list",data:=.seq ([]:List Value).toArray }=H1
 have g0:H1.get? s.heap.objs.size=some { cls:=.type "list",data:=.seq ([]:List Value).toArray }:=by rw[<-hH];exact get?_push_size _ rfl
 have z1:H1.objs.size=s.heap.objs.size+1:=by rw[<-hH];exact size_push ..
 have kp1:∀b o,s.heap.get? b=some o->H1.get? b=some o:=λb o g=>by rw[<-hH];exact get?_push_of_some _ g
 have hS1:SetL P w H1 a ks:=hS.at λo g=>kp1 a o g
 have hT1:Shared.TypeIs { s with heap:=H1 } (.ref a) "set":=by
  obtain ⟨o,es,ep,t,g,gx,_⟩:=hS1
  exact ⟨o,g,gx.1⟩
 unfold Builtin.List.listExtendWith
 refine wpAny_bind (wpAny_typeOf hT1 ?_)
 have n1:Builtin.List.listSameRef (.ref s.heap.objs.size) (.ref a)=false:=by
  have:s.heap.objs.size≠a:=neN (.inr ha)
  simp[Builtin.List.listSameRef,this]
 rw[if_neg (by rw[n1];decide)]
 refine wpAny_bind (iterL (s:={ s with heap:=H1 }) hS1 λI h' d W=>?_)
 refine wpAny_bind (wpAny_holding ?_)
 have hT2:Shared.TypeIs { s with heap:=h',drawn:=d } (.ref a) "set":=by
  obtain ⟨n,fp,vs,ns,St,e,W1,st,lI,fpk,kp,i2,p2⟩:=W
  obtain ⟨o,g,c⟩:=hT1
  exact ⟨o,kp _ _ g,c⟩
 unfold Builtin.List.listLengthHint
 refine wpAny_bind (wpAny_specialOf hT2 yl2 ?_)
 wp_delta
 refine wpAny_bind (wpAny_isInstance (T:="set") (b:=true) hT2 (by rw[isSubtype_type];kernel_rfl) ?_)
 show wpAny _ A.in1 (typeOf (Value.ref a) >>= _) _ _ _
 refine wpAny_bind (wpAny_typeOf hT2 ?_)
 refine wpAny_pure ?_
 rw[if_pos (by decide)]
 refine wpAny_bind (wpAny_rule ?_)
 obtain ⟨n,fp,vs,ns,St,en,W1,st,lI,fpk,kp,i2,p2⟩:=W
 have lI':s.heap.objs.size+1<=I:=by rw[<-z1];exact lI
 have hd:s.heap.objs.size∉fp:=λhm=>by
  rcases fpk _ hm with z|z
  ·exact absurd ha (by rw[<-z];exact lt_irrefl _)
  ·have z':s.heap.objs.size+1<=s.heap.objs.size:=by rw[<-z1];exact z
   exact absurd z' (Nat.not_succ_le_self _)
 have gS:h'.get? s.heap.objs.size=some { cls:=.type "list",data:=.seq ([]:List Value).toArray }:=kp _ _ g0
 refine wpAny_bind ?_
 show wpAny _ _ (updateSeq s.heap.objs.size (·.push .none) >>= λ_=>updateSeq s.heap.objs.size (·.pop)) _ _ _
 refine wpAny_bind (wpAny_updateSeq gS rfl ?_ (by simp) (by simp))
 have gS1:=get?_update_self (Obj.mapSeq (·.push Value.none)) gS rfl
 refine wpAny_updateSeq gS1 rfl ?_ (by simp;decide) (by simp)
 have gS2:=get?_update_self (Obj.mapSeq (·.pop)) gS1 rfl
 have oth:∀b o,b≠s.heap.objs.size->h'.get? b=some o->((h'.update s.heap.objs.size (Obj.mapSeq (·.push Value.none))).update s.heap.objs.size (Obj.mapSeq (·.pop))).get? b=some o:=λb o hb g=>by
  rw[get?_update_other _ _ (Ne.symm hb),get?_update_other _ _ (Ne.symm hb)]
  exact g
 have st2:=(W1 A.in1 (by simpa using hh)).frame 0 _ ((h'.update s.heap.objs.size (Obj.mapSeq (·.push Value.none))).update s.heap.objs.size (Obj.mapSeq (·.pop))) s.toks st (le_refl _) λb hb o g=>oth b o (λz=>hd (z ▸ hb)) g
 have hvl:n<=sizeLine:=by rw[en];exact qd3 (by omega)
 refine wpAny_pure ⟨plainId_quiet F.plain_extend_loop _,?_⟩
 refine codeAny_extend_loopS (W1 A.in1 (by simpa using hh)) hvl _ hd _ n 0 _ _ _ rfl (zero_le _) st2 gS2 ⟨rfl,λj v z=>by simp at z⟩ λs2 acc c m g2 it=>?_
 show wpAny _ A (load s.heap.objs.size >>= _) _ _ s2
 refine wpAny_bind (wpAny_load g2 ?_)
 have ev:acc.toList=vs:=by
  have hl:acc.size=n:=it.1
  have hvn:vs.length=n:=by
   have h1:=IntsAre.length i2
   rw[h1,p2.length_eq,en]
  refine List.ext_getElem? λj=>?_
  cases hj:acc.toList[j]? with
  |none=>
   have:=List.getElem?_eq_none_iff.mp hj
   rw[length_toList]at this
   rw[getElem?_eq_none (by omega)]
  |some v=>exact (it.2 j v (by rw[<-getElem?_toList];exact hj)).symm
 obtain ⟨h2,g',d2,tk,os⟩:=s2
 have eg:g'=s.gens:=m.gens
 have ed:d2=d:=m.drawn
 have eo:os=s.os:=m.os
 subst eg
 subst ed
 subst eo
 refine wpAny_pure ?_
 show Q acc.toList _
 rw[ev]
 refine k vs ns h2 d2 tk i2 p2 (lt_size g2) λb o g=>?_
 have hb:b<s.heap.objs.size:=lt_size g
 refine m.heap b o (λz=>?_) (oth b o (neN (.inl hb)) (kp b o (kp1 b o g)))
 have z':b=s.heap.objs.size\/b=I:=by simpa using z
 rcases z' with z|z
 ·exact absurd hb (by rw[z];exact lt_irrefl _)
 ·exact absurd (lt_of_lt_of_le hb (Nat.le_of_succ_le lI')) (by rw[z];exact lt_irrefl _)
theorem qgl(f:Nat->Int)(k:Int):∀n,k∈ya0 f n↔∃i,i<n/\f i=k
 |0=>by
  unfold ya0
  constructor
  ·intro h;simp at h
  ·rintro ⟨i,h,_⟩;omega
 |n+1=>by
  have ih:=qgl f k n
  have e:k∈ya0 f (n+1)↔k∈ya0 f n\/k=f n:=by
   show k∈(if f n∈ya0 f n then ya0 f n else ya0 f n++[f n])↔_
   split
   ·rename_i h
    exact ⟨.inl,λz=>z.elim id λz=>z ▸ h⟩
   ·rw[mem_append,mem_singleton]
  rw[e,ih]
  constructor
  ·rintro (⟨i,h,z⟩|z)
   ·exact ⟨i,by omega,z⟩
   ·exact ⟨n,by omega,z.symm⟩
  ·rintro ⟨i,h,z⟩
   by_cases hi:i=n
   ·subst hi;exact .inr z.symm
   ·exact .inl ⟨i,by omega,z⟩
theorem ye7(f:Nat->Int):∀n,(ya0 f n).Nodup
 |0=>nodup_nil
 |n+1=>by
  have ih:=ye7 f n
  show (if f n∈ya0 f n then ya0 f n else ya0 f n++[f n]).Nodup
  split
  ·exact ih
  ·rename_i h
   rw[List.nodup_append]
   exact ⟨ih,by simp,λx hx y hy z=>h (by rw[<-mem_singleton.mp hy,<-z];exact hx)⟩
def uniq(ns:List Int):List Int:=ya0 (λi=>ns.getD i 0) ns.length
theorem yhd(ns:List Int)(k:Int):k∈uniq ns↔k∈ns:=by
 unfold uniq
 rw[qgl]
 constructor
 ·rintro ⟨i,h,z⟩
  rw[getD_eq_getElem?_getD,getElem?_eq_getElem h]at z
  rw[<-z]
  exact getElem_mem h
 ·intro h
  obtain ⟨i,hi,e⟩:=getElem_of_mem h
  exact ⟨i,hi,by rw[getD_eq_getElem?_getD,getElem?_eq_getElem hi,e];rfl⟩
theorem ykl(ns:List Int):(uniq ns).Nodup:=ye7 _ _
theorem uniq_len(ns:List Int):(uniq ns).length<=ns.length:=qex _ _
def SetO(P:Program)(w:World)(a:Addr)(ks:List Int):HO:=.ext λh=>SetL P w h a ks
theorem sortedL{Q:Value->Shared->Prop}(hh:A.handled=none)(hS:SetL P w s.heap a ks)(h64:ks.length<64)
  (k:∀l h' d tk vs ns e,s.heap.objs.size<=l->h'.get? l=some (seqObj "list" (List.toArray vs) e)->IntsAre vs ns->ns.Perm ks->ns.Pairwise (·<=·)->(∀b o,s.heap.get? b=some o->h'.get? b=some o)->Q (.ref l) { s with heap:=h',drawn:=d,toks:=tk }) :
  wpAny (model P w) A (call (.builtin "sorted") [.ref a]) Q E s:=by
 refine Calls.call_function_entry kind_sorted plain_sorted entry_sorted (args_sorted1 (.ref a)) ?_
 unfold Builtin.«sorted»
 refine wpAny_bind (m:=checkCount "sorted" 1 1 _) ?_
 refine wpAny_pure ?_
 refine wpAny_bind (collectL (by simpa using hh) hS (by omega) λvs ns h1 d tk i1 p1 hz kp=>?_)
 have hvl:vs.length=ks.length:=by
  have h1:=IntsAre.length i1
  rw[h1,p1.length_eq]
 refine wpAny_bind (wpAny_newList ?_ (qd3 (by omega)))
 have gL:(h1.push (seqObj "list" vs.toArray 0)).get? h1.objs.size=some (seqObj "list" vs.toArray 0):=get?_push_size _ rfl
 refine wpAny_bind (wpAny_holding (wpAny_call_entry slot_list_sort ⟨_,gL,rfl⟩ entry_list_sort (list_sort_tree gL i1 (by omega) λout n2 a1 a2 a3=>⟨_,rfl,?_⟩) (args_list_sort _)))
 obtain ⟨ep,ge⟩:=sortedHeap_at (out:=out) gL
 refine wpAny_pure ⟨_,rfl,k _ _ d tk out.toList n2 ep (le_of_lt hz) (by simpa using ge) a1 (a2.trans p1) a3 λb o g=>?_⟩
 have hb:b<h1.objs.size:=lt_size (kp b o g)
 rw[sortedHeap_old (ne_of_lt hb) (by rw[show (h1.push (seqObj "list" vs.toArray 0)).objs.size=h1.objs.size+1 from size_push ..];exact lt_succ_of_lt hb)]
 exact get?_push_of_some _ (kp b o g)
end
section
variable {X:Cx}{pins:List (Addr×Obj)}{σ:St}{H:Hp}{s:Shared}
theorem Inv.draw(I:Inv X pins σ H s)(d:Drawn):Inv X pins σ H { s with drawn:=d }:=⟨I.ok,I.os,I.bare,I.base,I.loc,I.cell,I.free,I.freeC,I.pin,I.hok,I.len⟩
def rSet(P:Program)(w:World):List V->Hp->VK->Prop:=λxs H Q=>∃(l:Addr) (ns:List Int),xs=[.ref l]/\H l=some (.lst (ns.map V.int))/\ns.length<=4000/\∀p,H p=none->Q (.ref p) (upd H p (SetO P w p (uniq ns)))
theorem qdc(hc:X.calm=true):yb6 X (.type "set") (rSet X.prog X.w):=by
 intro pins s σ H xs us Q I r h
 obtain ⟨l,ns,rfl,hH,h4,q⟩:=h
 cases r with
 |cons r rr=>
  cases rr
  cases r
  obtain ⟨z,its,n,rv,hl,e⟩:=I.lstM hH
  have hil:its.length=ns.length:=by rw[<-hl,length_map]
  have hf:H s.heap.objs.size=none:=I.hok.fresh (le_refl _)
  refine ymk (by simpa using I.ok.hd hc) (its:=its.toArray) (ns:=ns) ⟨_,e,rfl,n,rfl⟩ (by simpa using qcn rv) (by rw[size_toArray,hil];unfold scanBound;omega) λh' tk S kp=>?_
  have ez:its.toArray.size=ns.length:=by rw[size_toArray,hil]
  rw[ez]at S
  refine ⟨.ref s.heap.objs.size,_,I.laid (o:=SetO X.prog X.w s.heap.objs.size (uniq ns)) (t':=tk) (λb o g=>kp b o (lt_size g) g) (le_refl _) ?_,rfl,q _ hf⟩
  refine ⟨S,?_,λh1 h2 x y=>SetL.at x y⟩
  obtain ⟨o,es,ep,t,g,_⟩:=S
  exact ⟨o,g⟩
def rLenSet(P:Program)(w:World):List V->Hp->VK->Prop:=λxs H Q=>∃(p:Addr) (ks:List Int),xs=[.ref p]/\H p=some (SetO P w p ks)/\Q (.int ks.length) H
theorem qf7:yb6 X (.builtin "len") (rLenSet X.prog X.w):=by
 intro pins s σ H xs us Q I r h
 obtain ⟨p,ks,rfl,hH,q⟩:=h
 cases r with
 |cons r rr=>
  cases rr
  cases r
  obtain ⟨⟨o,es,ep,t,g,gx,gd,el,⟨ns,hi,hp⟩,hb,hf,ht,hl⟩,_⟩:=I.hok p _ hH
  have hlen:es.size=ks.length:=by
   have h1:=IntsAre.length hi
   rw[length_map,length_toList]at h1
   rw[h1,hp.length_eq]
  refine call_len_set g gx gd hf (by unfold scanBound at hb;omega) ?_
  rw[hlen]
  exact ⟨.int ks.length,H,I.tok _,⟨_,rfl⟩,q⟩
def rSortSet(P:Program)(w:World):List V->Hp->VK->Prop:=λxs H Q=>∃(p:Addr) (ks:List Int),xs=[.ref p]/\H p=some (SetO P w p ks)/\ks.length<64/\∀(l:Addr) (ns:List Int),H l=none->ns.Perm ks->ns.Pairwise (·<=·)->Q (.ref l) (upd H l (.lst (ns.map V.int)))
theorem qdb(hc:X.calm=true):yb6 X (.builtin "sorted") (rSortSet X.prog X.w):=by
 intro pins s σ H xs us Q I r h
 obtain ⟨p,ks,rfl,hH,h64,q⟩:=h
 cases r with
 |cons r rr=>
  cases rr
  cases r
  obtain ⟨S,_⟩:=I.hok p _ hH
  refine sortedL (by simpa using I.ok.hd hc) S h64 λl h' d tk vs ns e hz gl i1 p1 w1 kp=>?_
  have hf:H l=none:=I.hok.fresh hz
  refine ⟨.ref l,_,(I.draw d).laid (o:=.lst (ns.map V.int)) (t':=tk) (λb o g=>kp b o g) hz ?_,rfl,q l ns hf p1 w1⟩
  exact ⟨qd3 (by rw[length_map,p1.length_eq];omega),vs,e,qd8 i1,gl⟩
end
theorem yci:bootBuiltins "set"=some (.type "set"):=by decide +kernel
theorem qhe{K:W.Frag}{t1 t2:Bool}{l1 l2:Addr}{xs ys:List V}{g:TG}{tt:TT}{te:TE}{ix:List (Option Nat)}{σ:St}{H:Hp}{QD:Hp->Prop}{D:Addr}(hlen:xs.length=ys.length)(Pv:Nat->Hp->Prop)(h0:Pv 0 (upd H D (.lst [])))
  (hl:∀i H',Pv i H'->Sq K t1 H' l1 xs/\Sq K t2 H' l2 ys) (stop:∀H',Pv xs.length H'->QD H')
  (step:∀i x y p H',xs[i]?=some x->ys[i]?=some y->Pv i H'->H' p=none->g (.ref p) (capS ix σ) (upd H' p (.tup [x,y])) λσ2 H3=>qa0 (capS ix σ) σ2/\tt σ2 H3 λb H4=>
   if b=true then te σ2 H4 λv H5=>∃zs,H5 D=some (.lst zs)/\zs.length<sizeLine/\Pv (i+1) (upd H5 D (.lst (zs++[v]))) else Pv (i+1) H4) :
  ∃W:Nat->Nat->Hp->Prop,(∃m,W 0 m (upd H D (.lst [])))/\∀i m H,W i m H->
   ((Itz K t1 t2 l1 l2).stop i H/\QD H)\/((Itz K t1 t2 l1 l2).go i H/\∃N:Hp->Prop,(∀H',N H'->∃m',m' < m/\W (i+1) m' H')/\∀x H',(Itz K t1 t2 l1 l2).yld i H x H'->g x (capS ix σ) H' λσ2 H2=>qa0 (capS ix σ) σ2/\tt σ2 H2 λb H3=>
    if b=true then te σ2 H3 λv H4=>∃zs,H4 D=some (.lst zs)/\zs.length<sizeLine/\N (upd H4 D (.lst (zs++[v]))) else N H3):=by
 refine qb4 (n:=xs.length) Pv h0 (λH' p=>⟨?_,stop H' p⟩) λi H' hi p=>⟨?_,?_⟩
 ·obtain ⟨q1,q2⟩:=hl _ H' p
  exact ⟨xs,ys,q1,q2,.inl (by simp)⟩
 ·obtain ⟨q1,q2⟩:=hl _ H' p
  exact ⟨xs,ys,_,_,q1,q2,getElem?_eq_getElem hi,getElem?_eq_getElem (by omega)⟩
 ·rintro x H2 ⟨pp,u,v,hp,rfl,rfl,hu⟩
  obtain ⟨q1,q2⟩:=hl _ H' p
  obtain ⟨h1,h2⟩:=hu xs ys q1 q2
  exact step i u v pp H' h1 h2 p hp
section
variable {X:Cx}
def rMinL:List V->Hp->VK->Prop:=λxs H Q=>∃(l:Addr) (ns:List Int),xs=[.ref l]/\H l=some (.lst (ns.map V.int))/\0<ns.length/\∀M,M∈ns->(∀a∈ns,M<=a)->Q (.int M) H
def rMaxL:List V->Hp->VK->Prop:=λxs H Q=>∃(l:Addr) (ns:List Int),xs=[.ref l]/\H l=some (.lst (ns.map V.int))/\0<ns.length/\∀M,M∈ns->(∀a∈ns,a<=M)->Q (.int M) H
theorem yk2(hc:X.calm=true):yb6 X (.builtin "min") rMinL:=by
 intro pins s σ H xs us Q I r h
 obtain ⟨l,ns,rfl,hH,hne,q⟩:=h
 cases r with
 |cons r rr=>
  cases rr
  cases r
  obtain ⟨z,its,n,rv,hl,e⟩:=I.lstM hH
  have hi:IntsAre its ns:=qcn rv
  obtain ⟨ys,e2⟩:=hi.allInts.items
  have hns:ns=ys.toList.map (·.1):=by rw[<-hi.numsOf,<-nums_intItems,<-e2]
  have hsz:0<ys.size:=by
   have h3:=hne;rw[hns,length_map,length_toList]at h3;exact h3
  have hl':s.heap.IsList l its.toArray:=⟨_,e,rfl,n,rfl⟩
  rw[e2]at hl'
  refine min_intList (I.ok.hd hc) hl' hsz λv h' tk hv hk=>?_
  obtain ⟨t,rfl⟩:=intItems_at hv
  obtain ⟨h1,h2⟩:=argBest_lt (numAt ys) (ys.size-1)
  refine ⟨.int _,H,I.kept hk,⟨_,rfl⟩,q _ ?_ λa ha=>?_⟩
  ·rw[hns,numAt_eq];exact getD_mem (by rw[length_map,length_toList];omega)
  ·rw[hns]at ha
   obtain ⟨j,hj,rfl⟩:=mem_getD ha
   rw[length_map,length_toList]at hj
   rw[<-numAt_eq];exact h2 j (by omega)
theorem ykx(hc:X.calm=true):yb6 X (.builtin "max") rMaxL:=by
 intro pins s σ H xs us Q I r h
 obtain ⟨l,ns,rfl,hH,hne,q⟩:=h
 cases r with
 |cons r rr=>
  cases rr
  cases r
  obtain ⟨z,its,n,rv,hl,e⟩:=I.lstM hH
  have hi:IntsAre its ns:=qcn rv
  obtain ⟨ys,e2⟩:=hi.allInts.items
  have hns:ns=ys.toList.map (·.1):=by rw[<-hi.numsOf,<-nums_intItems,<-e2]
  have hsz:0<ys.size:=by
   have h3:=hne;rw[hns,length_map,length_toList]at h3;exact h3
  have hl':s.heap.IsList l its.toArray:=⟨_,e,rfl,n,rfl⟩
  rw[e2]at hl'
  refine max_intList (I.ok.hd hc) hl' hsz λv h' tk hv hk=>?_
  obtain ⟨t,rfl⟩:=intItems_at hv
  obtain ⟨h1,h2⟩:=argBest_gt (numAt ys) (ys.size-1)
  refine ⟨.int _,H,I.kept hk,⟨_,rfl⟩,q _ ?_ λa ha=>?_⟩
  ·rw[hns,numAt_eq];exact getD_mem (by rw[length_map,length_toList];omega)
  ·rw[hns]at ha
   obtain ⟨j,hj,rfl⟩:=mem_getD ha
   rw[length_map,length_toList]at hj
   rw[<-numAt_eq];exact h2 j (by omega)
def dOf:V->PyData
 |.non=>.none
 |.bl b=>.bool b
 |.int i=>.int i
 |.str s=>.str s
 |_=>.none
theorem flat_at{H:Hp}:∀{v:V},qct v=true->At H v (dOf v)
 |.non,_=>.non
 |.bl b,_=>.bl b
 |.int i,_=>.int i
 |.str s,_=>.str s
theorem yg6{H:Hp}:∀{vs:List V},vs.all qct=true->AtAll H vs (vs.map dOf)
 |[],_=>.nil
 |v::vs,h=>by
  rw[all_cons,Bool.and_eq_true]at h
  exact .cons (flat_at h.1) (yg6 h.2)
theorem yf1:∀{vs:List V},vs.all qct=true->PyData.depthAll (vs.map dOf)<=1
 |[],_=>by simp[PyData.depthAll]
 |v::vs,h=>by
  rw[all_cons,Bool.and_eq_true]at h
  have ih:=yf1 h.2
  have h1:(dOf v).depth<=1:=by
   cases v<;>first|simp[dOf,PyData.depth]|(simp[qct]at h)
  simp only[map_cons,PyData.depthAll]
  omega
def Fl(xs:List V):Prop:=xs.all qct=true/\PyData.canLayAll0 (xs.map dOf)=true
def tEq(H:Hp)(xs:List V):V->Bool
 |.ref a=>match H a with|some (.tup ys)=>PyData.eqvAll (ys.map dOf) (xs.map dOf)|_=>false
 |_=>false
def tEqU(H:Hp)(xs:List V):Value->Bool
 |.ref a=>match H a with|some (.tup ys)=>PyData.eqvAll (ys.map dOf) (xs.map dOf)|_=>false
 |_=>false
theorem qlu{H:Hp}{xs:List V}:∀{us:List V}{vs:List Value},Vals us vs->(∀v∈us,∃a,v=.ref a)->vs.any (tEqU H xs)=us.any (tEq H xs)
 |_,_,.nil,_=>rfl
 |u::us,_,.cons r t,h=>by
  obtain ⟨a,rfl⟩:=h u (by simp)
  cases r
  rw[any_cons,any_cons,qlu t (λv hv=>h v (by simp[hv]))]
  rfl
def rInT:R2:=λx y H Q=>∃q xs p us,x=.ref q/\H q=some (.tup xs)/\Fl xs/\y=.ref p/\H p=some (.lst us)/\(∀v∈us,∃a ys,v=.ref a/\H a=some (.tup ys)/\Fl ys)/\Q (.bl (us.any (tEq H xs))) H
theorem op_inT{k:Nat}(hr:Room k X.A):OpR X (compareOp .In) rInT:=by
 intro pins s σ H x y v u Q I rx ry h
 obtain ⟨q,xs,p,us,rfl,hq,fx,rfl,hp,hus,k⟩:=h
 cases rx
 cases ry
 obtain ⟨its,r,pl,hz⟩:=I.list (sqlO hp)
 have hu:=hr.units
 obtain ⟨as,rx⟩:=(At.tup hq (yg6 fx.1)).reads I.hok (u:=.ref q) rfl
 refine SeqAt.in_listAt (tEqU H xs) pl.isList (λw hw=>?_) ⟨.bl _,H,I,rfl,?_⟩
 ·obtain ⟨v,hv,rv⟩:=r.back w (by simpa using hw)
  obtain ⟨a,ys,rfl,ha,fy⟩:=hus v hv
  cases rv
  obtain ⟨bs,ry⟩:=(At.tup ha (yg6 fy.1)).reads I.hok (u:=.ref a) rfl
  have e:tEqU H xs (.ref a)=PyData.eqv (.tuple (ys.map dOf)) (.tuple (xs.map dOf)):=by
   unfold tEqU
   dsimp only
   rw[ha]
   simp[PyData.eqv]
  rw[e]
  refine PySem.SeqAt.eqAt_reads _ _ _ _ _ _ _ _ ry rx fy.2 fx.2 ?_
  have h1:=yf1 fy.1
  have h2:=Nat.min_le_left (PyData.tuple (ys.map dOf)).depth (PyData.tuple (xs.map dOf)).depth
  have h3:(PyData.tuple (ys.map dOf)).depth<=2:=by
   simp only[PyData.depth]
   omega
  show X.A.units+1+_<_
  omega
 ·rw[show its.toArray.any (tEqU H xs)=its.any (tEqU H xs) by simp,qlu r (λv hv=>by obtain ⟨a,_,e,_⟩:=hus v hv;exact ⟨a,e⟩)]
  exact k
end
def qal(t:SetTable):Nat->SetTable.Probe->SetTable.Probe
 |0,p=>p
 |n+1,p=>qal t n (t.advance p)
theorem qbo(t:SetTable):∀(a b:Nat) (p:SetTable.Probe),qal t (a+b) p=qal t b (qal t a p)
 |0,b,p=>by rw[Nat.zero_add];rfl
 |a+1,b,p=>by
  rw[Nat.add_right_comm]
  exact qbo t a b (t.advance p)
def Pr8(p:SetTable.Probe):Prop:=p.more=0/\p.j=p.i/\p.i<8/\p.dummy=none
theorem run8{i:Nat}(h:i<8):SetTable.runEnd 7 i-i=0:=by
 unfold SetTable.runEnd
 rw[if_neg (by omega)]
 omega
theorem start8{t:SetTable}(hm:t.mask=7)(h:Int):Pr8 (t.probeStart h)/\(t.probeStart h).perturb<2 ^ 64:=by
 unfold SetTable.probeStart
 rw[hm]
 have hi:SetTable.bits h % (7+1)<8:=mod_lt _ (by decide)
 refine ⟨⟨run8 hi,rfl,hi,rfl⟩,?_⟩
 show SetTable.bits h<2 ^ 64
 unfold SetTable.bits
 have h0:=emod_nonneg h (show ((2:Int) ^ 64)≠0 by decide)
 have h1:=emod_lt_of_pos h (show (0:Int)<(2:Int) ^ 64 by decide)
 omega
theorem adv8{t:SetTable}(hm:t.mask=7){p:SetTable.Probe}(hp:Pr8 p):Pr8 (t.advance p)/\(t.advance p).i=(p.i*5+1+p.perturb / 32) % 8/\(t.advance p).perturb=p.perturb / 32:=by
 obtain ⟨h1,h2,h3,h4⟩:=hp
 have hi:(p.i*5+1+p.perturb / 32) % 8<8:=mod_lt _ (by decide)
 unfold SetTable.advance SetTable.leap
 rw[h1,if_neg (by decide),hm]
 exact ⟨⟨run8 hi,rfl,hi,h4⟩,rfl,rfl⟩
theorem yg2{t:SetTable}(hm:t.mask=7):∀(n:Nat) {p:SetTable.Probe},Pr8 p->Pr8 (qal t n p)/\(qal t n p).perturb=p.perturb / 32 ^ n
 |0,p,hp=>⟨hp,by rw[Nat.pow_zero,Nat.div_one];rfl⟩
 |n+1,p,hp=>by
  obtain ⟨a,_,c⟩:=adv8 hm hp
  obtain ⟨x,y⟩:=yg2 hm n a
  refine ⟨x,?_⟩
  show (qal t n (t.advance p)).perturb=_
  rw[y,c,Nat.div_div_eq_div_mul,Nat.pow_succ,Nat.mul_comm]
def it8:Nat->Nat->Nat
 |0,x=>x
 |n+1,x=>it8 n ((x*5+1) % 8)
theorem cycle8{t:SetTable}(hm:t.mask=7){p:SetTable.Probe}(hp:Pr8 p)(h0:p.perturb=0):∀n,(qal t n p).i=it8 n p.i/\(qal t n p).perturb=0:=by
 intro n
 induction n generalizing p with
 |zero=>exact ⟨rfl,h0⟩
 |succ n ih=>
  obtain ⟨a,b,c⟩:=adv8 hm hp
  rw[h0]at b c
  have:=ih a c
  refine ⟨?_,this.2⟩
  show (qal t n (t.advance p)).i=_
  rw[this.1,b]
  rfl
theorem all8:∀i:Fin 8,∀j:Fin 8,∃n:Fin 8,it8 n.val i.val=j.val:=by decide
theorem meets8{t:SetTable}(hm:t.mask=7){p:SetTable.Probe}(hp:Pr8 p)(h64:p.perturb<32 ^ 13){j:Nat}(hj:j<8):∃n,n<21/\(qal t n p).j=j:=by
 have key:∀(d:Nat) (q:SetTable.Probe),q=qal t d p->p.perturb<32 ^ d->∃n,n<8/\(qal t n q).j=j:=λd q hq hd=>by
  obtain ⟨a,b⟩:=yg2 hm d hp
  rw[<-hq]at a b
  rw[Nat.div_eq_of_lt hd]at b
  obtain ⟨n,hn⟩:=all8 ⟨q.i,a.2.2.1⟩ ⟨j,hj⟩
  refine ⟨n.val,n.isLt,?_⟩
  rw[(yg2 hm n.val a).1.2.1,(cycle8 hm a b n.val).1]
  exact hn
 obtain ⟨n,h1,h2⟩:=key 13 _ rfl h64
 rw[<-qbo]at h2
 exact ⟨13+n,by omega,h2⟩
theorem qjv{t:SetTable}(ht:TOk t)(f:Nat->Int)(h:Int):∀(fuel n:Nat) (p:SetTable.Probe),n<fuel->t.slot (qal t n p).j=.empty->p.dummy=none->
  ∃m,m<=n/\(∀k,k<m->∃i,t.slot (qal t k p).j=.live i/\f i≠h)/\
   ((t.slot (qal t m p).j=.empty/\SetTable.probe.go t f h fuel p=some (.empty (qal t m p).j none))\/
    ∃i,m<n/\t.slot (qal t m p).j=.live i/\f i=h/\SetTable.probe.go t f h fuel p=some (.candidate (qal t m p).j i (qal t (m+1) p)))
 |0,n,p,hn,_,_=>absurd hn (not_lt_zero _)
 |fuel+1,n,p,hn,he,hd=>by
  cases hs:t.slot p.j with
  |empty=>
   refine ⟨0,zero_le _,λk hk=>absurd hk (not_lt_zero _),.inl ⟨hs,?_⟩⟩
   unfold SetTable.probe.go
   rw[hs]
   show some (SetTable.Met.empty p.j p.dummy)=_
   rw[hd]
   rfl
  |dummy=>exact absurd hs (yiw ht _)
  |live i=>
   cases n with
   |zero=>
    rw[show (qal t 0 p).j=p.j from rfl,hs]at he
    cases he
   |succ n=>
    by_cases hf:f i=h
    ·refine ⟨0,zero_le _,λk hk=>absurd hk (not_lt_zero _),.inr ⟨i,Nat.succ_pos _,hs,hf,?_⟩⟩
     unfold SetTable.probe.go
     rw[hs]
     show (if (f i == h)=true then _ else _)=_
     rw[if_pos (by rw[hf];exact beq_self_eq_true h)]
     rfl
    ·obtain ⟨m,h1,h2,h3⟩:=qjv ht f h fuel n (t.advance p) (by omega) he (by rw[qd9];exact hd)
     have eg:SetTable.probe.go t f h (fuel+1) p=SetTable.probe.go t f h fuel (t.advance p):=by
      conv=>lhs;unfold SetTable.probe.go
      rw[hs]
      show (if (f i == h)=true then _ else _)=_
      rw[if_neg (by simpa using hf)]
     refine ⟨m+1,by omega,λk hk=>?_,?_⟩
     ·cases k with
      |zero=>exact ⟨i,hs,hf⟩
      |succ k=>exact h2 k (by omega)
     ·rw[eg]
      rcases h3 with ⟨a,b⟩|⟨i',a,b,c,d⟩
      ·exact .inl ⟨a,b⟩
      ·exact .inr ⟨i',by omega,b,c,d⟩
section
variable {P:Program}{w:World}{A:Around}{E:Value->Shared->Prop}{s:Shared}
theorem yfv(d:Nat){v:Value}(h:carriedByValue v=true):ofAClassStatement d v=pure false:=by
 cases v with
 |ref a=>exact absurd h (λz=>by unfold carriedByValue at z;cases z)
 |_=>cases d<;>rfl
theorem yd6{ks:List Int}{a:Addr}{Q:Bool->Shared->Prop}(hk:IsTupleKey (intKind P w) s.heap ks a)(h:Q false s):wpAny (model P w) A (ofAClassStatement 8 (.ref a)) Q E s:=by
 have hT:=hk.typeIs
 obtain ⟨o,items,n,ho,_,hd,hi⟩:=hk
 unfold ofAClassStatement
 refine wpAny_bind (wpAny_typeOf hT ?_)
 dsimp only
 refine wpAny_bind ?_
 refine wpAny_pure ?_
 simp only[Bool.not_true,Bool.false_eq_true,if_false]
 refine wpAny_bind (wpAny_seqItems ho hd ?_)
 refine wpAny_bind ?_
 show wpAny _ _ (forIn items _ _) _ _ s
 rw[<-Array.forIn_toList]
 refine wpAny_forIn_list _ (λrest r s'=>r.1=none/\s'=s/\∀v∈rest,carriedByValue v=true) _ ?_ ?_ _ _ ⟨rfl,rfl,hi.byValue⟩
 ·rintro v rest r s' ⟨hr,rfl,hall⟩
  rw[yfv _ (hall v mem_cons_self)]
  refine wpAny_bind (wpAny_pure ?_)
  simp only[Bool.false_eq_true,if_false]
  exact wpAny_pure ⟨rfl,rfl,λu hu'=>hall u (mem_cons_of_mem _ hu')⟩
 ·rintro ⟨r1,r2⟩ s' ⟨hr,rfl,_⟩
  simp only at hr
  subst hr
  exact wpAny_pure h
theorem unseen{x:List Int}{a:Addr}{Q:Bool->Shared->Prop}(hx:IsTupleKey (intKind P w) s.heap x a)(ys:List Value)(hy:∀y∈ys,∃k b,y=.ref b/\IsTupleKey (intKind P w) s.heap k b)(h:Q false s):wpAny (model P w) A (searchCouldBeSeen (.ref a) ys) Q E s:=by
 unfold searchCouldBeSeen
 refine wpAny_bind ?_
 refine wpAny_forIn_list _ (λrest r s'=>r.1=none/\s'=s/\∀y∈rest,∃k b,y=.ref b/\IsTupleKey (intKind P w) s.heap k b) _ ?_ ?_ _ _ ⟨rfl,rfl,hy⟩
 ·rintro v rest r s' ⟨hr,rfl,hall⟩
  obtain ⟨k,b,rfl,hb⟩:=hall v mem_cons_self
  have nx:∀u∈rest,∃k b,u=.ref b/\IsTupleKey (intKind P w) s'.heap k b:=λu hu=>hall u (mem_cons_of_mem _ hu)
  dsimp only
  split
  ·exact wpAny_pure ⟨rfl,rfl,nx⟩
  ·refine wpAny_bind ((tupleKind (intKind P w)).quiet hx ?_)
   simp only[Bool.not_true,Bool.false_eq_true,if_false]
   refine wpAny_bind ((tupleKind (intKind P w)).quiet hb ?_)
   simp only[Bool.not_true,Bool.false_eq_true,if_false]
   refine wpAny_bind (yd6 hx ?_)
   simp only[Bool.false_eq_true,if_false]
   refine wpAny_bind (yd6 hb ?_)
   simp only[Bool.false_eq_true,if_false]
   exact wpAny_pure ⟨rfl,rfl,nx⟩
 ·rintro ⟨r1,r2⟩ s' ⟨hr,rfl,_⟩
  simp only at hr
  subst hr
  exact wpAny_pure h
end
theorem yd5{t:SetTable}{j i:Nat}(h:t.slot j=.live i):t.place[i]?=some j:=by
 unfold SetTable.slot at h
 dsimp only at h
 split at h
 ·rename_i hb
  cases h
  exact eq_of_beq hb
 ·split at h<;>cases h
theorem qg4{t:SetTable}(ht:TOk t){j i:Nat}(h:t.place[i]?=some j):t.slot j=.live i:=by
 have hb:SetTable.below t.place j=i:=yg0 ht.1 (le_of_lt (Array.getElem?_eq_some_iff.mp h).1) (λk x hk hx=>ht.1 k i x j hk hx h) (λk x hk hx=>by
  rcases Nat.lt_or_eq_of_le hk with z|z
  ·exact le_of_lt (ht.1 i k j x z h hx)
  ·rw[<-z,h]at hx;cases hx;exact le_refl _)
 unfold SetTable.slot
 dsimp only
 rw[hb,h,if_pos (beq_self_eq_true _)]
theorem yiq:∀{l m:List Nat},l.Nodup->(∀x∈l,x∈m)->l.length<=m.length
 |[],_,_,_=>zero_le _
 |x::l,m,hn,h=>by
  obtain ⟨hx,hl⟩:=nodup_cons.mp hn
  have:=yiq (m:=m.erase x) hl λy hy=>(List.mem_erase_of_ne (λz:y=x=>hx (z ▸ hy))).mpr (h y (mem_cons_of_mem _ hy))
  rw[List.length_erase_of_mem (h x (mem_cons_self ..))]at this
  have:=List.length_pos_of_mem (h x (mem_cons_self ..))
  rw[length_cons]
  omega
theorem ex_empty{t:SetTable}(ht:TOk t)(hs:t.place.size<=7):∃j,j<8/\t.slot j=.empty:=by
 refine Classical.byContradiction λhn=>?_
 have all:∀j∈List.range 8,j∈t.place.toList:=λj hj=>by
  cases e:t.slot j with
  |empty=>exact absurd ⟨j,mem_range.mp hj,e⟩ hn
  |dummy=>exact absurd e (yiw ht _)
  |live i=>exact mem_of_getElem? (by rw[getElem?_toList];exact yd5 e)
 have:=yiq List.nodup_range all
 rw[length_range,length_toList]at this
 omega
structure TabT(P:Program)(w:World)(h:Heap)(es:Array (Int×Value))(t:SetTable)(qs:List (List Int×Addr)):Prop where
 eqs:es.toList=qs.map λq=>(tupleKeyHash (intKind P w) q.1,Value.ref q.2)
 at_:∀q∈qs,IsTupleKey (intKind P w) h q.1 q.2
 few:qs.length<=4
 fits:t.fits es.size=true
 ok:TOk t
 mask:t.mask=7
 reach:∀(i j:Nat) (q:List Int×Addr),t.place[i]?=some j->qs[i]?=some q->∃m,(qal t m (t.probeStart (tupleKeyHash (intKind P w) q.1))).j=j/\∀k,k<m->∃i',t.slot (qal t k (t.probeStart (tupleKeyHash (intKind P w) q.1))).j=.live i'
theorem TabT.size{P:Program}{w:World}{h:Heap}{es:Array (Int×Value)}{t:SetTable}{qs:List (List Int×Addr)}(T:TabT P w h es t qs):es.size=qs.length/\t.place.size=qs.length:=by
 have h1:es.size=qs.length:=by have:=congrArg List.length T.eqs;rwa [length_toList,length_map]at this
 refine ⟨h1,?_⟩
 have:=T.fits
 unfold SetTable.fits at this
 rw[Bool.and_eq_true]at this
 rw[eq_of_beq this.1,h1]
theorem TabT.get{P:Program}{w:World}{h:Heap}{es:Array (Int×Value)}{t:SetTable}{qs:List (List Int×Addr)}(T:TabT P w h es t qs){i j:Nat}(e:t.place[i]?=some j):∃q,qs[i]?=some q/\es[i]?=some (tupleKeyHash (intKind P w) q.1,.ref q.2):=by
 have hi:i<qs.length:=by rw[<-T.size.2];exact (Array.getElem?_eq_some_iff.mp e).1
 refine ⟨qs[i],getElem?_eq_getElem hi,?_⟩
 rw[<-getElem?_toList,T.eqs,getElem?_map,getElem?_eq_getElem hi]
 rfl
def stH(es:Array (Int×Value))(i:Nat):Int:=(es[i]?.map (·.1)).getD 0
section
variable {P:Program}{w:World}{A:Around}{E:Value->Shared->Prop}{s:Shared}{a b:Addr}{o:Obj}{es:Array (Int×Value)}{ep:Nat}{t:SetTable}{qs:List (List Int×Addr)}{x:List Int}{Q:SetFound->Shared->Prop}
theorem yj4{c:Addr}{R:Bool->Shared->Prop}(h:R true s):wpAny (model P w) A (isSame (.ref c) (.ref c)) R E s:=by
 unfold isSame
 simp only[beq_self_eq_true,if_true]
 exact wpAny_pure h
theorem searchT(g:s.heap.get? a=some o)(gd:o.data=.set es ep t)(T:TabT P w s.heap es t qs)(hx:IsTupleKey (intKind P w) s.heap x b)(hu:A.units<cLine)
  (yes:x∈qs.map (·.1)->Q (.there none) s) (no:∀m,t.slot (qal t m (t.probeStart (tupleKeyHash (intKind P w) x))).j=.empty->(∀k,k<m->∃i,t.slot (qal t k (t.probeStart (tupleKeyHash (intKind P w) x))).j=.live i)->x∉qs.map (·.1)->Q (.free (qal t m (t.probeStart (tupleKeyHash (intKind P w) x))).j false) s) :
  ∀(n fuel c:Nat) (stand:Option SetTable.Probe),stand.getD (t.probeStart (tupleKeyHash (intKind P w) x))=qal t c (t.probeStart (tupleKeyHash (intKind P w) x))->t.slot (qal t (c+n) (t.probeStart (tupleKeyHash (intKind P w) x))).j=.empty->n<21->n<fuel->
   (∀k,k<c->∃i q,t.slot (qal t k (t.probeStart (tupleKeyHash (intKind P w) x))).j=.live i/\qs[i]?=some q/\q.1≠x)->wpAny (model P w) A (setSearchFrom a (.ref b) (tupleKeyHash (intKind P w) x) true fuel stand) Q E s:=by
 intro n
 induction n using Nat.strongRecOn with
 |ind n ih=>
  intro fuel c stand hst hemp hn hf hold
  obtain ⟨fuel,rfl⟩:∃f,fuel=f+1:=⟨fuel-1,by omega⟩
  generalize hS:t.probeStart (tupleKeyHash (intKind P w) x)=S at *
  unfold setSearchFrom
  refine wpAny_bind (wpAny_setState_of g gd T.fits ?_)
  dsimp only
  rw[show t.gaveWay=false by unfold SetTable.gaveWay;rw[T.mask];rfl]
  simp only[Bool.false_eq_true,if_false]
  rw[hS,hst]
  have hdm:(qal t c S).dummy=none:=by
   rw[<-hS]
   exact (yg2 T.mask c (start8 T.mask _).1).1.2.2.2
  obtain ⟨m,hm,hlt,hcase⟩:=qjv T.ok (stH es) (tupleKeyHash (intKind P w) x) (10*SetTable.turns t.mask) n (qal t c S) (by unfold SetTable.turns;omega) (by rw[<-qbo];exact hemp) hdm
  rw[<-qbo]at hcase
  have hsh:∀{i j q},t.place[i]?=some j->qs[i]?=some q->stH es i=tupleKeyHash (intKind P w) q.1:=λ{i j q} e1 e2=>by
   obtain ⟨q',h1,h2⟩:=T.get e1
   rw[e2]at h1
   cases h1
   unfold stH
   rw[h2]
   rfl
  rcases hcase with ⟨he,hgo⟩|⟨i,hmn,hl,hfi,hgo⟩
  ·erw [show t.probe (stH es) (tupleKeyHash (intKind P w) x) (qal t c S)=_ from hgo]
   dsimp only
   have hlive:∀k,k<c+m->∃i q,t.slot (qal t k S).j=.live i/\qs[i]?=some q/\q.1≠x:=λk hk=>by
    by_cases hkc:k<c
    ·exact hold k hkc
    ·obtain ⟨i,e1,e2⟩:=hlt (k-c) (by omega)
     rw[<-qbo,show c+(k-c)=k by omega]at e1
     obtain ⟨q,h1,_⟩:=T.get (yd5 e1)
     exact ⟨i,q,e1,h1,λz=>e2 (by rw[hsh (yd5 e1) h1,z])⟩
   refine wpAny_pure (no (c+m) he (λk hk=>let ⟨i,_,e,_⟩:=hlive k hk;⟨i,e⟩) λhin=>?_)
   obtain ⟨q,hq,eqx⟩:=mem_map.mp hin
   obtain ⟨i,hi⟩:=getElem?_of_mem hq
   have hil:i<t.place.size:=by rw[T.size.2];exact (List.getElem?_eq_some_iff.mp hi).1
   obtain ⟨m',hj,hl'⟩:=T.reach i _ q (Array.getElem?_eq_getElem hil) hi
   rw[eqx,hS]at hj hl'
   rcases Nat.lt_trichotomy m' (c+m) with z|z|z
   ·obtain ⟨i2,q2,e1,e2,e3⟩:=hlive m' z
    rw[hj,qg4 T.ok (Array.getElem?_eq_getElem hil)]at e1
    cases e1
    rw[hi]at e2
    cases e2
    exact e3 eqx
   ·rw[<-z,hj,qg4 T.ok (Array.getElem?_eq_getElem hil)]at he
    cases he
   ·obtain ⟨i2,e⟩:=hl' _ z
    rw[he]at e
    cases e
  ·erw [show t.probe (stH es) (tupleKeyHash (intKind P w) x) (qal t c S)=_ from hgo]
   dsimp only
   obtain ⟨q,hq,hes⟩:=T.get (yd5 hl)
   have hqm:q∈qs:=mem_of_getElem? hq
   have hall:∀y∈(es.filter (·.1 == tupleKeyHash (intKind P w) x)).toList.map (·.2),∃k b,y=.ref b/\IsTupleKey (intKind P w) s.heap k b:=λy hy=>by
    obtain ⟨e,he,rfl⟩:=mem_map.mp hy
    rw[Array.toList_filter]at he
    have:=(mem_filter.mp he).1
    rw[T.eqs]at this
    obtain ⟨q',h1,rfl⟩:=mem_map.mp this
    exact ⟨_,_,rfl,T.at_ q' h1⟩
   have cont:wpAny (model P w) A (do
     let some (_,y):=es[i]?|unsupported "internal:set-entry"
     let equal <-holding [y] (eqBool y (.ref b))
     let (es',_,t') <-setState a
     if true&&equal then return .there none
     let some same:=t'.sameMemory t.moves t.mask|unsupported "set.changed-during-lookup:is-the-new-block-at-the-old-address"
     let still <-match (if same then t'.slot (qal t (c+m) S).j else .empty) with
      |.live i'=>match es'[i']? with
       |some (_,y')=>do pure (if <-isSame y' y then some i' else none)
       |none=>pure none
      |_=>pure none
     match still with
     |none=>rule "set.search.anew";setSearchFrom a (.ref b) (tupleKeyHash (intKind P w) x) true fuel none
     |some i'=>if equal then return .there (some i') else setSearchFrom a (.ref b) (tupleKeyHash (intKind P w) x) true fuel (some (qal t (m+1) (qal t c S)))) Q E s:=by
    rw[hes]
    dsimp only
    refine wpAny_bind (wpAny_holding ((tupleKind (intKind P w)).eqBool hu (T.at_ q hqm) hx ?_))
    refine wpAny_bind (wpAny_setState_of g gd T.fits ?_)
    dsimp only
    by_cases hqx:q.1=x
    ·rw[decide_eq_true hqx]
     exact wpAny_pure (yes (mem_map.mpr ⟨q,hqm,hqx⟩))
    ·rw[decide_eq_false hqx]
     rw[show t.sameMemory t.moves t.mask=some true by unfold SetTable.sameMemory;rw[if_pos (beq_self_eq_true _)]]
     simp only[Bool.and_false,Bool.false_eq_true,if_false,if_true]
     rw[hl]
     dsimp only
     rw[hes]
     dsimp only
     refine wpAny_bind (yj4 ?_)
     rw[if_pos rfl]
     refine wpAny_bind (wpAny_pure ?_)
     dsimp only
     refine ih (n-m-1) (by omega) fuel (c+m+1) _ ?_ (by rw[show c+m+1+(n-m-1)=c+n by omega];exact hemp) (by omega) (by omega) λk hk=>?_
     ·show qal t (m+1) (qal t c S)=_
      rw[<-qbo]
      rfl
     ·by_cases hkc:k<c
      ·exact hold k hkc
      ·by_cases hkm:k=c+m
       ·rw[hkm];exact ⟨i,q,hl,hq,hqx⟩
       ·obtain ⟨i2,e1,e2⟩:=hlt (k-c) (by omega)
        rw[<-qbo,show c+(k-c)=k by omega]at e1
        obtain ⟨q2,h1,_⟩:=T.get (yd5 e1)
        exact ⟨i2,q2,e1,h1,λz=>e2 (by rw[hsh (yd5 e1) h1,z])⟩
   cases hled:t.led with
   |true=>
    simp only[Bool.not_true,Bool.false_eq_true,if_false]
    exact cont
   |false=>
    simp only[Bool.not_false,if_true]
    refine wpAny_bind (unseen hx _ hall ?_)
    simp only[Bool.false_eq_true,if_false]
    exact cont
end
theorem yfq{t t':SetTable}(h:t'.mask=t.mask):∀(n:Nat) (p:SetTable.Probe),qal t' n p=qal t n p
 |0,p=>rfl
 |n+1,p=>by
  have e:t'.advance p=t.advance p:=by unfold SetTable.advance;rw[h]
  show qal t' n (t'.advance p)=qal t n (t.advance p)
  rw[e]
  exact yfq h n _
theorem qkf{t t':SetTable}(h:t'.mask=t.mask)(z:Int):t'.probeStart z=t.probeStart z:=by
 unfold SetTable.probeStart
 rw[h]
theorem qbz{α:Type}(xs:Array α)(p:Nat)(x:α):(SetTable.insertAt xs p x).toList=xs.toList.take p++[x]++xs.toList.drop p:=by
 unfold SetTable.insertAt
 rw[Array.toList_append,Array.toList_push,Array.toList_extract,Array.toList_extract]
 simp[List.extract_eq_drop_take]
 exact take_of_length_le (by simp)
section
variable {P:Program}{w:World}{h h':Heap}{es:Array (Int×Value)}{t:SetTable}{qs:List (List Int×Addr)}{x:List Int}{b:Addr}
def yhm(t:SetTable)(qs:List (List Int×Addr))(j:Nat)(q:List Int×Addr):List (List Int×Addr):=qs.take (t.put j).2++[q]++qs.drop (t.put j).2
theorem TabT.put(T:TabT P w h es t qs)(hx:IsTupleKey (intKind P w) h' x b)(hk:∀q∈qs,IsTupleKey (intKind P w) h' q.1 q.2)(h3:qs.length<=3){m:Nat}{pl:Bool}
  (he:t.slot (qal t m (t.probeStart (tupleKeyHash (intKind P w) x))).j=.empty) (hl:∀k,k<m->∃i,t.slot (qal t k (t.probeStart (tupleKeyHash (intKind P w) x))).j=.live i) :
  TabT P w h' (SetTable.insertAt es (t.put (qal t m (t.probeStart (tupleKeyHash (intKind P w) x))).j).2 (tupleKeyHash (intKind P w) x,.ref b)) { (t.put (qal t m (t.probeStart (tupleKeyHash (intKind P w) x))).j).1 with plain:=pl }
   (yhm t qs (qal t m (t.probeStart (tupleKeyHash (intKind P w) x))).j (x,b)):=by
 generalize hS:t.probeStart (tupleKeyHash (intKind P w) x)=S at *
 generalize hj:(qal t m S).j=j at *
 have hp:(t.put j).2=SetTable.below t.place j:=rfl
 have hpl:(t.put j).1.place=SetTable.insertAt t.place (SetTable.below t.place j) j:=rfl
 have hle:SetTable.below t.place j<=t.place.size:=(yg3 j T.ok.1).2.2
 have hok:TOk { (t.put j).1 with plain:=pl }:=(put_ok T.ok he).1
 have sz:=T.size
 have hm:({ (t.put j).1 with plain:=pl }:SetTable).mask=t.mask:=rfl
 have keep:∀{y:Nat},(∃i,t.slot y=.live i)->∃i,({ (t.put j).1 with plain:=pl }:SetTable).slot y=.live i:=λ{y} ⟨i,e⟩=>by
  have e':=yd5 e
  by_cases hi:i<SetTable.below t.place j
  ·exact ⟨i,qg4 hok (by show (SetTable.insertAt t.place (SetTable.below t.place j) j)[i]?=_;rw[ybs _ _ _ hle,if_pos hi];exact e')⟩
  ·exact ⟨i+1,qg4 hok (by show (SetTable.insertAt t.place (SetTable.below t.place j) j)[i+1]?=_;rw[ybs _ _ _ hle,if_neg (by omega),if_neg (by omega)];exact e')⟩
 have qget:∀i,(yhm t qs j (x,b))[i]?=if i<SetTable.below t.place j then qs[i]? else if i=SetTable.below t.place j then some (x,b) else qs[i-1]?:=λi=>by
  have:=ybs qs.toArray (SetTable.below t.place j) (x,b) (by rw[size_toArray,<-sz.2];exact hle) i
  rw[<-getElem?_toList,qbz]at this
  unfold yhm
  rw[hp]
  simpa using this
 have psz:(SetTable.insertAt t.place (SetTable.below t.place j) j).size=qs.length+1:=by
  rw[<-length_toList,qbz]
  simp
  omega
 have esz:(SetTable.insertAt es (SetTable.below t.place j) (tupleKeyHash (intKind P w) x,Value.ref b)).size=qs.length+1:=by
  rw[<-length_toList,qbz]
  simp
  omega
 refine ⟨?_,λq hq=>?_,?_,?_,hok,T.mask,λi j' q e1 e2=>?_⟩
 ·rw[hp,qbz,T.eqs]
  unfold yhm
  rw[hp]
  simp[map_take,map_drop]
 ·unfold yhm at hq
  simp only[mem_append,mem_singleton]at hq
  rcases hq with (z|z)|z
  ·exact hk q (mem_of_mem_take z)
  ·rw[z];exact hx
  ·exact hk q (List.mem_of_mem_drop z)
 ·unfold yhm
  simp
  omega
 ·unfold SetTable.fits SetTable.fill
  rw[Bool.and_eq_true]
  refine ⟨?_,?_⟩
  ·show ((SetTable.insertAt t.place (SetTable.below t.place j) j).size == _)=true
   rw[hp,psz,esz]
   exact beq_self_eq_true _
  ·refine decide_eq_true ?_
   show (SetTable.insertAt t.place (SetTable.below t.place j) j).size+({ (t.put j).1 with plain:=pl }:SetTable).dummies.size<=t.mask
   rw[psz,hok.2,T.mask]
   show qs.length+1+0<=7
   omega
 ·rw[qkf hm]
  simp only[yfq hm]
  have e1':(SetTable.insertAt t.place (SetTable.below t.place j) j)[i]?=some j':=e1
  rw[ybs _ _ _ hle]at e1'
  rw[qget]at e2
  by_cases h1:i<SetTable.below t.place j
  ·rw[if_pos h1]at e1' e2
   obtain ⟨m',r1,r2⟩:=T.reach i j' q e1' e2
   exact ⟨m',r1,λk hk'=>keep (r2 k hk')⟩
  ·rw[if_neg h1]at e1' e2
   by_cases h2:i=SetTable.below t.place j
   ·rw[if_pos h2]at e1' e2
    cases e1'
    cases e2
    rw[hS]
    exact ⟨m,hj,λk hk'=>keep (hl k hk')⟩
   ·rw[if_neg h2]at e1' e2
    obtain ⟨m',r1,r2⟩:=T.reach (i-1) j' q e1' e2
    exact ⟨m',r1,λk hk'=>keep (r2 k hk')⟩
end
def SetT(P:Program)(w:World)(Z:List Int×Addr->Prop)(h:Heap)(a:Addr)(ks:List (List Int)):Prop:=
 ∃o es ep t qs,h.get? a=some o/\o.ExactSet/\o.data=.set es ep t/\TabT P w h es t qs/\(qs.map (·.1)).Perm ks/\ks.Nodup/\(byTx w=true\/t.led=true)/\∀q∈qs,Z q
section
variable {P:Program}{w:World}{A:Around}{E:Value->Shared->Prop}{s:Shared}{a b:Addr}{ks:List (List Int)}{x:List Int}{Z:List Int×Addr->Prop}
theorem qi4{Q:Bool->Shared->Prop}(hk:IsTupleKey (intKind P w) s.heap x b)(h:Q true s):wpAny (model P w) A (hashByValue 8 (.ref b)) Q E s:=by
 have hT:=hk.typeIs
 obtain ⟨o,items,n,ho,_,hd,hi⟩:=hk
 have hint:∀{ks:List Int}{vs:List Value},PySem.ItemsAre (intKind P w) ks vs->∀v∈vs,∃k t,v=.int k t:=λ{ks vs} hi=>by
  induction hi with
  |nil=>intro v hv;cases hv
  |cons hk _ ih=>
   intro v hv
   rcases mem_cons.mp hv with rfl|z
   ·obtain ⟨t,rfl⟩:=Value.isInt_shape hk;exact ⟨_,t,rfl⟩
   ·exact ih v z
 unfold hashByValue
 refine wpAny_bind (wpAny_specialOf hT F.slot_tuple_hash.lookup ?_)
 dsimp only
 refine wpAny_bind (wpAny_seqItems ho hd ?_)
 refine wpAny_bind ?_
 show wpAny _ _ (forIn items _ _) _ _ s
 rw[<-Array.forIn_toList]
 refine wpAny_forIn_list _ (λrest r s'=>r.1=none/\s'=s/\∀v∈rest,∃k t,v=.int k t) _ ?_ ?_ _ _ ⟨rfl,rfl,hint hi⟩
 ·rintro v rest r s' ⟨hr,rfl,hall⟩
  obtain ⟨k,t,rfl⟩:=hall v mem_cons_self
  rw[show hashByValue 7 (.int k t)=pure true from rfl]
  refine wpAny_bind (wpAny_pure ?_)
  simp only[Bool.not_true,Bool.false_eq_true,if_false]
  exact wpAny_pure ⟨rfl,rfl,λu hu'=>hall u (mem_cons_of_mem _ hu')⟩
 ·rintro ⟨r1,r2⟩ s' ⟨hr,rfl,_⟩
  simp only at hr
  subst hr
  exact wpAny_pure h
theorem qg6{h h':Heap}{o:Obj}{es ep t}{k:List Int}{q:Addr}(x:IsTupleKey (intKind P w) h k q)(ho:h.get? a=some o)(hd:o.data=.set es ep t)(hs:Heap.SameBut a h h'):IsTupleKey (intKind P w) h' k q:=by
 obtain ⟨o',items,n,g,c,d,i⟩:=x
 have hne:q≠a:=λz=>by
  rw[z,ho]at g
  cases g
  rw[hd]at d
  cases d
 exact ⟨o',items,n,by rw[hs.2 q hne];exact g,c,d,i⟩
theorem addT{Q:Bool->Shared->Prop}(hS:SetT P w Z s.heap a ks)(hz:Z (x,b))(hx:IsTupleKey (intKind P w) s.heap x b)(hu:A.units<cLine)(hroom:ks.length<=3)
  (h:∀r h',Heap.SameBut a s.heap h'->SetT P w Z h' a (if x∈ks then ks else ks++[x])->Q r { s with heap:=h' }) :
  wpAny (model P w) A (setAddHashed a (.ref b) (tupleKeyHash (intKind P w) x)) Q E s:=by
 obtain ⟨o,es,ep,t,qs,g,gx,gd,T,hp,hnd,hl,hZ⟩:=id hS
 have hql:qs.length<=3:=by have:=hp.length_eq;rw[length_map]at this;omega
 have es0:s={ s with heap:=s.heap }:=by cases s;rfl
 unfold setAddHashed
 refine wpAny_holding ?_
 unfold setAddHashedIn
 refine wpAny_bind (wpAny_setState_of g gd T.fits ?_)
 dsimp only
 rw[show byScan (.ref b) es=false from rfl]
 simp only[Bool.false_eq_true,if_false]
 obtain ⟨j,hj,hje⟩:=ex_empty T.ok (by rw[T.size.2];omega)
 obtain ⟨st1,st2⟩:=start8 T.mask (tupleKeyHash (intKind P w) x)
 obtain ⟨n,hn,hnj⟩:=meets8 T.mask st1 (Nat.lt_trans st2 (by decide +kernel)) hj
 refine wpAny_bind ?_
 unfold setSearch
 refine searchT g gd T hx hu (λhin=>?_) (λm he hlv hout=>?_) n 100000 0 none rfl (by rw[Nat.zero_add,hnj];exact hje) hn (by omega) (λk hk=>absurd hk (not_lt_zero _))
 ·refine wpAny_pure ?_
  rw[es0]
  exact h false s.heap (Heap.SameBut.refl a s.heap) (by rw[if_pos (hp.mem_iff.mp hin)];exact hS)
 ·have hout':x∉ks:=λz=>hout (hp.mem_iff.mpr z)
  rw[if_neg hout']at h
  dsimp only
  refine wpAny_bind (wpAny_setState_of g gd T.fits ?_)
  dsimp only
  have tail:∀pl:Bool,wpAny (model P w) A (do
    storeSet a (SetTable.insertAt es (t.put (qal t m (t.probeStart (tupleKeyHash (intKind P w) x))).j).2 (tupleKeyHash (intKind P w) x,.ref b)) { (t.put (qal t m (t.probeStart (tupleKeyHash (intKind P w) x))).j).1 with plain:=pl }
    if (!false&&({ (t.put (qal t m (t.probeStart (tupleKeyHash (intKind P w) x))).j).1 with plain:=pl }:SetTable).tooFull)=true then do
     setRelay a (SetTable.grown (es.size+1))
     return true
    else return true) Q E s:=λpl=>by
   have sb:=Heap.SameBut.update s.heap a (Obj.putSet (SetTable.insertAt es (t.put (qal t m (t.probeStart (tupleKeyHash (intKind P w) x))).j).2 (tupleKeyHash (intKind P w) x,.ref b)) { (t.put (qal t m (t.probeStart (tupleKeyHash (intKind P w) x))).j).1 with plain:=pl })
   have T':=T.put (pl:=pl) (qg6 hx g gd sb) (λq hq=>qg6 (T.at_ q hq) g gd sb) hql he hlv
   have hq4:=T'.few
   have hs4:=T'.size
   refine wpAny_bind (wpAny_storeSet_of g gd ?_ (by rw[hs4.1];exact le_trans hq4 (by decide)))
   rw[if_neg ?_]
   ·have z:=get?_update_self (Obj.putSet (SetTable.insertAt es (t.put (qal t m (t.probeStart (tupleKeyHash (intKind P w) x))).j).2 (tupleKeyHash (intKind P w) x,.ref b)) { (t.put (qal t m (t.probeStart (tupleKeyHash (intKind P w) x))).j).1 with plain:=pl }) g (by rw[putSet_of _ _ gd];rfl)
    rw[putSet_of _ _ gd]at z
    have hpm:((yhm t qs (qal t m (t.probeStart (tupleKeyHash (intKind P w) x))).j (x,b)).map (·.1)).Perm (ks++[x]):=by
     unfold yhm
     generalize (t.put (qal t m (t.probeStart (tupleKeyHash (intKind P w) x))).j).2=p
     rw[map_append,map_append,map_take,map_drop]
     refine List.Perm.trans ?_ (hp.append_right [x])
     refine (List.perm_append_comm.append_right _).trans ?_
     rw[List.append_assoc,List.take_append_drop]
     exact List.perm_append_comm
    refine wpAny_pure (h true _ sb ⟨_,_,_,_,_,z,gx,rfl,T',hpm,?_,hl.imp id λz=>z,λq hq=>?_⟩)
    rotate_left
    ·unfold yhm at hq
     simp only[mem_append,mem_singleton]at hq
     rcases hq with (z|z)|z
     ·exact hZ q (mem_of_mem_take z)
     ·rw[z];exact hz
     ·exact hZ q (List.mem_of_mem_drop z)
    refine List.nodup_append.mpr ⟨hnd,nodup_cons.mpr ⟨by simp,nodup_nil⟩,λy hy z' hz'=>?_⟩
    rw[mem_singleton.mp hz']
    exact λe=>hout' (e ▸ hy)
   ·unfold SetTable.tooFull SetTable.fill
    rw[T'.ok.2,hs4.2,T'.mask]
    simp
    omega
  split
  ·refine wpAny_bind (qi4 hx ?_)
   simp only[if_true]
   exact tail (t.put (qal t m (t.probeStart (tupleKeyHash (intKind P w) x))).j).1.plain
  ·refine wpAny_bind (wpAny_pure ?_)
   simp only[if_true]
   exact tail (t.put (qal t m (t.probeStart (tupleKeyHash (intKind P w) x))).j).1.plain
end
def qbi(f:Nat->List Int):Nat->List (List Int)
 |0=>[]
 |i+1=>if f i∈qbi f i then qbi f i else qbi f i++[f i]
theorem ygw(f:Nat->List Int):∀i,(qbi f i).length<=i
 |0=>le_refl _
 |i+1=>by
  have:=ygw f i
  unfold qbi
  split
  ·omega
  ·rw[length_append,List.length_singleton];omega
theorem TabT.at{P:Program}{w:World}{h h':Heap}{es:Array (Int×Value)}{t:SetTable}{qs:List (List Int×Addr)}(T:TabT P w h es t qs)(k:∀q∈qs,IsTupleKey (intKind P w) h' q.1 q.2):TabT P w h' es t qs:=⟨T.eqs,k,T.few,T.fits,T.ok,T.mask,T.reach⟩
theorem SetT.at{P:Program}{w:World}{Z:List Int×Addr->Prop}{h h':Heap}{a:Addr}{ks:List (List Int)}(x:SetT P w Z h a ks)(k:∀b o,(b=a\/∃items n,o.data=.seq items n)->h.get? b=some o->h'.get? b=some o):SetT P w Z h' a ks:=by
 obtain ⟨o,es,ep,t,qs,g,gx,gd,T,r⟩:=x
 refine ⟨o,es,ep,t,qs,k a o (.inl rfl) g,gx,gd,T.at λq hq=>?_,r⟩
 obtain ⟨o',items,n,g',c,d,i⟩:=T.at_ q hq
 exact ⟨o',items,n,k _ _ (.inr ⟨_,_,d⟩) g',c,d,i⟩
section
variable {P:Program}{w:World}{A:Around}{R:Result->Shared->Prop}{I:Addr}{fp wr:List Addr}{G:Array GenState->Array GenState->Prop}{n:Nat}{Pv:Nat->Value->Prop}{St:Nat->Shared->Prop}{Z:List Int×Addr->Prop}
theorem loopT(W:WalksS P w A.in1 I fp wr G n Pv St)(d:Addr)(hd:d∉fp)(f:Nat->List Int)(ad:Nat->Addr)(hf:∀i v,i<n->Pv i v->v=.ref (ad i))(hb:n<=3)(hz:∀i,i<n->Z (f i,ad i))(hu:A.in1.units<cLine)(hwr:∀(s:Shared) (i:Nat) (b:Addr) (o:Obj),St i s->b∈wr->s.heap.get? b=some o->∀items m,o.data≠.seq items m) :
  ∀(k i:Nat) (s:Shared),n-i=k->i<=n->St i s->SetT P w Z s.heap d (qbi f i)->(∀j,j<n->IsTupleKey (intKind P w) s.heap (f j) (ad j))->
   (∀s',Moved (d::wr) G s s'->SetT P w Z s'.heap d (qbi f n)->R (.ok (.ret .none)) s')->codeAny (model P w) A (.builtin "set.update.loop" ⟨[.ref d,.ref I],[]⟩) R s:=by
 have hw:d∉wr:=λz=>hd (W.sub _ z)
 have up:∀b∈wr,b∈d::wr:=λb z=>mem_cons_of_mem _ z
 intro k
 induction k with
 |zero=>
  intro i s hk hi st hS hT hR
  have e:i=n:=by omega
  subst e
  refine codeAny_builtin F.entry_set_update_loop ?_
  rw[Around.under_plainId F.plain_set_update_loop _]
  show wpAny _ A.in1 (pyNext (.ref I) >>= _) _ _ _
  refine wpAny_bind (W.done s _ _ st λs' m=>?_)
  show wpAny _ A.in1 (ret Value.none) _ _ _
  refine wpAny_pure (hR s' (m.mono up) (hS.at λb o hbo g=>m.heap b o (λz=>?_) g))
  rcases hbo with rfl|⟨items,q,e⟩
  ·exact hw z
  ·exact hwr s _ b o st z g _ _ e
 |succ k ih=>
  intro i s hk hi st hS hT hR
  have hlt:i<n:=by omega
  refine codeAny_builtin F.entry_set_update_loop ?_
  rw[Around.under_plainId F.plain_set_update_loop _]
  show wpAny _ A.in1 (pyNext (.ref I) >>= _) _ _ _
  refine wpAny_bind (W.item i s _ _ hlt st λv s' hP st' m=>?_)
  obtain rfl:=hf i v hlt hP
  have kp:∀b o,(b=d\/∃items n,o.data=.seq items n)->s.heap.get? b=some o->s'.heap.get? b=some o:=λb o hbo g=>m.heap b o (λz=>by
   rcases hbo with rfl|⟨items,q,e⟩
   ·exact hw z
   ·exact hwr s _ b o st z g _ _ e) g
  have hS':SetT P w Z s'.heap d (qbi f i):=hS.at kp
  have hT':∀j,j<n->IsTupleKey (intKind P w) s'.heap (f j) (ad j):=λj hj=>by
   obtain ⟨o',items,q,g',c,dd,ii⟩:=hT j hj
   exact ⟨o',items,q,kp _ _ (.inr ⟨_,_,dd⟩) g',c,dd,ii⟩
  show wpAny _ A.in1 (holding [Value.ref (ad i)] (setAdd d (.ref (ad i))) >>= _) _ _ _
  refine wpAny_bind (wpAny_holding ?_)
  unfold setAdd
  refine wpAny_holding ?_
  refine wpAny_bind ((tupleKind (intKind P w)).pyHash hu (hT' i hlt) ?_)
  have room:(qbi f i).length<=3:=by have:=ygw f i;omega
  refine addT (s:={ s' with toks:=s'.toks+((f i).length+1) }) hS' (hz i hlt) (hT' i hlt) hu room λb h' sb S2=>?_
  have S3:SetT P w Z h' d (qbi f (i+1)):=S2
  obtain ⟨od,esd,epd,td,qsd,gd1,_,gd2,_⟩:=id hS'
  refine wpAny_pure ⟨plainId_quiet F.plain_set_update_loop _,?_⟩
  refine ih (i+1) _ (by omega) hlt (W.frame _ s' _ _ st' (le_add_right _ _) λb hb o g=>?_) S3 (λj hj=>qg6 (hT' j hj) gd1 gd2 sb) λs2 m2 S4=>?_
  ·rw[sb.2 b (λz:b=d=>hd (by rw[<-z];exact hb))];exact g
  ·refine hR s2 (Moved.trans W.gtrans ((m.mono up).then_heap (le_add_right _ _) λb o hb g=>?_) m2) S4
   rw[sb.2 b (λz:b=d=>hb (by rw[z];exact mem_cons_self))];exact g
end
section
variable {P:Program}{w:World}{A:Around}{E:Value->Shared->Prop}{s:Shared}
theorem SetT.new{Z:List Int×Addr->Prop}{h:Heap}{a:Addr}(g:h.get? a=some { cls:=.type "set",dict:=none,data:=.set #[] 0 (.fresh 0 0 (!byTx w)) }):SetT P w Z h a []:=by
 refine ⟨_,#[],0,_,[],g,⟨rfl,rfl,rfl⟩,rfl,⟨rfl,λq hq=>by simp at hq,by decide,rfl,⟨λi j x y _ hx=>by simp[SetTable.fresh]at hx,rfl⟩,rfl,λi j q e=>by simp[SetTable.fresh]at e⟩,List.Perm.refl _,nodup_nil,?_,λq hq=>by simp at hq⟩
 cases byTx w
 ·exact .inr rfl
 ·exact .inl rfl
set_option maxHeartbeats 6400000 in
theorem ylg{l:Addr}{its:Array Value}{f:Nat->List Int}{ad:Nat->Addr}{Z:List Int×Addr->Prop}{Q:Value->Shared->Prop}(hh:A.handled=none)(hl:s.heap.IsList l its)(hz:∀i,i<its.size->Z (f i,ad i))(hi:∀(i:Nat) (v:Value),its[i]?=some v->v=Value.ref (ad i))(hkT:∀i,i<its.size->IsTupleKey (intKind P w) s.heap (f i) (ad i))(hb:its.size<=3)(hu:A.units+10<cLine)
  (k:∀(h':Heap) (tk:Nat),SetT P w Z h' s.heap.objs.size (qbi f its.size)->(∀b o,b<s.heap.objs.size->s.heap.get? b=some o->h'.get? b=some o)->Q (.ref s.heap.objs.size) { s with heap:=h',toks:=tk }) :
  wpAny (model P w) A (call (.type "set") [.ref l]) Q E s:=by
 obtain ⟨c0,tl0,c1⟩:=F.called_set.mro
 have c2:=F.called_set.made
 have c3:=F.called_set.sub
 refine wpAny_call (codeAny_of_tree ?_)
 show wpAny _ _ (callAny (.type "set") _) _ _ s
 refine wpAny_pure ⟨?_,?_⟩
 ·exact Code.quiet_builtin _ (by decide +kernel)
 refine codeAny_builtin F.entry_type_call ?_
 rw[Around.under_plain (weight_type_call_type "set" [.ref l] []) rfl]
 have c4:=F.called_set.notType
 have c5:=F.called_set.canCreate
 have c6:=F.typeCall_set_1 (.ref l)
 repeat (any_goals first|assumption|wp_step)
 refine codeAny_mono (newL (.ref l) (E:=E) (Q1:=λv s1=>v=.ref s.heap.objs.size/\s1={ s with heap:=s.heap.push { cls:=.type "set",dict:=none,data:=.set #[] 0 (.fresh 0 0 (!byTx w)) } }) ⟨rfl,rfl⟩) λr s1 hr=>?_
 cases r with
 |error e=>exact hr
 |ok fl=>
  cases fl with
  |ret v=>
   obtain ⟨rfl,rfl⟩:=hr
   have g1:(s.heap.push { cls:=.type "set",dict:=none,data:=.set #[] 0 (.fresh 0 0 (!byTx w)) }).get? s.heap.objs.size=some { cls:=.type "set",dict:=none,data:=.set #[] 0 (.fresh 0 0 (!byTx w)) }:=get?_push_size _ rfl
   have c7:Shared.TypeIs { s with heap:=s.heap.push { cls:=.type "set",dict:=none,data:=.set #[] 0 (.fresh 0 0 (!byTx w)) } } (.ref s.heap.objs.size) "set":=⟨_,g1,rfl⟩
   have c8:=F.called_set.init.lookup
   have c9:=F.called_set.init.bind (.ref s.heap.objs.size)
   repeat (any_goals first|assumption|wp_step)
   refine codeAny_mono (codeAny_call_builtin (R:=wants (λr s2=>r=.none/\∃h' tk,s2={ s with heap:=h',toks:=tk }/\SetT P w Z h' s.heap.objs.size (qbi f its.size)/\
     (∀b o,b<s.heap.objs.size->s.heap.get? b=some o->h'.get? b=some o)) E) F.called_set.init.plain F.entry_set_init (check_set_init_1 c7 ?_)) λr2 s2 hr2=>?_
   ·obtain ⟨ol,gl,cl,nl,dl⟩:=hl
    obtain ⟨qc,qd,qa,qs⟩:=ol
    simp only at cl dl
    subst cl
    subst dl
    have gl':(s.heap.push { cls:=.type "set",dict:=none,data:=.set #[] 0 (.fresh 0 0 (!byTx w)) }).get? l=some { cls:=.type "list",dict:=qd,data:=.seq its nl,slots:=qs }:=get?_push_of_some _ gl
    have d1:=F.sub_list_set
    have d2:=F.sub_list_frozenset
    have d3:(Value.type "list" == Value.type "dict")=false:=by decide
    have hl1:(s.heap.push { cls:=.type "set",dict:=none,data:=.set #[] 0 (.fresh 0 0 (!byTx w)) }).IsList l its:=⟨_,gl',rfl,nl,rfl⟩
    unfold Builtin.«set.__init__» noKeywords Builtin.Frozenset.updateFrom
    generalize hPI:pyIter=PI
    wp_walk
    subst hPI
    refine wpAny_pyIter_list hl1 ?_
    refine wpAny_bind (wpAny_runValue ?_)
    have lt:l<s.heap.objs.size:=lt_size gl
    have h3:A.in1.in1.in1.handled=none:=by simp[hh]
    have nI:l≠(s.heap.push { cls:=.type "set",dict:=none,data:=.set #[] 0 (.fresh 0 0 (!byTx w)) }).objs.size:=by
     rw[size_push];exact ne_of_lt (lt_succ_of_lt lt)
    have nf:s.heap.objs.size∉[(s.heap.push { cls:=.type "set",dict:=none,data:=.set #[] 0 (.fresh 0 0 (!byTx w)) }).objs.size,l]:=by
     rw[size_push];simp only[mem_cons,mem_singleton,not_mem_nil,or_false,not_or]
     exact ⟨ne_of_lt (lt_succ_self _),ne_of_gt lt⟩
    refine loopT ((Walks.list h3 _ l nI its).toS) s.heap.objs.size nf f ad (λi v _ z=>hi i v z) hb hz ?HU ?HW (its.size-0) 0 _ (by omega) (zero_le _) ⟨⟨_,get?_push_size _ rfl,rfl,rfl⟩,(hl1.push _)⟩ ?S0 ?T0 ?R0
    case HU=>show A.units+1+1+1<cLine;omega
    case HW=>
     rintro s1 i b o ⟨⟨o',g',c',d'⟩,_⟩ hb g items m e
     cases mem_singleton.mp hb
     rw[g']at g
     cases g
     rw[d']at e
     cases e
    case T0=>
     intro j hj
     obtain ⟨o',items,q,g',c,d,i⟩:=hkT j hj
     exact ⟨o',items,q,get?_push_of_some _ (get?_push_of_some _ g'),c,d,i⟩
    case S0=>exact SetT.new (get?_push_of_some _ g1)
    case R0=>
     intro s' m S'
     obtain ⟨h',g',d',tk',os'⟩:=s'
     have eg:g'=s.gens:=m.gens
     have ed:d'=s.drawn:=m.drawn
     have eo:os'=s.os:=m.os
     subst eg
     subst ed
     subst eo
     show wpAny _ _ _ _ _ _
     refine wpAny_pure ?_
     show wpAny _ _ (ret Value.none) _ _ _
     refine wpAny_pure ⟨rfl,h',tk',rfl,S',λb o lb g=>?_⟩
     have b1:b≠s.heap.objs.size:=ne_of_lt lb
     have b2:b≠(s.heap.push { cls:=.type "set",dict:=none,data:=.set #[] 0 (.fresh 0 0 (!byTx w)) }).objs.size:=by
      rw[size_push];exact ne_of_lt (lt_succ_of_lt lb)
     exact m.heap b o (by simp only[mem_cons,mem_singleton,not_mem_nil,or_false,not_or];exact ⟨b1,b2⟩) (get?_push_of_some _ (get?_push_of_some _ g))
   ·cases r2 with
    |error e=>exact hr2
    |ok fl2=>
     cases fl2 with
     |ret r=>
      obtain ⟨rfl,h',tk,rfl,S',kp⟩:=hr2
      repeat (any_goals first|assumption|wp_step)
      exact k _ _ S' kp
     |_=>exact hr2.elim
  |_=>exact hr.elim
end
def SetV(P:Program)(w:World)(h:Heap)(a:Addr)(us:List Value):Prop:=
 ∃o es ep t,h.get? a=some o/\o.ExactSet/\o.data=.set es ep t/\(es.toList.map (·.2)).Perm us/\es.size<scanBound/\t.fits es.size=true/\TOk t/\(byTx w=true\/t.led=true)
theorem SetT.v{P:Program}{w:World}{Z:List Int×Addr->Prop}{h:Heap}{a:Addr}{ks:List (List Int)}(x:SetT P w Z h a ks):∃qs:List (List Int×Addr),SetV P w h a (qs.map λq=>.ref q.2)/\(∀q∈qs,IsTupleKey (intKind P w) h q.1 q.2)/\(qs.map (·.1)).Perm ks/\ks.Nodup/\∀q∈qs,Z q:=by
 obtain ⟨o,es,ep,t,qs,g,gx,gd,T,hp,hn,hl,hZ⟩:=x
 refine ⟨qs,⟨o,es,ep,t,g,gx,gd,by rw[T.eqs,map_map];exact List.Perm.refl _,?_,T.fits,T.ok,hl⟩,T.at_,hp,hn,hZ⟩
 have:=T.few
 rw[T.size.1]
 exact Nat.lt_of_le_of_lt this (by decide)
section
variable {P:Program}{w:World}{A:Around}{E:Value->Shared->Prop}{s:Shared}{a:Addr}{ks:List Int}
def WalkV(P:Program)(w:World)(s:Shared)(a:Addr)(us:List Value)(I:Addr)(h':Heap)(d:Drawn):Prop:=
 ∃(n:Nat) (fp:List Addr) (vs:List Value) (St:Nat->Shared->Prop),n=us.length/\(∀B:Around,B.handled=none->WalksS P w B I fp [I] (λx y=>y=x) n (λi v=>vs[i]?=some v) St)/\St 0 { s with heap:=h',drawn:=d }/\
  s.heap.objs.size<=I/\(∀b∈fp,b=a\/s.heap.objs.size<=b)/\(∀b o,s.heap.get? b=some o->h'.get? b=some o)/\vs.Perm us
theorem iterV{Q:Value->Shared->Prop}{us:List Value}(hS:SetV P w s.heap a us)(k:∀I h' d,WalkV P w s a us I h' d->Q (.ref I) { s with heap:=h',drawn:=d }):wpAny (model P w) A (pyIter (.ref a)) Q E s:=by
 obtain ⟨o,es,ep,t,g,gx,gd,hp,hb,hf,ht,hl⟩:=hS
 have hT:s.TypeIs (.ref a) "set":=⟨o,g,gx.1⟩
 have hlen:es.size=us.length:=by
  have h1:=hp.length_eq
  rwa [length_map,length_toList]at h1
 have hpl:t.place.size=es.size:=qhz hf
 have ha:a<s.heap.objs.size:=lt_size g
 refine wpAny_pyIter_slot hT F.slot_set_iter (wpAny_call_entry F.slot_set_iter hT qda ?_ (F.args_set_iter_1 _))
 show wpAny _ _ (Builtin.Frozenset.sizeOf a >>= _) _ _ s
 refine wpAny_bind ?_
 unfold Builtin.Frozenset.sizeOf
 refine wpAny_bind (wpAny_setEntries_of g gd hf ?_)
 refine wpAny_pure ?_
 refine wpAny_bind ?_
 refine wpAny_bind ?_
 refine wpAny_setState_of g gd hf ?_
 dsimp only
 unfold setsByText
 refine wpAny_bind (wpAny_bind (wpAny_askSetting (wpAny_pure ?_)))
 refine wpAny_pure ?_
 dsimp only
 refine wpAny_ite_split (λhd=>?_) λhd=>?_
 ·refine wpAny_bind (yde es.size (List.range es.size) s _ (by simp) λps d pp=>?_)
  have hpsl:ps.length=es.size:=by rw[pp.length_eq,length_range]
  refine wpAny_bind (wpAny_newTuple ?_ (by rw[length_map,hpsl];exact fits_of_scanBound hb))
  have gT:(s.heap.push { cls:=.type "tuple",data:=.seq (ps.map λ(p:Nat)=>rawInt p).toArray }).get? s.heap.objs.size=some { cls:=.type "tuple",data:=.seq (ps.map λ(p:Nat)=>rawInt p).toArray }:=get?_push_size _ rfl
  have ga:(s.heap.push { cls:=.type "tuple",data:=.seq (ps.map λ(p:Nat)=>rawInt p).toArray }).get? a=some o:=get?_push_of_some _ g
  refine wpAny_bind (wpAny_setEpoch_of (s:={ s with heap:=s.heap.push { cls:=.type "tuple",data:=.seq (ps.map λ(p:Nat)=>rawInt p).toArray },drawn:=d }) ga gd hf ?_)
  refine wpAny_bind (wpAny_newObj_type ?_ (by size_fits))
  have z1:(s.heap.push { cls:=.type "tuple",data:=.seq (ps.map λ(p:Nat)=>rawInt p).toArray }).objs.size=s.heap.objs.size+1:=size_push ..
  have hvp:(ps.map λp=>(es.getD p (0,.none)).2).Perm (es.toList.map (·.2)):=by
   refine (pp.map _).trans (List.Perm.of_eq ?_)
   refine List.ext_getElem (by simp) λi h1 h2=>?_
   have hi:i<es.size:=by simpa using h2
   rw[getElem_map,getElem_map,List.getElem_range,Array.getElem_toList]
   show (es.getD i (0,.none)).2=(es[i]).2
   rw[getD_eq_getD_getElem?,Array.getElem?_eq_getElem hi]
   rfl
  have nI:a≠(s.heap.push { cls:=.type "tuple",data:=.seq (ps.map λ(p:Nat)=>rawInt p).toArray }).objs.size:=by rw[z1];exact neN (.inl (lt_succ_of_lt ha))
  have nT:s.heap.objs.size≠(s.heap.push { cls:=.type "tuple",data:=.seq (ps.map λ(p:Nat)=>rawInt p).toArray }).objs.size:=by rw[z1];exact neN (.inl (lt_succ_self _))
  refine wpAny_pure ⟨_,rfl,"set_iterator",_,⟨_,get?_push_size _ rfl,rfl⟩,qam.lookup,k _ _ d ?_⟩
  refine ⟨es.size,_,_,_,hlen,λB hB=>qim hB nI nT gd hf ps hpsl (λp hp=>mem_range.mp (pp.mem_iff.mp hp)) _ rfl,⟨get?_push_size _ rfl,get?_push_of_some _ ga,get?_push_of_some _ gT⟩,by rw[z1];exact le_succ _,λb hb=>?_,λb ob gb=>get?_push_of_some _ (get?_push_of_some _ gb),hvp.trans hp⟩
  have hb':b=(s.heap.push { cls:=.type "tuple",data:=.seq (ps.map λ(p:Nat)=>rawInt p).toArray }).objs.size\/b=a\/b=s.heap.objs.size:=by simpa using hb
  rcases hb' with rfl|rfl|rfl
  ·exact .inr (by rw[z1];exact le_succ _)
  ·exact .inl rfl
  ·exact .inr (le_refl _)
 ·refine wpAny_bind (wpAny_pure ?_)
  refine wpAny_bind (wpAny_setEpoch_of g gd hf ?_)
  refine wpAny_bind (wpAny_newObj_type ?_ (by size_fits))
  have nI:a≠s.heap.objs.size:=neN (.inl ha)
  have es0:s={ s with drawn:=s.drawn }:=by cases s;rfl
  have fpk:∀b∈[s.heap.objs.size,a],b=a\/s.heap.objs.size<=b:=λb hb=>by
   have hb':b=s.heap.objs.size\/b=a:=by simpa using hb
   rcases hb' with rfl|rfl
   ·exact .inr (le_refl _)
   ·exact .inl rfl
  refine wpAny_pure ⟨_,rfl,"set_iterator",_,⟨_,get?_push_size _ rfl,rfl⟩,qam.lookup,?_⟩
  have key:WalkV P w s a us s.heap.objs.size (s.heap.push { cls:=.type "set_iterator",data:=.fields #[rawInt 0,rawInt 0,.ref a,rawInt es.size,rawInt ep] }) s.drawn:=by
   by_cases hbt:byTx w=true
   ·have hvp:((pickOrder (w.params.setOrder a ep) es).toList.map (·.2)).Perm (es.toList.map (·.2)):=(qdq _ es).map _
    refine ⟨es.size,_,(pickOrder (w.params.setOrder a ep) es).toList.map (·.2),_,hlen,λB hB=>yhp hB nI gd hf (λ_=>0) _ (by rw[hvp.length_eq,length_map,length_toList]) λC D s i Q g1 hi1 q=>yic hbt g1 gd hf q,⟨get?_push_size _ rfl,get?_push_of_some _ g⟩,le_refl _,fpk,λb ob gb=>get?_push_of_some _ gb,hvp.trans hp⟩
   ·have hbf:byTx w=false:=eq_false_of_ne_true hbt
    have hled:t.led=true:=hl.resolve_left hbt
    have hpz:t.plain=true\/es.size<=1:=by
     have hd':¬ ((!byTx w&&(!t.plain&&decide (es.size>1)))=true):=hd
     rw[hbf]at hd'
     cases hq:t.plain with
     |true=>exact .inl rfl
     |false=>
      right
      rw[hq]at hd'
      simpa using hd'
    refine ⟨es.size,_,es.toList.map (·.2),_,hlen,λB hB=>yhp hB nI gd hf (qih t) _ (by rw[length_map,length_toList]) λC D s i Q g1 hi1 q=>qjz hbf g1 gd hf hled hpz ?_,⟨get?_push_size _ rfl,get?_push_of_some _ g⟩,le_refl _,fpk,λb ob gb=>get?_push_of_some _ gb,hp⟩
    rw[ye8 ht.1 (by omega)]
    by_cases hlt:i<es.size
    ·have e1:es[i]?=some es[i]:=Array.getElem?_eq_getElem hlt
     have e2:t.place[i]?=some (t.place.getD i 0):=by
      rw[getD_eq_getD_getElem?,Array.getElem?_eq_getElem (by omega)];rfl
     rw[getElem?_map,getElem?_toList,e1]at q
     rw[e1,e2]
     exact q
    ·have e1:es[i]?=none:=Array.getElem?_eq_none (by omega)
     rw[getElem?_map,getElem?_toList,e1]at q
     rw[e1]
     exact q
  have z:=k _ _ _ key
  exact z
end
theorem SetV.at{P:Program}{w:World}{h h':Heap}{a:Addr}{us:List Value}(x:SetV P w h a us)(k:∀o,h.get? a=some o->h'.get? a=some o):SetV P w h' a us:=by
 obtain ⟨o,es,ep,t,g,r⟩:=x
 exact ⟨o,es,ep,t,k o g,r⟩
section
variable {P:Program}{w:World}{A:Around}{E:Value->Shared->Prop}{s:Shared}{a:Addr}
theorem collectV{Q:List Value->Shared->Prop}(hh:A.handled=none){us:List Value}(hS:SetV P w s.heap a us)(hz:us.length<=4000)
  (k:∀vs h' d tk,vs.Perm us->s.heap.objs.size<h'.objs.size->(∀b o,s.heap.get? b=some o->h'.get? b=some o)->Q vs { s with heap:=h',drawn:=d,toks:=tk }):wpAny (model P w) A (collect (.ref a)) Q E s:=by
 have hT:s.TypeIs (.ref a) "set":=by
  obtain ⟨o,es,ep,t,g,gx,_⟩:=hS
  exact ⟨o,g,gx.1⟩
 have ha:a<s.heap.objs.size:=by
  obtain ⟨o,es,ep,t,g,gx,_⟩:=hS
  exact lt_size g
 unfold collect
 refine wpAny_bind (wpAny_runValue (codeAny_builtin F.entry_proto_collect ?_))
 rw[Around.under_plainId F.plain_proto_collect _]
 show wpAny _ A.in1 (newList [] >>= λl=>again (.builtin "list.__iadd__" ⟨[l,.ref a],[]⟩)) _ _ s
 refine wpAny_bind (wpAny_newObj_type ?_)
 refine wpAny_pure ⟨plainId_quiet F.plain_list_iadd _,?_⟩
 refine codeAny_builtin F.entry_list_iadd ?_
 rw[Around.under_plainId F.plain_list_iadd _]
 show wpAny _ A.in1 (Builtin.List.listExtendWith (.ref s.heap.objs.size) (.ref a) (.ref s.heap.objs.size)) _ _ _
 generalize hH:s.heap.push { cls:=.type "list",data:=.seq ([]:List Value).toArray }=H1
 have g0:H1.get? s.heap.objs.size=some { cls:=.type "list",data:=.seq ([]:List Value).toArray }:=by rw[<-hH];exact get?_push_size _ rfl
 have z1:H1.objs.size=s.heap.objs.size+1:=by rw[<-hH];exact size_push ..
 have kp1:∀b o,s.heap.get? b=some o->H1.get? b=some o:=λb o g=>by rw[<-hH];exact get?_push_of_some _ g
 have hS1:SetV P w H1 a us:=hS.at λo g=>kp1 a o g
 have hT1:Shared.TypeIs { s with heap:=H1 } (.ref a) "set":=by
  obtain ⟨o,es,ep,t,g,gx,_⟩:=hS1
  exact ⟨o,g,gx.1⟩
 unfold Builtin.List.listExtendWith
 refine wpAny_bind (wpAny_typeOf hT1 ?_)
 have n1:Builtin.List.listSameRef (.ref s.heap.objs.size) (.ref a)=false:=by
  have:s.heap.objs.size≠a:=neN (.inr ha)
  simp[Builtin.List.listSameRef,this]
 rw[if_neg (by rw[n1];decide)]
 refine wpAny_bind (iterV (s:={ s with heap:=H1 }) hS1 λI h' d W=>?_)
 refine wpAny_bind (wpAny_holding ?_)
 have hT2:Shared.TypeIs { s with heap:=h',drawn:=d } (.ref a) "set":=by
  obtain ⟨n,fp,vs,St,e,W1,st,lI,fpk,kp,p2⟩:=W
  obtain ⟨o,g,c⟩:=hT1
  exact ⟨o,kp _ _ g,c⟩
 unfold Builtin.List.listLengthHint
 refine wpAny_bind (wpAny_specialOf hT2 yl2 ?_)
 wp_delta
 refine wpAny_bind (wpAny_isInstance (T:="set") (b:=true) hT2 (by rw[isSubtype_type];kernel_rfl) ?_)
 show wpAny _ A.in1 (typeOf (Value.ref a) >>= _) _ _ _
 refine wpAny_bind (wpAny_typeOf hT2 ?_)
 refine wpAny_pure ?_
 rw[if_pos (by decide)]
 refine wpAny_bind (wpAny_rule ?_)
 obtain ⟨n,fp,vs,St,en,W1,st,lI,fpk,kp,p2⟩:=W
 have lI':s.heap.objs.size+1<=I:=by rw[<-z1];exact lI
 have hd:s.heap.objs.size∉fp:=λhm=>by
  rcases fpk _ hm with z|z
  ·exact absurd ha (by rw[<-z];exact lt_irrefl _)
  ·have z':s.heap.objs.size+1<=s.heap.objs.size:=by rw[<-z1];exact z
   exact absurd z' (Nat.not_succ_le_self _)
 have gS:h'.get? s.heap.objs.size=some { cls:=.type "list",data:=.seq ([]:List Value).toArray }:=kp _ _ g0
 refine wpAny_bind ?_
 show wpAny _ _ (updateSeq s.heap.objs.size (·.push .none) >>= λ_=>updateSeq s.heap.objs.size (·.pop)) _ _ _
 refine wpAny_bind (wpAny_updateSeq gS rfl ?_ (by simp) (by simp))
 have gS1:=get?_update_self (Obj.mapSeq (·.push Value.none)) gS rfl
 refine wpAny_updateSeq gS1 rfl ?_ (by simp;decide) (by simp)
 have gS2:=get?_update_self (Obj.mapSeq (·.pop)) gS1 rfl
 have oth:∀b o,b≠s.heap.objs.size->h'.get? b=some o->((h'.update s.heap.objs.size (Obj.mapSeq (·.push Value.none))).update s.heap.objs.size (Obj.mapSeq (·.pop))).get? b=some o:=λb o hb g=>by
  rw[get?_update_other _ _ (Ne.symm hb),get?_update_other _ _ (Ne.symm hb)]
  exact g
 have st2:=(W1 A.in1 (by simpa using hh)).frame 0 _ ((h'.update s.heap.objs.size (Obj.mapSeq (·.push Value.none))).update s.heap.objs.size (Obj.mapSeq (·.pop))) s.toks st (le_refl _) λb hb o g=>oth b o (λz=>hd (z ▸ hb)) g
 have hvl:n<=sizeLine:=by rw[en];exact qd3 (by omega)
 refine wpAny_pure ⟨plainId_quiet F.plain_extend_loop _,?_⟩
 refine codeAny_extend_loopS (W1 A.in1 (by simpa using hh)) hvl _ hd _ n 0 _ _ _ rfl (zero_le _) st2 gS2 ⟨rfl,λj v z=>by simp at z⟩ λs2 acc c m g2 it=>?_
 show wpAny _ A (load s.heap.objs.size >>= _) _ _ s2
 refine wpAny_bind (wpAny_load g2 ?_)
 have ev:acc.toList=vs:=by
  have hl:acc.size=n:=it.1
  have hvn:vs.length=n:=by
   rw[p2.length_eq,en]
  refine List.ext_getElem? λj=>?_
  cases hj:acc.toList[j]? with
  |none=>
   have:=List.getElem?_eq_none_iff.mp hj
   rw[length_toList]at this
   rw[getElem?_eq_none (by omega)]
  |some v=>exact (it.2 j v (by rw[<-getElem?_toList];exact hj)).symm
 obtain ⟨h2,g',d2,tk,os⟩:=s2
 have eg:g'=s.gens:=m.gens
 have ed:d2=d:=m.drawn
 have eo:os=s.os:=m.os
 subst eg
 subst ed
 subst eo
 refine wpAny_pure ?_
 show Q acc.toList _
 rw[ev]
 refine k vs h2 d2 tk p2 (lt_size g2) λb o g=>?_
 have hb:b<s.heap.objs.size:=lt_size g
 refine m.heap b o (λz=>?_) (oth b o (neN (.inl hb)) (kp b o (kp1 b o g)))
 have z':b=s.heap.objs.size\/b=I:=by simpa using z
 rcases z' with z|z
 ·exact absurd hb (by rw[z];exact lt_irrefl _)
 ·exact absurd (lt_of_lt_of_le hb (Nat.le_of_succ_le lI')) (by rw[z];exact lt_irrefl _)
end
end L2
namespace L2
open PySem PySem.Spec PyProof.Rows PySem.W
theorem qfx{P:Program}{w:World}:∀{vs:List Value}{ns:List Int},IntsAre vs ns->PySem.ItemsAre (intKind P w) ns vs
 |[],[],.nil=>.nil
 |_,_,.cons n t r=>.cons (by show Value.isInt n (.int n t)=true;simp[Value.isInt]) (qfx r)
theorem TIs.key{P:Program}{w:World}{h:Heap}{ts:List TL}(x:TIs h ts){t:TL}(ht:t∈ts):IsTupleKey (intKind P w) h t.2 t.1:=by
 obtain ⟨o,us,n,e1,e2,e3,e4⟩:=x t ht
 exact ⟨o,us.toArray,n,e1,e2,e3,by simpa using qfx e4⟩
theorem qgp(f:Nat->List Int)(k:List Int):∀n,k∈qbi f n↔∃i,i<n/\f i=k
 |0=>by
  unfold qbi
  constructor
  ·intro h;simp at h
  ·rintro ⟨i,h,_⟩;omega
 |n+1=>by
  have ih:=qgp f k n
  have e:k∈qbi f (n+1)↔k∈qbi f n\/k=f n:=by
   show k∈(if f n∈qbi f n then qbi f n else qbi f n++[f n])↔_
   split
   ·rename_i h
    exact ⟨.inl,λz=>z.elim id λz=>z ▸ h⟩
   ·rw[mem_append,mem_singleton]
  rw[e,ih]
  constructor
  ·rintro (⟨i,h,z⟩|z)
   ·exact ⟨i,by omega,z⟩
   ·exact ⟨n,by omega,z.symm⟩
  ·rintro ⟨i,h,z⟩
   by_cases hi:i=n
   ·subst hi;exact .inr z.symm
   ·exact .inl ⟨i,by omega,z⟩
def SetVO(P:Program)(w:World)(a:Addr)(us:List TL):HO:=.ext λh=>SetV P w h a (qa1 us)
section
variable {X:Cx}
def rSetT(P:Program)(w:World):List V->Hp->VK->Prop:=λxs H Q=>∃(l:Addr) (ts:List TL),xs=[.ref l]/\H l=some (.lst (ybc ts))/\(∀t∈ts,H t.1=some (.tup (t.2.map V.int)))/\ts.length<=3/\
 ∀(p:Addr) (us:List TL),H p=none->(∀u∈us,u∈ts)->(us.map (·.2)).Nodup->(∀t∈ts,t.2∈us.map (·.2))->Q (.ref p) (upd H p (SetVO P w p us))
theorem ykc(hc:X.calm=true)(hu:X.A.units+64<cLine):yb6 X (.type "set") (rSetT X.prog X.w):=by
 intro pins s σ H xs us Q I r h
 obtain ⟨l,ts,rfl,hH,hT,h3,q⟩:=h
 cases r with
 |cons r rr=>
  cases rr
  cases r
  obtain ⟨z,its,n,rv,hl,e⟩:=I.lstM hH
  have ei:=qiz rv
  subst ei
  have hlt:(qa1 ts).length=ts.length:=length_map _
  have hf:H s.heap.objs.size=none:=I.hok.fresh (le_refl _)
  have tis:=tis_of I.hok hT
  have hm:∀i,i<(qa1 ts).toArray.size->ts.getD i (0,[])∈ts:=λi hi=>by
   rw[size_toArray,hlt]at hi
   rw[getD_eq_getElem?_getD,getElem?_eq_getElem hi]
   exact getElem_mem hi
  refine ylg (f:=λi=>(ts.getD i (0,[])).2) (ad:=λi=>(ts.getD i (0,[])).1) (Z:=λq=>(q.2,q.1)∈ts) (by simpa using I.ok.hd hc) (its:=(qa1 ts).toArray) ⟨_,e,rfl,n,rfl⟩
   (λi hi=>hm i hi) (λi v hv=>?_) (λi hi=>tis.key (hm i hi)) (by rw[size_toArray,hlt];exact h3) (by omega) λh' tk S kp=>?_
  ·have hi:i<ts.length:=by
    have:=(Array.getElem?_eq_some_iff.mp hv).1
    rwa [size_toArray,hlt]at this
   unfold qa1 at hv
   rw[List.getElem?_toArray,getElem?_map,getElem?_eq_getElem hi]at hv
   simp only[Option.map_some,Option.some.injEq]at hv
   rw[<-hv,getD_eq_getElem?_getD,getElem?_eq_getElem hi]
   rfl
  ·obtain ⟨qs,SV,hk,pm,nd,hZ⟩:=S.v
   have e0:(qs.map λq:List Int×Addr=>Value.ref q.2)=qa1 (qs.map λq=>(q.2,q.1)):=by
    unfold qa1
    rw[map_map]
    rfl
   rw[e0]at SV
   have e1:(qs.map λq=>(q.2,q.1)).map (·.2)=qs.map (·.1):=by rw[map_map];rfl
   have hin:∀t∈ts,t.2∈qs.map (·.1):=λt ht=>pm.mem_iff.mpr <| (qgp _ _ _).mpr <| by
    obtain ⟨i,hi,ei⟩:=getElem_of_mem ht
    exact ⟨i,by rw[size_toArray,hlt];exact hi,by rw[getD_eq_getElem?_getD,getElem?_eq_getElem hi,ei];rfl⟩
   refine ⟨.ref s.heap.objs.size,_,I.laid (o:=SetVO X.prog X.w s.heap.objs.size (qs.map λq=>(q.2,q.1))) (t':=tk) (λb o g=>kp b o (lt_size g) g) (le_refl _) ?_,rfl,
    q _ _ hf (λu hu=>?_) (by rw[e1];exact pm.nodup_iff.mpr nd) (by rw[e1];exact hin)⟩
   ·refine ⟨SV,?_,λh1 h2 x y=>SetV.at x y⟩
    obtain ⟨o,es,ep,t,g,_⟩:=SV
    exact ⟨o,g⟩
   ·obtain ⟨q',hq',rfl⟩:=mem_map.mp hu
    exact hZ q' hq'
def rSortST(P:Program)(w:World):List V->Hp->VK->Prop:=λxs H Q=>∃(a:Addr) (us:List TL) (m:Nat),xs=[.ref a]/\H a=some (SetVO P w a us)/\(∀t∈us,H t.1=some (.tup (t.2.map V.int)))/\OkT m us/\us.length<64/\
 ∀(p:Addr) (ts':List TL),H p=none->ts'.Perm us->RiseT ts'->Q (.ref p) (upd H p (.lst (ybc ts')))
theorem yh5:∀{vs:List Value}{us:List TL},vs.Perm (qa1 us)->∃ts:List TL,vs=qa1 ts/\ts.Perm us:=by
 have key:∀{l1 l2:List Value},l1.Perm l2->∀us:List TL,l2=qa1 us->∃ts:List TL,l1=qa1 ts/\ts.Perm us:=by
  intro l1 l2 h
  induction h with
  |nil=>intro us e;cases us with
   |nil=>exact ⟨[],rfl,.refl _⟩
   |cons a b=>simp[qa1]at e
  |cons x _ ih=>intro us e;cases us with
   |nil=>simp[qa1]at e
   |cons a b=>
    simp only[qa1,map_cons,List.cons.injEq]at e
    obtain ⟨ts,e1,e2⟩:=ih b e.2
    exact ⟨a::ts,by rw[e.1,e1];rfl,e2.cons a⟩
  |swap x y l=>intro us e;cases us with
   |nil=>simp[qa1]at e
   |cons a b=>cases b with
    |nil=>simp[qa1]at e
    |cons b c=>
     simp only[qa1,map_cons,List.cons.injEq]at e
     exact ⟨b::a::c,by rw[e.1,e.2.1,e.2.2];rfl,List.Perm.swap _ _ _⟩
  |trans _ _ ih1 ih2=>
   intro us e
   obtain ⟨ts2,e2,p2⟩:=ih2 us e
   obtain ⟨ts1,e1,p1⟩:=ih1 ts2 e2
   exact ⟨ts1,e1,p1.trans p2⟩
 intro vs us h
 exact key h _ rfl
theorem qix(hc:X.calm=true):yb6 X (.builtin "sorted") (rSortST X.prog X.w):=by
 intro pins s σ H xs us Q I r h
 obtain ⟨a,us,m,rfl,hH,hT,hO,h64,q⟩:=h
 cases r with
 |cons r rr=>
  cases rr
  cases r
  obtain ⟨S,_⟩:=I.hok a _ hH
  have hlt:(qa1 us).length=us.length:=length_map _
  refine qf1 (collectV (by simpa using I.ok.hd hc) S (by omega) λvs h' d tk pm hz kp=>?_)
  obtain ⟨ts,rfl,pt⟩:=yh5 pm
  have hl2:(qa1 ts).length=ts.length:=length_map _
  have hl3:=pt.length_eq
  refine ⟨by omega,λs2 hs=>?_⟩
  subst hs
  exact yie (s1:={ s with heap:=h',drawn:=d,toks:=tk }) (I.draw d) ⟨_,_,rfl,kp⟩ (le_of_lt hz) (λt ht=>hT t (pt.mem_iff.mp ht)) (λt ht=>hO t (pt.mem_iff.mp ht)) (by omega) λp ts' hp pm' ri=>q p ts' hp (pm'.trans pt) ri
end
end L2
namespace Mh
open PySem L2 PyProof.Rows
def top(i:Nat):Stmt:=PySem.Challenge.pw_marchmend_k54_whole_covered_is_sound.main.body.getD i (.Pass ⟨0,0,0,0⟩)
def b2i(b:Bool):Int:=if b then 1 else 0
theorem iteB{b:Bool}{A B:Prop}(hb:b=true)(h:A):if b=true then A else B:=by
 rw[if_pos hb];exact h
theorem iteN{b:Bool}{A B:Prop}(hb:b=false)(h:B):if b=true then A else B:=by
 rw[if_neg (by rw[hb];exact Bool.false_ne_true)];exact h
theorem iteD{c:Prop}[Decidable c]{A B:Prop}(hc:c)(h:A):if decide c=true then A else B:=iteB (decide_eq_true hc) h
theorem qbv{α β:Type}{f:α->β}{l:List α}{i:Nat}{d:β}(h:(l.map f)[i]?=some d):∃x,l[i]?=some x/\d=f x:=by
 rw[getElem?_map]at h
 cases e:l[i]? with
 |none=>rw[e]at h;cases h
 |some x=>rw[e]at h;exact ⟨x,rfl,(Option.some.inj h).symm⟩
structure Hm where
 w:Str
 c:List Int
 r:List V
def tabP:List (Str×List V):=[("stuck",[.str "cell",.str "bit"]),("slow",[.str "cell",.str "bit"]),("forgets",[.str "cell",.str "bit"]),("misreads",[.str "cell",.str "bit"]),("turns",[.str "cell",.str "cell",.str "bit"]),("sets",[.str "cell",.str "cell",.str "bit",.str "bit"]),
 ("keeps",[.str "cell",.str "cell",.str "bit",.str "bit"]),("nowhere",[.str "cell",.str "bit"]),("other",[.str "cell",.str "cell"]),("both",[.str "cell",.str "cell",.str "how"])]
def bitV(v:V):Prop:=∃b,v=.int (b2i b)
def howV(v:V):Prop:=v=.str "and"\/v=.str "or"
inductive Rest:List Str->List V->Prop
 |nil:Rest [] []
 |bit {v:V}{ns:List Str}{vs:List V}:bitV v->Rest ns vs->Rest ("bit" :: ns) (v::vs)
 |how {v:V}{ns:List Str}{vs:List V}:howV v->Rest ns vs->Rest ("how" :: ns) (v::vs)
def qcf(n:Nat)(ns:List Str):List V:=List.replicate n (V.str "cell")++ns.map V.str
def hV(h:Hm):List V:=.str h.w::(h.c.map V.int++h.r)
structure okH(h:Hm)(ns:List Str):Prop where
 tab:KTD.datumAt h.w tabP=some (qcf h.c.length ns)
 rest:Rest ns h.r
 cl:1<=h.c.length/\h.c.length<=2
 rl:ns.length<=2
 nd:h.c.Nodup
 rg:∀x∈h.c,0<=x/\x<64
theorem Rest.len{ns:List Str}{vs:List V}(h:Rest ns vs):vs.length=ns.length:=by
 induction h with
 |nil=>rfl
 |bit _ _ ih=>simp[ih]
 |how _ _ ih=>simp[ih]
theorem okH.len{h:Hm}{ns:List Str}(o:okH h ns):(h.c.map V.int++h.r).length=(qcf h.c.length ns).length:=by
 unfold qcf
 simp[o.rest.len]
section
variable {P:Program}{w:World}{K:W.Frag}{mg:Str->Option Value}{base:Heap}
def ybf:Sp:=λvs H Q _=>∃i,vs=[.int i]/\Q (.bl true) H
abbrev yeq:Stmt:=top 15
theorem qfn:FnScope ["thing"] ["thing"] (yac yeq):=fsc
theorem yjf(B:Bl mg)(F:FnAt K mg "is_whole" yeq ["thing"]):Has P w K mg base 1 "is_whole" ["thing"] ybf:=by
 refine Has.of F qfn (λvs H Q E h=>?_) (λ_ _ _ _ _ H vs Q E hr h=>?_)
 ·obtain ⟨i,rfl,_⟩:=h
  rfl
 ·obtain ⟨i,rfl,k⟩:=h
  have sc:=qfn
  refine ⟨_,(qaf (yap (qa3 (qai ybi rfl (B.of rfl) boot_isinstance (yaa (pv 0) (yaa (yb3 (v:=.ty "int") rfl (B.of rfl) boot_int rfl) qad))) (qbt (pe_not (qai ybi rfl (B.of rfl) boot_isinstance (yaa (pv 0) (yaa (yb3 (v:=.ty "bool") rfl (B.of rfl) boot_bool rfl) qad)))))))),?_⟩
  refine ⟨_,rfl,_,_,_,_,rfl,.int i,rfl,_,rfl,iteT ?_⟩
  refine ⟨_,rfl,_,_,_,_,rfl,.int i,rfl,_,rfl,?_⟩
  exact k
def yc9:Sp:=λvs H Q _=>∃b,vs=[.int (b2i b)]/\∀H',Same H H'->Q (.bl true) H'
abbrev qhn:Stmt:=top 16
theorem yhw:FnScope ["thing"] ["thing"] (yac qhn):=fsc
theorem qlh(ya2:Has P w K mg base 1 "is_whole" ["thing"] ybf)(F:FnAt K mg "is_bit" qhn ["thing"]):Has P w K mg base 2 "is_bit" ["thing"] yc9:=by
 refine Has.of F yhw (λvs H Q E h=>?_) (λ_ _ _ _ _ H vs Q E hr h=>?_)
 ·obtain ⟨i,rfl,_⟩:=h
  rfl
 ·obtain ⟨b,rfl,k⟩:=h
  have sc:=yhw
  refine ⟨_,(qaf (yap (qa3 (yag ya2 hr (yaa (pv 0) qad)) (qbt (qat qbd (pv 0) (yda (yaa qac (yaa qac qad))) (by with_unfolding_all rfl)))))),?_⟩
  refine ⟨_,rfl,_,rfl,_,rfl,iteT ?_⟩
  refine ⟨_,rfl,zl,λp hp=>⟨p,_,rfl,.inr (sqtO qab),rfl,rfl,?_⟩⟩
  cases b<;>exact k _ (Same.upd (smR _) hp)
def qbs(K:W.Frag):Sp:=λvs H Q _=>∃x a xs,vs=[.str x,.ref a]/\(∀H',SqT K H' a xs)/\xs.all qct=true/\Q (.bl (inV (.str x) xs)) H
abbrev qd0:Stmt:=top 17
theorem qe7:FnScope ["thing","words"] ["thing","words"] (yac qd0):=fsc
theorem qh5(B:Bl mg)(F:FnAt K mg "is_one_of" qd0 ["thing","words"]):Has P w K mg base 1 "is_one_of" ["thing","words"] (qbs K):=by
 refine Has.of F qe7 (λvs H Q E h=>?_) (λ_ _ _ _ _ H vs Q E hr h=>?_)
 ·obtain ⟨x,a,xs,rfl,_⟩:=h
  rfl
 ·obtain ⟨x,a,xs,rfl,hq,hf,k⟩:=h
  have sc:=qe7
  refine ⟨_,(qaf (yap (qa3 (qai ybi rfl (B.of rfl) boot_isinstance (yaa (pv 0) (yaa (yb3 (v:=.ty "str") rfl (B.of rfl) boot_str rfl) qad))) (qbt (qat qbd (pv 0) (pv 1) (by with_unfolding_all rfl)))))),?_⟩
  refine ⟨_,rfl,_,_,_,_,rfl,.str x,rfl,_,rfl,iteT ?_⟩
  exact ⟨_,rfl,_,rfl,a,xs,rfl,.inr (hq _),rfl,hf,k⟩
def qgx:Sp:=λvs H Q _=>∃x,vs=[.int x]/\0<=x/\x<64/\Q (.bl true) H
abbrev yft:Stmt:=top 30
theorem ygy:FnScope ["thing"] ["thing"] (yac yft):=fsc
theorem yka(qc8:∃t,mg "MOST_CELLS"=some (.int 64 t))(ya2:Has P w K mg base 1 "is_whole" ["thing"] ybf)(F:FnAt K mg "is_cell" yft ["thing"]):Has P w K mg base 2 "is_cell" ["thing"] qgx:=by
 refine Has.of F ygy (λvs H Q E h=>?_) (λ_ _ _ _ _ H vs Q E hr h=>?_)
 ·obtain ⟨x,rfl,_⟩:=h
  rfl
 ·obtain ⟨x,rfl,h0,h1,k⟩:=h
  have sc:=ygy
  refine ⟨_,(qaf (yap (qa3 (yag ya2 hr (yaa (pv 0) qad)) (qa3 (qat qji (pv 0) qac (yak _)) (qbt (qat yi1 (pv 0) (yd1 qc8) (yak _))))))),?_⟩
  refine ⟨_,rfl,x,rfl,_,rfl,iteT ?_⟩
  refine ⟨_,rfl,_,_,rfl,rfl,_,rfl,iteD (by omega) ?_⟩
  refine ⟨_,rfl,_,_,rfl,rfl,?_⟩
  show Q (.bl (decide (x<64))) H
  rw[decide_eq_true h1]
  exact k
def PartOk(nm:Str)(v:V):Prop:=(nm="cell"/\∃x,v=.int x/\0<=x/\x<64)\/(nm="bit"/\bitV v)\/(nm="how"/\howV v)
def ygq:Sp:=λvs H Q _=>∃nm v,vs=[.str nm,v]/\PartOk nm v/\∀H',Same H H'->Q (.bl true) H'
abbrev yfw:Stmt:=top 31
theorem ygx:FnScope ["name","thing"] ["name","thing"] (yac yfw):=fsc
theorem yj8(qj6:GTup K mg "JOININGS" [.str "and",.str "or"])(qkz:Has P w K mg base 2 "is_cell" ["thing"] qgx)(qco:Has P w K mg base 2 "is_bit" ["thing"] yc9)(qbf:Has P w K mg base 1 "is_one_of" ["thing","words"] (qbs K))(F:FnAt K mg "is_part" yfw ["name","thing"]):Has P w K mg base 3 "is_part" ["name","thing"] ygq:=by
 refine Has.of F ygx (λvs H Q E h=>?_) (λ_ _ _ _ _ H vs Q E hr h=>?_)
 ·obtain ⟨nm,v,rfl,_⟩:=h
  rfl
 ·obtain ⟨nm,v,rfl,hp,k⟩:=h
  have sc:=ygx
  refine ⟨_,(yai (qbh (qao ybm (pv 0) yan (yak _))
    (qaf (yap (yag qkz hr (yaa (pv 1) qad))))
    yaq)
   (yai (qbh (qao ybm (pv 0) yan (yak _))
    (qaf (yap (yag qco hr (yaa (pv 1) qad))))
    yaq)
   (qaf (yap (yag qbf hr (yaa (pv 1) (yaa (yhc qj6) qad))))))),?_⟩
  rcases hp with ⟨rfl,x,rfl,h0,h1⟩|⟨rfl,b,rfl⟩|⟨rfl,hv⟩
  ·refine ⟨_,rfl,rfl,_,rfl,iteB (by decide +kernel) ?_⟩
   exact ⟨_,rfl,x,rfl,h0,h1,k H (smR H)⟩
  ·refine ⟨_,rfl,rfl,_,rfl,iteN (by decide +kernel) ?_⟩
   refine ⟨_,rfl,rfl,_,rfl,iteB (by decide +kernel) ?_⟩
   exact ⟨_,rfl,b,rfl,k⟩
  ·refine ⟨_,rfl,rfl,_,rfl,iteN (by decide +kernel) ?_⟩
   refine ⟨_,rfl,rfl,_,rfl,iteN (by decide +kernel) ?_⟩
   rcases hv with rfl|rfl
   ·refine ⟨_,rfl,λa ha=>⟨_,a,_,rfl,ha,by decide,?_⟩⟩
    exact k H (smR H)
   ·refine ⟨_,rfl,λa ha=>⟨_,a,_,rfl,ha,by decide,?_⟩⟩
    exact k H (smR H)
def HAt(H:Hp)(v:V)(h:Hm):Prop:=∃a,v=.ref a/\H a=some (.tup (hV h))
def qf0:Sp:=λvs H Q _=>∃v h ns,vs=[v]/\HAt H v h/\okH h ns/\Q (.bl true) H
abbrev yew:Stmt:=top 32
theorem qf3:FnScope ["thing"] ["thing"] (yac yew):=fsc
theorem qiw(B:Bl mg){aP:Addr}(gP:mg "PARTS"=some (.ref aP))(TP:TabK K aP tabP)(F:FnAt K mg "has_word" yew ["thing"]):Has P w K mg base 1 "has_word" ["thing"] qf0:=by
 refine Has.of F qf3 (λvs H Q E h=>?_) (λ_ _ _ _ _ H vs Q E hr h=>?_)
 ·obtain ⟨v,h,ns,rfl,_⟩:=h
  rfl
 ·obtain ⟨v,h,ns,rfl,⟨a,rfl,ha⟩,ok,k⟩:=h
  have sc:=qf3
  refine ⟨_,(qaf (yap (qa3 (qai ybi rfl (B.of rfl) boot_isinstance (yaa (pv 0) (yaa (yb3 (v:=.ty "tuple") rfl (B.of rfl) boot_tuple rfl) qad))) (qa3 (qat qis (qai qah rfl (B.of rfl) boot_len (yaa (pv 0) qad)) qac (yak _)) (qa3 (qai ybi rfl (B.of rfl) boot_isinstance (yaa (qaq yal (pv 0) qac) (yaa (yb3 (v:=.ty "str") rfl (B.of rfl) boot_str rfl) qad))) (qbt (qat (op_inTab (D:=tabP)) (qaq yal (pv 0) qac) (yfz (v:=.ref aP) rfl gP rfl) (by with_unfolding_all rfl)))))))),?_⟩
  refine ⟨_,rfl,_,_,_,_,rfl,.tup ha,rfl,_,rfl,iteT ?_⟩
  refine ⟨_,rfl,a,_,rfl,.inr (sqtO ha),_,_,rfl,rfl,_,rfl,iteD (by unfold hV;simp;omega) ?_⟩
  refine ⟨_,rfl,a,_,_,_,rfl,rfl,sqtO ha,yaf 0 rfl,_,_,_,_,rfl,.str _,rfl,_,rfl,iteT ?_⟩
  refine ⟨_,rfl,a,_,_,_,rfl,rfl,sqtO ha,yaf 0 rfl,aP,h.w,rfl,rfl,TP,?_⟩
  have e:KTD.inKeys h.w tabP=true:=by rw[<-KTD.isSome_datumAt,ok.tab];rfl
  rw[e]
  exact k
theorem Rest.get{ns:List Str}{vs:List V}(h:Rest ns vs):∀{i:Nat}{n:Str}{v:V},ns[i]?=some n->vs[i]?=some v->(n="bit"/\bitV v)\/(n="how"/\howV v):=by
 induction h with
 |nil=>intro i n v h;simp at h
 |bit hb _ ih=>
  intro i n v h1 h2
  cases i with
  |zero=>simp at h1 h2;subst h1 h2;exact .inl ⟨rfl,hb⟩
  |succ i=>simp at h1 h2;exact ih h1 h2
 |how hb _ ih=>
  intro i n v h1 h2
  cases i with
  |zero=>simp at h1 h2;subst h1 h2;exact .inr ⟨rfl,hb⟩
  |succ i=>simp at h1 h2;exact ih h1 h2
theorem okH.cellAt{h:Hm}{ns:List Str}(o:okH h ns){i:Nat}{x y:V}(hx:(qcf h.c.length ns)[i]?=some x)(hy:(h.c.map V.int++h.r)[i]?=some y) :
  (x=.str "cell"/\∃c,h.c[i]?=some c/\y=.int c)\/(h.c.length<=i/\((x=.str "bit"/\bitV y)\/(x=.str "how"/\howV y))):=by
 unfold qcf at hx
 by_cases hi:i<h.c.length
 ·rw[getElem?_append_left (by simpa using hi),List.getElem?_replicate,if_pos hi]at hx
  rw[getElem?_append_left (by simpa using hi)]at hy
  obtain ⟨c,hc,rfl⟩:=qbv hy
  exact .inl ⟨(Option.some.inj hx).symm,c,hc,rfl⟩
 ·rw[getElem?_append_right (by simpa using Nat.le_of_not_lt hi)]at hx
  rw[getElem?_append_right (by simpa using Nat.le_of_not_lt hi)]at hy
  simp only[length_replicate,length_map]at hx hy
  obtain ⟨n,hn,rfl⟩:=qbv hx
  rcases o.rest.get hn hy with ⟨rfl,hb⟩|⟨rfl,hb⟩
  ·exact .inr ⟨Nat.le_of_not_lt hi,.inl ⟨rfl,hb⟩⟩
  ·exact .inr ⟨Nat.le_of_not_lt hi,.inr ⟨rfl,hb⟩⟩
theorem okH.partAt{h:Hm}{ns:List Str}(o:okH h ns){i:Nat}{x y:V}(hx:(qcf h.c.length ns)[i]?=some x)(hy:(h.c.map V.int++h.r)[i]?=some y):∃nm,x=.str nm/\PartOk nm y:=by
 rcases o.cellAt hx hy with ⟨rfl,c,hc,rfl⟩|⟨_,⟨rfl,hb⟩|⟨rfl,hb⟩⟩
 ·exact ⟨_,rfl,.inl ⟨rfl,c,rfl,o.rg c (mem_of_getElem? hc)⟩⟩
 ·exact ⟨_,rfl,.inr (.inl ⟨rfl,hb⟩)⟩
 ·exact ⟨_,rfl,.inr (.inr ⟨rfl,hb⟩)⟩
theorem yjr(h:Hm):cutV (hV h) (some 1) none=h.c.map V.int++h.r:=by
 unfold hV
 exact yj0 1
theorem ql3(h:Hm):¬ (HT.sIx (hV h).length 0 (some 1)=0/\HT.sIx (hV h).length (hV h).length none=(hV h).length):=by
 rintro ⟨h0,_⟩
 unfold hV HT.sIx at h0
 simp at h0
def ye4:Sp:=λvs H Q _=>∃v h ns,vs=[v]/\HAt H v h/\okH h ns/\∀H',Same H H'->Q (.bl true) H'
abbrev qd1:Stmt:=top 34
theorem qe9:FnScope ["thing","names"] ["thing"] (yac qd1):=fsc
theorem yis(B:Bl mg)(qhb:mg "zip"=none)(qeq:mg "all"=none){aP:Addr}(gP:mg "PARTS"=some (.ref aP))(TP:TabK K aP tabP)(qlx:Has P w K mg base 3 "is_part" ["name","thing"] ygq)(F:FnAt K mg "has_parts" qd1 ["thing"]):Has P w K mg base 4 "has_parts" ["thing"] ye4:=by
 refine Has.of F qe9 (λvs H Q E h=>?_) (λ_ _ _ _ _ H vs Q E hr h=>?_)
 ·obtain ⟨v,h,ns,rfl,_⟩:=h
  rfl
 ·obtain ⟨v,h,ns,rfl,⟨a,rfl,ha⟩,ok,k⟩:=h
  have sc:=qe9
  refine ⟨_,(yai (pst 1 sc.nd (qaq (ix_tab (D:=tabP)) (yfz (v:=.ref aP) rfl gP rfl) (qaq yal (pv 0) qac)))
   (qaf (yap (qa3 (qat ybm (qai qah rfl (B.of rfl) boot_len (yaa (pv 0) qad)) (qb7 ybg (qai qah rfl (B.of rfl) boot_len (yaa (pv 1) qad)) qac) (yak _)) (qbt (qai (qc1 rfl) rfl qeq ydh (yaa (yb4 rfl (qa2 rfl) (M:=["name","part"]) (ix:=[none,none]) (ykt rfl qhb (yaa (pv 1) (yaa (qg5 sl_tup (pv 0) (qc6 qac) yhn) qad))) (λ_ _ _ _=>(qfw (K:=K) (n:=2) rfl rfl (qan (qa4 (i:=0) (show List.Nodup (["name","part"]:List Str) by decide +kernel) rfl (Or.inl rfl)) (qan (qa4 (i:=1) (show List.Nodup (["name","part"]:List Str) by decide +kernel) rfl (Or.inl rfl)) qbj)))) (λ_ _ _ _=>qcv) (λ_ _ _ _=>(yag qlx hr (yaa (pv 0) (yaa (pv 1) qad))))) qad))))))),?_⟩
  refine ⟨_,rfl,a,_,_,_,rfl,rfl,sqtO ha,yaf 0 rfl,aP,h.w,_,rfl,rfl,TP,ok.tab,λpn hpn=>?_⟩
  refine ⟨_,rfl,a,_,rfl,.inr (sqtO ha),_,rfl,pn,_,rfl,.inr (hpn _),_,_,rfl,rfl,rfl,_,rfl,iteD ?_ ?_⟩
  ·have:=ok.len
   congr 1
   unfold hV
   rw[length_cons,this]
   rfl
  refine ⟨_,rfl,_,rfl,_,rfl,a,_,rfl,sqtO ha,ql3 h,λq hq=>?_⟩
  rw[yjr]
  have s1:Same H (upd H q (.tup (h.c.map V.int++h.r))):=(smR H).upd hq
  have e1:=@qab H q (.tup (h.c.map V.int++h.r))
  revert s1 e1
  generalize upd H q _=H1
  intro s1 e1
  refine ⟨true,true,pn,q,_,_,rfl,hpn _,sqtO e1,λD hD=>?_⟩
  refine qhe (K:=K) (ok.len.symm) (λi H'=>Same H1 H'/\H' D=some (.lst ((List.replicate i true).map V.bl))) ⟨(smR H1).upd hD,qab⟩ ?_ ?_ ?_
  ·rintro i H2 ⟨s2,e2⟩
   exact ⟨hpn _,sqtO (s2 _ _ e1)⟩
  ·rintro H2 ⟨s2,e2⟩
   refine ⟨D,_,rfl,e2,?_⟩
   rw[show (List.replicate (qcf h.c.length ns).length true).all id=true by simp]
   exact k _ (s1.trans s2)
  ·rintro i x y p H2 hx hy ⟨s2,e2⟩ hp
   obtain ⟨nm,rfl,hpo⟩:=ok.partAt hx hy
   refine ⟨p,_,rfl,sqtO qab,rfl,?_⟩
   refine ⟨_,_,rfl,_,_,rfl,rfl,qa0.set (qa0.set (qa0.refl _) rfl) rfl,yes ?_⟩
   refine ⟨_,rfl,_,rfl,nm,y,rfl,hpo,λH3 s3=>?_⟩
   have s23:Same H2 H3:=((smR H2).upd hp).trans s3
   refine ⟨_,s23 _ _ e2,qa8 ?_,(s2.trans s23).at hD,?_⟩
   ·have h1:=(List.getElem?_eq_some_iff.mp hx).1
    have h2:=ok.cl
    have h3:=ok.rl
    simp[qcf]at h1 ⊢
    omega
   ·rw[qab,replicate_succ',map_append];rfl
theorem qlw{h:Hm}{i:Nat}(hi:h.c.length<=i):h.c.take (i+1)=h.c.take i:=by
 rw[take_of_length_le hi,take_of_length_le (by omega)]
def qcu:Sp:=λvs H Q _=>∃v h ns,vs=[v]/\HAt H v h/\okH h ns/\∀D H',Same H H'->H D=none->H' D=some (.lst (h.c.map V.int))->Q (.ref D) H'
abbrev qet:Stmt:=top 33
theorem qft:FnScope ["harm"] ["harm"] (yac qet):=fsc
theorem yjc(B:Bl mg)(qhb:mg "zip"=none){aP:Addr}(gP:mg "PARTS"=some (.ref aP))(TP:TabK K aP tabP)(F:FnAt K mg "cells_in" qet ["harm"]):Has P w K mg base 1 "cells_in" ["harm"] qcu:=by
 refine Has.of F qft (λvs H Q E h=>?_) (λ_ _ _ _ _ H vs Q E hr h=>?_)
 ·obtain ⟨v,h,ns,rfl,_⟩:=h
  rfl
 ·obtain ⟨v,h,ns,rfl,⟨a,rfl,ha⟩,ok,k⟩:=h
  have sc:=qft
  refine ⟨_,(qaf (yap (yb4 rfl (qa2 rfl) (M:=["name","part"]) (ix:=[none,none]) (ykt rfl qhb (yaa (qaq (ix_tab (D:=tabP)) (yfz (v:=.ref aP) rfl gP rfl) (qaq yal (pv 0) qac)) (yaa (qg5 sl_tup (pv 0) (qc6 qac) yhn) qad))) (λ_ _ _ _=>(qfw (K:=K) (n:=2) rfl rfl (qan (qa4 (i:=0) (show List.Nodup (["name","part"]:List Str) by decide +kernel) rfl (Or.inl rfl)) (qan (qa4 (i:=1) (show List.Nodup (["name","part"]:List Str) by decide +kernel) rfl (Or.inl rfl)) qbj)))) (λ_ _ _ _=>(qhm (qao ybm (pv 0) yan (yak _)))) (λ_ _ _ _=>(pv 1))))),?_⟩
  refine ⟨_,rfl,a,_,_,_,rfl,rfl,sqtO ha,yaf 0 rfl,aP,h.w,_,rfl,rfl,TP,ok.tab,λpn hpn=>?_⟩
  refine ⟨_,rfl,_,rfl,a,_,rfl,sqtO ha,ql3 h,λq hq=>?_⟩
  rw[yjr]
  have s1:Same H (upd H q (.tup (h.c.map V.int++h.r))):=(smR H).upd hq
  have e1:=@qab H q (.tup (h.c.map V.int++h.r))
  revert s1 e1
  generalize upd H q _=H1
  intro s1 e1
  refine ⟨true,true,pn,q,_,_,rfl,hpn _,sqtO e1,λD hD=>?_⟩
  refine qhe (K:=K) (ok.len.symm) (λi H'=>Same H1 H'/\H' D=some (.lst ((h.c.take i).map V.int))) ⟨(smR H1).upd hD,qab⟩ ?_ ?_ ?_
  ·rintro i H2 ⟨s2,e2⟩
   exact ⟨hpn _,sqtO (s2 _ _ e1)⟩
  ·rintro H2 ⟨s2,e2⟩
   rw[take_of_length_le (by simp[qcf])]at e2
   exact k D H2 (s1.trans s2) (s1.free hD) e2
  ·rintro i x y p H2 hx hy ⟨s2,e2⟩ hp
   have s3:Same H2 (upd H2 p (.tup [x,y])):=(smR H2).upd hp
   refine ⟨p,_,rfl,sqtO qab,rfl,?_⟩
   revert s3
   generalize upd H2 p _=H3
   intro s3
   refine ⟨_,_,rfl,_,_,rfl,rfl,qa0.set (qa0.set (qa0.refl _) rfl) rfl,?_⟩
   rcases ok.cellAt hx hy with ⟨rfl,c,hc,rfl⟩|⟨hge,hh⟩
   ·refine ⟨_,rfl,rfl,_,rfl,iteB (by decide +kernel) ?_⟩
    refine ⟨_,rfl,_,s3 _ _ e2,qa8 ?_,(s2.trans s3).at hD,?_⟩
    ·have:=ok.cl
     simp
     omega
    ·rw[qab,take_add_one,hc];simp
   ·have hxn:∃nm,x=.str nm/\nm≠"cell":=by
     rcases hh with ⟨rfl,_⟩|⟨rfl,_⟩
     ·exact ⟨_,rfl,by decide +kernel⟩
     ·exact ⟨_,rfl,by decide +kernel⟩
    obtain ⟨nm,rfl,hnm⟩:=hxn
    refine ⟨_,rfl,rfl,_,rfl,iteN (by simpa using hnm) ?_⟩
    refine ⟨s2.trans s3,?_⟩
    rw[qlw hge]
    exact s3 _ _ e2
theorem not_take{l:List Int}(h:l.Nodup){i:Nat}(hi:i<l.length):l[i]∉l.take i:=by
 intro hm
 obtain ⟨j,hj,e⟩:=getElem_of_mem hm
 rw[List.getElem_take]at e
 have hj':j<i:=by simp at hj;omega
 have:=(List.nodup_iff_pairwise_ne.mp h)
 exact (List.pairwise_iff_getElem.mp h j i (by omega) hi hj') e
theorem qhv{l:List Int}(h:l.Nodup):∀i,i<=l.length->ya0 (λi=>l.getD i 0) i=l.take i
 |0,_=>rfl
 |i+1,hi=>by
  show (if l.getD i 0∈ya0 (λi=>l.getD i 0) i then ya0 (λi=>l.getD i 0) i else ya0 (λi=>l.getD i 0) i++[l.getD i 0])=_
  rw[qhv h i (by omega)]
  have e:l.getD i 0=l[i]:=by rw[getD_eq_getElem?_getD,getElem?_eq_getElem (by omega)];rfl
  rw[e,if_neg (not_take h (by omega)),take_add_one,getElem?_eq_getElem (by omega)]
  rfl
theorem qi8{l:List Int}(h:l.Nodup):uniq l=l:=by
 unfold uniq
 rw[qhv h _ (le_refl _),take_length]
theorem HAt.same{H H':Hp}{v:V}{h:Hm}(s:Same H H')(x:HAt H v h):HAt H' v h:=by
 obtain ⟨a,rfl,ha⟩:=x
 exact ⟨a,rfl,s _ _ ha⟩
def qgq:Sp:=λvs H Q _=>∃v h ns,vs=[v]/\HAt H v h/\okH h ns/\∀H',Same H H'->Q (.bl true) H'
abbrev yf6:Stmt:=top 35
theorem qgr:FnScope ["thing","cells"] ["thing"] (yac yf6):=fsc
theorem yj3(B:Bl mg)(qcz:mg "set"=none)(ykh:Has P w K mg base 1 "has_word" ["thing"] qf0)(qi5:Has P w K mg base 4 "has_parts" ["thing"] ye4)(ycg:Has P w K mg base 1 "cells_in" ["harm"] qcu)(F:FnAt K mg "is_harm" yf6 ["thing"]):Has P w K mg base 5 "is_harm" ["thing"] qgq:=by
 refine Has.of F qgr (λvs H Q E h=>?_) (λ_ _ _ _ _ H vs Q E hr h=>?_)
 ·obtain ⟨v,h,ns,rfl,_⟩:=h
  rfl
 ·obtain ⟨v,h,ns,rfl,hv,ok,k⟩:=h
  have sc:=qgr
  refine ⟨_,(yai (qbh (PW.pt (pw_or (qc2 (qcl (yag ykh hr (yaa (pv 0) qad)))) (qjn (qc2 (qcl (yag qi5 hr (yaa (pv 0) qad)))))))
    (qaf (yap qfo))
    yaq)
   (yai (pst 1 sc.nd (yag ycg hr (yaa (pv 0) qad)))
   (qaf (yap (qat ybm (qai qf7 rfl (B.of rfl) boot_len (yaa (yc7 (qdc rfl) rfl qcz yci (yaa (pv 1) qad)) qad)) (qai qah rfl (B.of rfl) boot_len (yaa (pv 1) qad)) (yak _)))))),?_⟩
  refine ⟨_,rfl,v,h,ns,rfl,hv,ok,_,rfl,iteF ?_⟩
  refine ⟨_,rfl,v,h,ns,rfl,hv,ok,λH1 s1=>⟨_,rfl,iteF ?_⟩⟩
  refine ⟨_,rfl,v,h,ns,rfl,HAt.same s1 hv,ok,λD H2 s2 hD e2=>?_⟩
  refine ⟨_,rfl,D,h.c,rfl,e2,by have:=ok.cl;omega,λp hp=>?_⟩
  refine ⟨p,_,rfl,qab,?_⟩
  have s3:Same H2 (upd H2 p (SetO P w p (uniq h.c))):=(smR H2).upd hp
  refine ⟨_,rfl,D,_,rfl,.inl (sqlO (s3 _ _ e2)),rfl,?_⟩
  rw[qi8 ok.nd,length_map,decide_eq_true rfl]
  rw[qi8 ok.nd]at s3
  exact k _ ((s1.trans s2).trans s3)
theorem nodup_le{l:List Int}(h:l.Nodup):∀{S:List Int},(∀x∈l,x∈S)->l.length<=S.length:=by
 induction l with
 |nil=>intro S _;exact zero_le _
 |cons x l ih=>
  intro S hs
  have hx:=hs x (by simp)
  have hn:=nodup_cons.mp h
  have:=ih hn.2 (S:=S.erase x) (λy hy=>(List.mem_erase_of_ne (λz=>by subst z;exact hn.1 hy)).mpr (hs y (by simp[hy])))
  rw[List.length_erase_of_mem hx]at this
  have:=List.length_pos_of_mem hx
  simp
  omega
def allC(hs:List Hm):List Int:=hs.flatMap Hm.c
structure okHs(hs:List Hm)(S:List Int):Prop where
 len:hs.length<=3
 ok:∀h∈hs,∃ns,okH h ns
 sl:S.length<=3
 mem:∀h∈hs,∀c∈h.c,c∈S
structure HsV(H:Hp)(vs:List V)(hs:List Hm):Prop where
 len:vs.length=hs.length
 at_:∀(i:Nat) (v:V) (h:Hm),vs[i]?=some v->hs[i]?=some h->HAt H v h
theorem HsV.same{H H':Hp}{vs:List V}{hs:List Hm}(s:Same H H')(x:HsV H vs hs):HsV H' vs hs:=⟨x.len,λi v h a b=>HAt.same s (x.at_ i v h a b)⟩
theorem HsV.get{H:Hp}{vs:List V}{hs:List Hm}(x:HsV H vs hs){i:Nat}{v:V}(h:vs[i]?=some v):∃g,hs[i]?=some g/\HAt H v g:=by
 have hi:=(List.getElem?_eq_some_iff.mp h).1
 have e:hs[i]?=some (hs[i]'(by rw[<-x.len];exact hi)):=getElem?_eq_getElem _
 exact ⟨_,e,x.at_ i v _ h e⟩
theorem ycm{hs:List Hm}{i:Nat}{h:Hm}(e:hs[i]?=some h):allC (hs.take (i+1))=allC (hs.take i)++h.c:=by
 unfold allC
 rw[take_add_one,e]
 simp
theorem okHs.sub{hs:List Hm}{S:List Int}(o:okHs hs S){l:List Hm}(hl:∀h∈l,h∈hs):∀x∈allC l,x∈S:=by
 intro x hx
 unfold allC at hx
 obtain ⟨h,hh,hc⟩:=List.mem_flatMap.mp hx
 exact o.mem h (hl h hh) x hc
theorem okHs.few{hs:List Hm}{S:List Int}(o:okHs hs S){l:List Hm}(hl:∀h∈l,h∈hs):(uniq (allC l)).length<=3:=
 le_trans (nodup_le (ykl _) (λx hx=>o.sub hl x ((yhd _ x).mp hx))) o.sl
theorem allC_len{l:List Hm}(h:∀x∈l,x.c.length<=2):(allC l).length<=2*l.length:=by
 induction l with
 |nil=>simp[allC]
 |cons a l ih=>
  have h1:=h a (by simp)
  have h2:=ih (λx hx=>h x (by simp[hx]))
  unfold allC at *
  rw[flatMap_cons,length_append,length_cons]
  omega
theorem okHs.clen{hs:List Hm}{S:List Int}(o:okHs hs S){l:List Hm}(hl:∀h∈l,h∈hs):(allC l).length<=2*l.length:=
 allC_len λx hx=>by
  obtain ⟨ns,h⟩:=o.ok x (hl x hx)
  exact h.cl.2
theorem yby{c:Prop}[Decidable c]{A B:Prop}(hc:¬ c)(h:B):if decide c=true then A else B:=iteN (decide_eq_false hc) h
def ybe:Sp:=λvs H Q _=>∃L us hs S,vs=[.ref L]/\H L=some (.lst us)/\HsV H us hs/\okHs hs S/\∀H',Same H H'->Q .non H'
abbrev qb1:Stmt:=top 36
theorem qcw:FnScope ["thing","cells","number","harm"] ["thing"] (yac qb1):=fsc
theorem yfd(B:Bl mg)(qcz:mg "set"=none)(yh7:∃t,mg "MOST_HARMS"=some (.int 3 t))(qhc:∃t,mg "MOST_UNLIKE"=some (.int 3 t))(yku:Has P w K mg base 5 "is_harm" ["thing"] qgq)(ycg:Has P w K mg base 1 "cells_in" ["harm"] qcu)(F:FnAt K mg "look_at_harms" qb1 ["thing"]):Has P w K mg base 6 "look_at_harms" ["thing"] ybe:=by
 refine Has.of F qcw (λvs H Q E h=>?_) (λ_ _ _ _ _ H vs Q E hr h=>?_)
 ·obtain ⟨L,us,hs,S,rfl,_⟩:=h
  rfl
 ·obtain ⟨L,us,hs,S,rfl,hL,hv,ok,k⟩:=h
  have sc:=qcw
  refine ⟨_,(yai (qbh (PW.pt (pw_or (qc2 (qcl (qai ybi rfl (B.of rfl) boot_isinstance (yaa (pv 0) (yaa (yb3 (v:=.ty "list") rfl (B.of rfl) boot_list rfl) qad))))) (qjn (qao qis (qai qah rfl (B.of rfl) boot_len (yaa (pv 0) qad)) (yd1 yh7) (yak _)))))
    (qaf ya6)
    yaq)
   (yai (pst 1 sc.nd (ycw qad))
   (qaf (qb5 PassesOwn.never rfl (qdy rfl (B.of rfl) (yaa (pv 0) qad)) (ydo rfl (qan (pgn 2 sc.nd) (qan (pgn 3 sc.nd) qbj)))
    (yai (qbh (qc2 (qcl (yag yku hr (yaa (pv 3) qad))))
     (qaf ya6)
     yaq)
    (yai (qbk (yga PySem.F.plainAttrs_list PySem.F.slot_list_extend PySem.F.type_list_extend yin (pv 1) (yaa (yag ycg hr (yaa (pv 3) qad)) qad)))
    (qaf (qbh (qao qis (qai qf7 rfl (B.of rfl) boot_len (yaa (yc7 (qdc rfl) rfl qcz yci (yaa (pv 1) qad)) qad)) (yd1 qhc) (yak _))
     (qaf ya6)
     yaq)))))))),?_⟩
  refine ⟨_,rfl,_,_,_,_,rfl,.lst hL,rfl,_,rfl,iteF ?_⟩
  refine ⟨_,rfl,L,us,rfl,.inl (sqlO hL),_,_,rfl,rfl,_,rfl,yby (by have:=hv.len;have:=ok.len;omega) ?_⟩
  refine ⟨zero_le _,λp hp=>?_⟩
  have npL:L≠p:=yab hL hp
  refine ⟨_,rfl,L,us,rfl,sqlO (by rw[yae npL];exact hL),ycq (xs:=us) (λi σ H2=>∃(o2 o3:Option V),σ=[some (.ref L),some (.ref p),o2,o3]/\Same H H2/\H2 p=some (.lst ((allC (hs.take i)).map V.int)))
   ⟨none,none,rfl,(smR H).upd hp,qab⟩ (λi σ H2 _ ⟨_,_,_,h,_⟩=>sqlO (h _ _ hL)) ?_ ?_⟩
  ·rintro i x pp σ H2 hx ⟨o2,o3,rfl,s2,e2⟩ hpp
   obtain ⟨g,hg,hat⟩:=hv.get hx
   obtain ⟨ns,og⟩:=ok.ok g (mem_of_getElem? hg)
   have sP:Same H2 (upd H2 pp (.tup [.int i,x])):=(smR H2).upd hpp
   refine ⟨pp,_,rfl,sqtO qab,rfl,_,_,rfl,_,_,rfl,rfl,?_⟩
   refine ⟨_,rfl,x,g,ns,rfl,HAt.same (s2.trans sP) hat,og,λH3 s3=>⟨_,rfl,iteF ?_⟩⟩
   have s23:Same H2 H3:=sP.trans s3
   refine ⟨_,rfl,.inl ⟨rfl,_,sqlO (s23 _ _ e2)⟩,?_⟩
   refine ⟨_,rfl,x,g,ns,rfl,HAt.same (s2.trans s23) hat,og,λD H4 s4 hD eD=>?_⟩
   have s24:=s23.trans s4
   have hsub:∀h∈hs.take (i+1),h∈hs:=λh hh=>mem_of_mem_take hh
   have hlt:(allC (hs.take (i+1))).length<=6:=by
    have h1:=ok.clen hsub
    have h2:=ok.len
    rw[length_take]at h1
    omega
   refine ⟨p,D,_,_,rfl,rfl,s24 _ _ e2,eD,?_,?_⟩
   ·rw[<-length_append,<-map_append,<-ycm hg,length_map]
    exact le_of_lt (qa8 (by omega))
   rw[<-map_append,<-ycm hg]
   have s5:Same H (upd H4 p (.lst ((allC (hs.take (i+1))).map V.int))):=(s2.trans s24).at hp
   have e5:=@qab H4 p (.lst ((allC (hs.take (i+1))).map V.int))
   revert s5 e5
   generalize upd H4 p _=H5
   intro s5 e5
   refine ⟨_,rfl,p,_,rfl,e5,by omega,λq hq=>?_⟩
   have s6:Same H5 (upd H5 q (SetO P w q (uniq (allC (hs.take (i+1)))))):=(smR H5).upd hq
   refine ⟨q,_,rfl,qab,_,_,rfl,rfl,_,rfl,yby (by have:=ok.few hsub;omega) ?_⟩
   exact ⟨_,_,rfl,s5.trans s6,s6 _ _ e5⟩
  ·rintro σ H2 ⟨o2,o3,rfl,s2,e2⟩
   exact k _ s2
def qf5:Sp:=λvs H Q _=>∃L us hs S,vs=[.ref L]/\H L=some (.lst us)/\HsV H us hs/\okHs hs S/\∀(D:Addr) (ns:List Int) (H':Hp),Same H H'->H D=none->H' D=some (.lst (ns.map V.int))->ns.Perm (uniq (allC hs))->ns.Pairwise (·<=·)->Q (.ref D) H'
abbrev qer:Stmt:=top 37
theorem ygb:FnScope ["harms","cells","harm"] ["harms"] (yac qer):=fsc
theorem qi7(B:Bl mg)(qcz:mg "set"=none)(qa9:Has P w K mg base 6 "look_at_harms" ["thing"] ybe)(ycg:Has P w K mg base 1 "cells_in" ["harm"] qcu)(F:FnAt K mg "cells_of" qer ["harms"]):Has P w K mg base 7 "cells_of" ["harms"] qf5:=by
 refine Has.of F ygb (λvs H Q E h=>?_) (λ_ _ _ _ _ H vs Q E hr h=>?_)
 ·obtain ⟨L,us,hs,S,rfl,_⟩:=h
  rfl
 ·obtain ⟨L,us,hs,S,rfl,hL,hv,ok,k⟩:=h
  have sc:=ygb
  refine ⟨_,(yai (qbk (yag qa9 hr (yaa (pv 0) qad)))
   (yai (pst 1 sc.nd (ycw qad))
   (yai (qb5 PassesOwn.never rfl (ya8 (pv 0)) (pgn 2 sc.nd)
    (qaf (qbk (yga PySem.F.plainAttrs_list PySem.F.slot_list_extend PySem.F.type_list_extend yin (pv 1) (yaa (yag ycg hr (yaa (pv 2) qad)) qad)))))
   (qaf (yap (qai (qdb rfl) rfl (B.of rfl) yax (yaa (yc7 (qdc rfl) rfl qcz yci (yaa (pv 1) qad)) qad))))))),?_⟩
  refine ⟨_,rfl,L,us,hs,S,rfl,hL,hv,ok,λH1 s1=>?_⟩
  refine ⟨zero_le _,λp hp=>?_⟩
  have hp0:H p=none:=s1.free hp
  have npL:L≠p:=yab hL hp0
  refine ⟨_,rfl,L,rfl,⟨us,sqlO (by rw[yae npL];exact s1 _ _ hL)⟩,qa7 (xs:=us) (λi σ H2=>∃(o2:Option V),σ=[some (.ref L),some (.ref p),o2]/\Same H H2/\H2 p=some (.lst ((allC (hs.take i)).map V.int)))
   ⟨none,rfl,s1.upd hp,qab⟩ (λi σ H2 _ ⟨_,_,h,_⟩=>sqlO (h _ _ hL)) ?_ ?_⟩
  ·rintro i x σ H2 hx ⟨o2,rfl,s2,e2⟩
   obtain ⟨g,hg,hat⟩:=hv.get hx
   obtain ⟨ns,og⟩:=ok.ok g (mem_of_getElem? hg)
   refine ⟨_,rfl,.inl ⟨rfl,_,sqlO e2⟩,?_⟩
   refine ⟨_,rfl,x,g,ns,rfl,HAt.same s2 hat,og,λD H4 s4 hD eD=>?_⟩
   have hsub:∀h∈hs.take (i+1),h∈hs:=λh hh=>mem_of_mem_take hh
   have hlt:(allC (hs.take (i+1))).length<=6:=by
    have h1:=ok.clen hsub
    have h2:=ok.len
    rw[length_take]at h1
    omega
   refine ⟨p,D,_,_,rfl,rfl,s4 _ _ e2,eD,?_,?_⟩
   ·rw[<-length_append,<-map_append,<-ycm hg,length_map]
    exact le_of_lt (qa8 (by omega))
   rw[<-map_append,<-ycm hg]
   exact ⟨_,rfl,(s2.trans s4).at hp0,qab⟩
  ·rintro σ H2 ⟨o2,rfl,s2,e2⟩
   rw[hv.len,take_length]at e2
   have hc:=ok.clen (l:=hs) (λh hh=>hh)
   have h3:=ok.len
   refine ⟨_,rfl,p,_,rfl,e2,by omega,λq hq=>?_⟩
   have s6:Same H2 (upd H2 q (SetO P w q (uniq (allC hs)))):=(smR H2).upd hq
   refine ⟨q,_,rfl,qab,by have:=ok.few (l:=hs) (λh hh=>hh);omega,λl ns hl hpm hso=>?_⟩
   exact k l ns _ ((s2.trans s6).upd hl) ((s2.trans s6).free hl) qab hpm hso
def Hm.cell(h:Hm)(i:Nat):Int:=h.c.getD i 0
def Hm.bit(h:Hm)(i:Nat):Int:=match h.r.getD i .non with|.int v=>v|_=>0
theorem qg2{vs:List V}(h:Rest ["bit"] vs):∃b,vs=[.int (b2i b)]:=by
 cases h with
 |bit hb h=>
  cases h
  obtain ⟨b,rfl⟩:=hb
  exact ⟨b,rfl⟩
theorem qmh{vs:List V}(h:Rest ["bit","bit"] vs):∃b c,vs=[.int (b2i b),.int (b2i c)]:=by
 cases h with
 |bit hb h=>
  obtain ⟨b,rfl⟩:=hb
  obtain ⟨c,rfl⟩:=qg2 h
  exact ⟨b,c,rfl⟩
theorem rest_how{vs:List V}(h:Rest ["how"] vs):∃v,vs=[v]/\howV v:=by
 cases h with
 |how hb h=>
  cases h
  exact ⟨_,rfl,hb⟩
theorem map_str{ns ms:List Str}(h:ns.map V.str=ms.map V.str):ns=ms:=List.map_inj_right (λ_ _ e=>V.str.inj e) |>.mp h
theorem yb5{h:Hm}{ns:List Str}(o:okH h ns):(∃a,h.c=[a])\/∃a b,h.c=[a,b]:=by
 obtain ⟨h1,h2⟩:=o.cl
 match hc:h.c with
 |[]=>rw[hc]at h1;simp at h1
 |[a]=>exact .inl ⟨a,rfl⟩
 |[a,b]=>exact .inr ⟨a,b,rfl⟩
 |_::_::_::_=>rw[hc]at h2;simp at h2
theorem yjo{h:Hm}{ns N:List Str}(o:okH h ns)(hw:KTD.datumAt h.w tabP=some (N.map V.str)):List.replicate h.c.length ("cell" : Str)++ns=N:=by
 have e:=Option.some.inj (o.tab.symm.trans hw)
 unfold qcf at e
 apply map_str
 rw[<-e,map_append,map_replicate]
theorem yf2:("cell" : Str)≠"bit":=by decide +kernel
theorem qjc:("cell" : Str)≠"how":=by decide +kernel
theorem okH.s1{h:Hm}{ns:List Str}(o:okH h ns)(hw:KTD.datumAt h.w tabP=some ((["cell","bit"]:List Str).map V.str)):∃a b,h.c=[a]/\h.r=[.int (b2i b)]:=by
 have e:=yjo o hw
 have hr:=o.rest
 rcases yb5 o with ⟨a,hc⟩|⟨a,b,hc⟩
 ·rw[hc]at e
  obtain ⟨_,rfl⟩:=List.cons.inj e
  obtain ⟨b,hb⟩:=qg2 hr
  exact ⟨a,b,hc,hb⟩
 ·rw[hc]at e
  exact absurd (List.cons.inj (List.cons.inj e).2).1 yf2
theorem okH.c2{h:Hm}{ns N:List Str}(o:okH h ns)(hw:KTD.datumAt h.w tabP=some ((("cell" : Str)::("cell" : Str)::N:List Str).map V.str))(hN:∀n∈ns,n≠"cell"):∃a b,h.c=[a,b]/\ns=N:=by
 have e:=yjo o hw
 rcases yb5 o with ⟨a,hc⟩|⟨a,b,hc⟩
 ·rw[hc]at e
  have e2:=(List.cons.inj e).2
  exact absurd rfl (hN "cell" (by show ("cell" : Str)∈ns;rw[show ns=("cell" : Str)::N from e2];simp))
 ·rw[hc]at e
  exact ⟨a,b,hc,(List.cons.inj (List.cons.inj e).2).2⟩
theorem Rest.nocell{ns:List Str}{vs:List V}(h:Rest ns vs):∀n∈ns,n≠"cell":=by
 induction h with
 |nil=>intro n h;simp at h
 |bit _ _ ih=>
  intro n hn
  rcases mem_cons.mp hn with rfl|hn
  ·exact yf2.symm
  ·exact ih n hn
 |how _ _ ih=>
  intro n hn
  rcases mem_cons.mp hn with rfl|hn
  ·exact qjc.symm
  ·exact ih n hn
theorem okH.sTurns{h:Hm}{ns:List Str}(o:okH h ns)(hw:KTD.datumAt h.w tabP=some ((["cell","cell","bit"]:List Str).map V.str)):∃a b x,h.c=[a,b]/\h.r=[.int (b2i x)]:=by
 obtain ⟨a,b,hc,rfl⟩:=o.c2 hw o.rest.nocell
 obtain ⟨x,hx⟩:=qg2 o.rest
 exact ⟨a,b,x,hc,hx⟩
theorem okH.sSets{h:Hm}{ns:List Str}(o:okH h ns)(hw:KTD.datumAt h.w tabP=some ((["cell","cell","bit","bit"]:List Str).map V.str)):∃a b x y,h.c=[a,b]/\h.r=[.int (b2i x),.int (b2i y)]:=by
 obtain ⟨a,b,hc,rfl⟩:=o.c2 hw o.rest.nocell
 obtain ⟨x,y,hx⟩:=qmh o.rest
 exact ⟨a,b,x,y,hc,hx⟩
theorem okH.sOther{h:Hm}{ns:List Str}(o:okH h ns)(hw:KTD.datumAt h.w tabP=some ((["cell","cell"]:List Str).map V.str)):∃a b,h.c=[a,b]/\h.r=[]:=by
 obtain ⟨a,b,hc,rfl⟩:=o.c2 hw o.rest.nocell
 have:=o.rest
 cases hr:h.r with
 |nil=>exact ⟨a,b,hc,rfl⟩
 |cons v l=>rw[hr]at this;cases this
theorem okH.sBoth{h:Hm}{ns:List Str}(o:okH h ns)(hw:KTD.datumAt h.w tabP=some ((["cell","cell","how"]:List Str).map V.str)):∃a b v,h.c=[a,b]/\h.r=[v]/\howV v:=by
 obtain ⟨a,b,hc,rfl⟩:=o.c2 hw o.rest.nocell
 obtain ⟨v,hv,hw⟩:=rest_how o.rest
 exact ⟨a,b,v,hc,hv,hw⟩
theorem okH.at1{h:Hm}{ns:List Str}(o:okH h ns):(hV h)[1]?=some (.int (h.cell 0)):=by
 rcases yb5 o with ⟨a,hc⟩|⟨a,b,hc⟩<;>(unfold hV Hm.cell;rw[hc];rfl)
theorem qbr{s:Str}(h:s="stuck"\/s="slow"\/s="forgets"\/s="misreads"\/s="nowhere"):KTD.datumAt s tabP=some ((["cell","bit"]:List Str).map V.str):=by
 rcases h with rfl|rfl|rfl|rfl|rfl<;>decide +kernel
theorem qen:KTD.datumAt ("turns" : Str) tabP=some ((["cell","cell","bit"]:List Str).map V.str):=by decide +kernel
theorem qcc{s:Str}(h:s="sets"\/s="keeps"):KTD.datumAt s tabP=some ((["cell","cell","bit","bit"]:List Str).map V.str):=by
 rcases h with rfl|rfl<;>decide +kernel
theorem qed:KTD.datumAt ("other" : Str) tabP=some ((["cell","cell"]:List Str).map V.str):=by decide +kernel
theorem yem:KTD.datumAt ("both" : Str) tabP=some ((["cell","cell","how"]:List Str).map V.str):=by decide +kernel
def yeo(cell:Int)(h:Hm):Bool:=h.w == "stuck" && h.cell 0 == cell
def qeg(hs:List Hm)(cell:Int):Option Int:=(hs.find? (yeo cell)).map (λh=>h.bit 0)
def optI:Option Int->V
 |none=>.non
 |some b=>.int b
def putM(hs:List Hm)(cs:List Int)(cell bit:Int):List Int:=if (qeg hs cell).isNone then cs.set cell.toNat bit else cs
theorem qea{α:Type}{p:α->Bool}{l:List α}{i:Nat}{x:α}(h0:(l.take i).find? p=none)(hx:l[i]?=some x) :
  (p x=true->l.find? p=some x)/\(p x=false->(l.take (i+1)).find? p=none):=by
 constructor
 ·intro hp
  have hi:=(List.getElem?_eq_some_iff.mp hx).1
  have e:l=l.take i++x::l.drop (i+1):=by
   have:=List.getElem_cons_drop (as:=l) (i:=i) hi
   rw[(List.getElem?_eq_some_iff.mp hx).2]at this
   rw[this,List.take_append_drop]
  rw[e,List.find?_append,h0]
  simp[hp]
 ·intro hp
  rw[take_add_one,hx,List.find?_append,h0]
  simp[hp]
def Oks(hs:List Hm):Prop:=∀h∈hs,∃ns,okH h ns
def yc1:Sp:=λvs H Q _=>∃L us hs cell,vs=[.ref L,.int cell]/\H L=some (.lst us)/\HsV H us hs/\Oks hs/\Q (optI (qeg hs cell)) H
abbrev ydu:Stmt:=top 39
theorem ye3:FnScope ["harms","cell","harm"] ["harms","cell"] (yac ydu):=fsc
theorem yio(F:FnAt K mg "stuck_bit" ydu ["harms","cell"]):Has P w K mg base 1 "stuck_bit" ["harms","cell"] yc1:=by
 refine Has.of F ye3 (λvs H Q E h=>?_) (λ_ _ _ _ _ H vs Q E hr h=>?_)
 ·obtain ⟨L,us,hs,cell,rfl,_⟩:=h
  rfl
 ·obtain ⟨L,us,hs,cell,rfl,hL,hv,ok,k⟩:=h
  have sc:=ye3
  refine ⟨_,(yai (qb5 PassesOwn.never rfl (ya8 (pv 0)) (pgn 2 sc.nd)
    (qaf (qbh (PW.pt (ycv (qao ybm (qaq yal (pv 2) qac) yan (yak _)) (qcq (qao ybm (qaq yal (pv 2) qac) (pv 1) (yak _)))))
     (qaf (yap (qaq yal (pv 2) qac)))
     yaq)))
   (qaf (yap pe_non))),?_⟩
  refine ⟨_,rfl,L,rfl,⟨us,sqlO hL⟩,qa7 (xs:=us) (λi σ H2=>∃(o2:Option V),σ=[some (.ref L),some (.int cell),o2]/\H2=H/\(hs.take i).find? (yeo cell)=none)
   ⟨none,rfl,rfl,rfl⟩ (λi σ H2 _ ⟨_,_,h,_⟩=>by subst h;exact sqlO hL) ?_ ?_⟩
  ·rintro i x σ H2 hx ⟨o2,rfl,rfl,hn⟩
   obtain ⟨g,hg,a,rfl,ha⟩:=hv.get hx
   obtain ⟨ns,og⟩:=ok g (mem_of_getElem? hg)
   obtain ⟨f1,f2⟩:=qea hn hg
   refine ⟨_,rfl,a,_,_,_,rfl,rfl,sqtO ha,yaf 0 rfl,rfl,_,rfl,?_⟩
   by_cases hw:g.w="stuck"
   ·refine iteB (by rw[decide_eq_true_iff];exact congrArg V.str hw) ?_
    refine ⟨_,rfl,a,_,_,_,rfl,rfl,sqtO ha,yaf 1 og.at1,_,rfl,rfl,_,rfl,?_⟩
    by_cases hc:g.cell 0=cell
    ·refine iteB (by rw[decide_eq_true_iff];exact congrArg V.int hc) ?_
     obtain ⟨c,b,ec,er⟩:=og.s1 (qbr (.inl hw))
     refine ⟨_,rfl,a,_,_,_,rfl,rfl,sqtO ha,yaf 2 (show (hV g)[2]?=some (.int (g.bit 0)) by unfold hV Hm.bit;rw[ec,er];rfl),?_⟩
     have:=f1 (by unfold yeo;rw[hw,hc];simp)
     unfold qeg at k
     rw[this]at k
     exact k
    ·refine iteN (by rw[decide_eq_false_iff_not];intro z;exact hc (V.int.inj z)) ?_
     exact ⟨_,rfl,rfl,f2 (by unfold yeo;simp[hc])⟩
   ·refine iteN (by rw[decide_eq_false_iff_not];intro z;exact hw (V.str.inj z)) ?_
    exact ⟨_,rfl,rfl,f2 (by unfold yeo;simp[hw])⟩
  ·rintro σ H2 ⟨o2,rfl,rfl,hn⟩
   rw[hv.len,take_length]at hn
   unfold qeg at k
   rw[hn]at k
   exact k
def rd(cs:List Int)(c:Int):Int:=cs.getD c.toNat 0
theorem qhd{cs:List Int}{c:Int}(h0:0<=c)(h1:c<cs.length):atI (cs.map V.int) c=some (.int (rd cs c)):=by
 refine atI_int h0 ?_
 have:c.toNat<cs.length:=by omega
 unfold rd
 rw[getElem?_map,getD_eq_getElem?_getD,getElem?_eq_getElem this]
 rfl
theorem qmd{n:Nat}{c:Int}(h0:0<=c)(h1:c<n):ixN n c=some c.toNat:=by
 unfold ixN
 rw[if_pos h0,if_pos h1]
theorem HAt.upd{H:Hp}{C:Addr}{xs ys:List V}{v:V}{h:Hm}(x:HAt H v h)(hC:H C=some (.lst xs)):HAt (upd H C (.lst ys)) v h:=by
 obtain ⟨a,rfl,ha⟩:=x
 exact ⟨a,rfl,by rw[yae (λz=>by subst z;rw[hC]at ha;cases ha)];exact ha⟩
theorem HsV.upd{H:Hp}{C:Addr}{xs ys us:List V}{hs:List Hm}(x:HsV H us hs)(hC:H C=some (.lst xs)):HsV (L2.upd H C (.lst ys)) us hs:=⟨x.len,λi v h a b=>HAt.upd (x.at_ i v h a b) hC⟩
theorem upd_id{H:Hp}{C:Addr}{o:HO}(h:H C=some o):upd H C o=H:=by
 funext b
 by_cases e:b=C
 ·subst e;rw[qab,h]
 ·rw[yae e]
theorem map_set(cs:List Int)(i:Nat)(b:Int):(cs.map V.int).set i (.int b)=(cs.set i b).map V.int:=by rw[List.map_set]
theorem ycs(hs:List Hm)(cs:List Int)(c b:Int):(putM hs cs c b).length=cs.length:=by
 unfold putM
 split<;>simp
structure Mem(H:Hp)(L C:Addr)(us:List V)(hs:List Hm)(cs:List Int):Prop where
 ne:L≠C
 hl:H L=some (.lst us)
 hv:HsV H us hs
 ok:Oks hs
 hc:H C=some (.lst (cs.map V.int))
theorem Mem.upd{H:Hp}{L C:Addr}{us:List V}{hs:List Hm}{cs:List Int}(m:Mem H L C us hs cs)(ds:List Int):Mem (L2.upd H C (.lst (ds.map V.int))) L C us hs ds:=
 ⟨m.ne,by rw[yae m.ne];exact m.hl,m.hv.upd m.hc,m.ok,qab⟩
theorem Mem.same{H H':Hp}{L C:Addr}{us:List V}{hs:List Hm}{cs:List Int}(s:Same H H')(m:Mem H L C us hs cs):Mem H' L C us hs cs:=
 ⟨m.ne,s _ _ m.hl,m.hv.same s,m.ok,s _ _ m.hc⟩
def qh4:Sp:=λvs H Q _=>∃L C us hs cs cell bit,vs=[.ref L,.ref C,.int cell,.int bit]/\Mem H L C us hs cs/\0<=cell/\cell<cs.length/\Q .non (upd H C (.lst ((putM hs cs cell bit).map V.int)))
abbrev s_put:Stmt:=top 40
theorem sc_put:FnScope ["harms","cells","cell","bit"] ["harms","cells","cell","bit"] (yac s_put):=fsc
theorem ok_put(ydz:Has P w K mg base 1 "stuck_bit" ["harms","cell"] yc1)(F:FnAt K mg "put" s_put ["harms","cells","cell","bit"]):Has P w K mg base 2 "put" ["harms","cells","cell","bit"] qh4:=by
 refine Has.of F sc_put (λvs H Q E h=>?_) (λ_ _ _ _ _ H vs Q E hr h=>?_)
 ·obtain ⟨L,C,us,hs,cs,cell,bit,rfl,_⟩:=h
  rfl
 ·obtain ⟨L,C,us,hs,cs,cell,bit,rfl,m,h0,h1,k⟩:=h
  have sc:=sc_put
  refine ⟨_,(qaf (qbh (qe6 (pc_isN (yag ydz hr (yaa (pv 0) (yaa (pv 2) qad)))))
    (qaf (ylc (pv 3) (qk2 (pv 1) (pv 2) qhq)))
    yaq)),?_⟩
  refine ⟨_,rfl,_,rfl,L,us,hs,cell,rfl,m.hl,m.hv,m.ok,?_⟩
  unfold putM at k
  cases e:qeg hs cell with
  |none=>
   rw[e]at k
   refine ⟨_,rfl,iteT ?_⟩
   refine ⟨_,rfl,_,rfl,_,rfl,C,_,cell,_,rfl,rfl,m.hc,qmd h0 (by simpa using h1),?_⟩
   rw[map_set]
   exact k
  |some b=>
   rw[e]at k
   refine ⟨_,rfl,iteF ?_⟩
   rw[if_neg (by simp),upd_id m.hc]at k
   exact k
end
end Mh
namespace Mh
open PySem L2 PyProof.Rows Mx
def stkN(hs:List Hm)(cs:List Int):Nat->List Int
 |0=>cs
 |n+1=>match qeg hs n with|some b=>(stkN hs cs n).set n b|none=>stkN hs cs n
theorem yff(hs:List Hm)(cs:List Int):∀n,(stkN hs cs n).length=cs.length
 |0=>rfl
 |n+1=>by
  have ih:=yff hs cs n
  unfold stkN
  split<;>simp[ih]
def yd3(hs:List Hm)(cs:List Int)(h:Hm):List Int:=if h.w="keeps"/\rd cs (h.cell 0)=h.bit 0 then putM hs cs (h.cell 1) (h.bit 1) else cs
theorem yi5(hs:List Hm)(cs:List Int)(h:Hm):(yd3 hs cs h).length=cs.length:=by
 unfold yd3
 split
 ·exact ycs _ _ _ _
 ·rfl
def qha(hs:List Hm)(l:List Hm)(cs:List Int):List Int:=l.foldl (yd3 hs) cs
theorem qh0(hs:List Hm)(l:List Hm)(cs:List Int):(qha hs l cs).length=cs.length:=by
 induction l generalizing cs with
 |nil=>rfl
 |cons a l ih=>exact (ih _).trans (yi5 _ _ _)
theorem yei{α β:Type}(f:β->α->β)(b:β){l:List α}{i:Nat}{x:α}(h:l[i]?=some x):(l.take (i+1)).foldl f b=f ((l.take i).foldl f b) x:=by
 rw[take_add_one,h,List.foldl_append]
 rfl
def qdx(hs:List Hm)(cs:List Int):List Int:=qha hs hs (stkN hs cs cs.length)
theorem yje(hs:List Hm)(cs:List Int):(qdx hs cs).length=cs.length:=(qh0 _ _ _).trans (yff _ _ _)
def InR(hs:List Hm)(n:Nat):Prop:=∀h∈hs,∀c∈h.c,0<=c/\c<n
theorem InR.c0{hs:List Hm}{n:Nat}(r:InR hs n){h:Hm}(hh:h∈hs){ns:List Str}(o:okH h ns):0<=h.cell 0/\h.cell 0<n:=by
 refine r h hh _ ?_
 rcases yb5 o with ⟨a,hc⟩|⟨a,b,hc⟩<;>(unfold Hm.cell;rw[hc];simp)
theorem InR.c1{hs:List Hm}{n:Nat}(r:InR hs n){h:Hm}(hh:h∈hs){a b:Int}(hc:h.c=[a,b]):0<=h.cell 1/\h.cell 1<n:=by
 refine r h hh _ ?_
 unfold Hm.cell
 rw[hc]
 simp
theorem qjp{h:Hm}{a b:Int}{l:List V}(hc:h.c=[a,b])(hr:h.r=l):hV h=.str h.w :: .int (h.cell 0) :: .int (h.cell 1)::l:=by
 unfold hV Hm.cell
 rw[hc,hr]
 rfl
theorem dS{a b:Str}:decide (V.str a=V.str b)=decide (a=b):=by
 by_cases h:a=b
 ·subst h;simp
 ·rw[decide_eq_false h,decide_eq_false (λz=>h (V.str.inj z))]
theorem dI{a b:Int}:decide (V.int a=V.int b)=decide (a=b):=by
 by_cases h:a=b
 ·subst h;simp
 ·rw[decide_eq_false h,decide_eq_false (λz=>h (V.int.inj z))]
section
variable {P:Program}{w:World}{K:W.Frag}{mg:Str->Option Value}{base:Heap}
def yil:Sp:=λvs H Q _=>∃L C us hs cs,vs=[.ref L,.ref C]/\Mem H L C us hs cs/\InR hs cs.length/\cs.length<=64/\Q .non (upd H C (.lst ((qdx hs cs).map V.int)))
abbrev yhi:Stmt:=top 41
theorem qio:FnScope ["harms","cells","cell","bit","harm"] ["harms","cells"] (yac yhi):=fsc
theorem yme(B:Bl mg)(ydz:Has P w K mg base 1 "stuck_bit" ["harms","cell"] yc1)(yi7:Has P w K mg base 2 "put" ["harms","cells","cell","bit"] qh4)(F:FnAt K mg "settle" yhi ["harms","cells"]):Has P w K mg base 3 "settle" ["harms","cells"] yil:=by
 refine Has.of F qio (λvs H Q E h=>?_) (λ_ _ _ _ _ H vs Q E hr h=>?_)
 ·obtain ⟨L,C,us,hs,cs,rfl,_⟩:=h
  rfl
 ·obtain ⟨L,C,us,hs,cs,rfl,m,hi,hcl,k⟩:=h
  have sc:=qio
  refine ⟨_,(yai (qb5 PassesOwn.never rfl (qb0 rfl (B.of rfl) (yaa (qai qah rfl (B.of rfl) boot_len (yaa (pv 1) qad)) qad)) (pgn 2 sc.nd)
    (yai (pst 3 sc.nd (yag ydz hr (yaa (pv 0) (yaa (pv 2) qad))))
    (qaf (qbh (qe6 (pc_notN (pv 3)))
     (qaf (ylc (pv 3) (qk2 (pv 1) (pv 2) qhq)))
     yaq))))
   (qaf (qb5 PassesOwn.never rfl (ya8 (pv 0)) (pgn 4 sc.nd)
    (qaf (qbh (PW.pt (ycv (qao ybm (qaq yal (pv 4) qac) yan (yak _)) (qcq (qao ybm (qaq yaj (pv 1) (qaq yal (pv 4) qac)) (qaq yal (pv 4) qac) (yak _)))))
     (qaf (qbk (yag yi7 hr (ybt (pv 0) (ybt (pv 1) (yaa (qaq yal (pv 4) qac) (yaa (qaq yal (pv 4) qac) qad)))))))
     yaq))))),?_⟩
  refine ⟨_,rfl,C,_,rfl,.inl (sqlO m.hc),cs.length,(by rw[length_map]),(by omega),(by omega),ycj (n:=cs.length) (λi σ H2=>∃(o2 o3:Option V),σ=[some (.ref L),some (.ref C),o2,o3,none]/\H2=upd H C (.lst ((stkN hs cs i).map V.int)))
   ⟨none,none,rfl,(upd_id m.hc).symm⟩ ?_ ?_⟩
  ·rintro i σ H2 hlt ⟨o2,o3,rfl,rfl⟩
   have m2:=m.upd (stkN hs cs i)
   rw[zero_add]
   refine ⟨_,rfl,_,rfl,L,us,hs,i,rfl,m2.hl,m2.hv,m2.ok,?_⟩
   cases e:qeg hs i with
   |none=>
    refine ⟨_,rfl,_,rfl,iteF ?_⟩
    exact ⟨_,_,rfl,by rw[stkN,e]⟩
   |some b=>
    refine ⟨_,rfl,_,rfl,iteT ?_⟩
    refine ⟨_,rfl,_,rfl,_,rfl,C,_,i,_,rfl,rfl,m2.hc,qmd (by omega) (by rw[length_map,yff];omega),?_⟩
    refine ⟨_,_,rfl,?_⟩
    rw[show optI (some b)=V.int b from rfl,map_set,yks,stkN,e]
    rfl
  ·rintro σ H2 ⟨o2,o3,rfl,rfl⟩
   have m2:=m.upd (stkN hs cs cs.length)
   refine ⟨_,rfl,L,rfl,⟨us,sqlO m2.hl⟩,qa7 (xs:=us) (λi σ H2=>∃(o4:Option V),σ=[some (.ref L),some (.ref C),o2,o3,o4]/\H2=upd H C (.lst ((qha hs (hs.take i) (stkN hs cs cs.length)).map V.int)))
    ⟨none,rfl,rfl⟩ (λi σ H2 _ ⟨_,_,h⟩=>by subst h;exact sqlO (by rw[yae m.ne];exact m.hl)) ?_ ?_⟩
   ·rintro i x σ H2 hx ⟨o4,rfl,rfl⟩
    have hlen:=(qh0 hs (hs.take i) (stkN hs cs cs.length)).trans (yff hs cs cs.length)
    have m3:=m.upd (qha hs (hs.take i) (stkN hs cs cs.length))
    have step:∀g,hs[i]?=some g->qha hs (hs.take (i+1)) (stkN hs cs cs.length)=yd3 hs (qha hs (hs.take i) (stkN hs cs cs.length)) g:=λg hg=>yei _ _ hg
    revert hlen m3 step
    generalize qha hs (hs.take i) (stkN hs cs cs.length)=ds
    intro hlen m3 step
    obtain ⟨g,hg,a,rfl,ha⟩:=m3.hv.get hx
    have hgm:=mem_of_getElem? hg
    obtain ⟨ns,og⟩:=m.ok g hgm
    rw[step g hg]
    unfold yd3
    refine ⟨_,rfl,a,_,_,_,rfl,rfl,sqtO ha,yaf 0 rfl,rfl,_,rfl,?_⟩
    rw[dS]
    by_cases hw:g.w="keeps"
    ·refine iteB (decide_eq_true hw) ?_
     obtain ⟨c1,c2,x1,x2,ec,er⟩:=og.sSets (qcc (.inr hw))
     have hb0:g.bit 0=b2i x1:=by unfold Hm.bit;rw[er];rfl
     have hb1:g.bit 1=b2i x2:=by unfold Hm.bit;rw[er];rfl
     rw[<-hb0,<-hb1]at er
     have ht:=qjp ec er
     have c0:=hi.c0 hgm og
     have c1:=hi.c1 hgm ec
     rw[ht]at ha
     refine ⟨_,rfl,_,rfl,a,_,_,_,rfl,rfl,sqtO ha,yaf 1 rfl,C,_,_,_,rfl,rfl,sqlO m3.hc,qhd c0.1 (by omega),?_⟩
     refine ⟨_,rfl,a,_,_,_,rfl,rfl,sqtO ha,yaf 3 rfl,rfl,_,rfl,?_⟩
     rw[dI]
     by_cases hb:rd ds (g.cell 0)=g.bit 0
     ·refine iteB (decide_eq_true hb) ?_
      refine ⟨_,rfl,_,rfl,_,rfl,a,_,_,_,rfl,rfl,sqtO ha,yaf 2 rfl,_,rfl,a,_,_,_,rfl,rfl,sqtO ha,yaf 4 rfl,L,C,us,hs,ds,g.cell 1,g.bit 1,rfl,m3,c1.1,by omega,?_⟩
      rw[yks,if_pos ⟨hw,hb⟩]
      exact ⟨_,rfl,rfl⟩
     ·refine iteN (decide_eq_false hb) ?_
      rw[if_neg (λz=>hb z.2)]
      exact ⟨_,rfl,rfl⟩
    ·refine iteN (decide_eq_false hw) ?_
     rw[if_neg (λz=>hw z.1)]
     exact ⟨_,rfl,rfl⟩
   ·rintro σ H2 ⟨o4,rfl,rfl⟩
    rw[m.hv.len,take_length]
    exact k
structure UpC(H:Hp)(C:Addr)(ds:List Int)(H':Hp):Prop where
 st:∀b u,b≠C->H b=some u->H' b=some u
 at_:H' C=some (.lst (ds.map V.int))
theorem UpC.same{H H' H2:Hp}{C:Addr}{ds:List Int}(u:UpC H C ds H')(s:Same H' H2):UpC H C ds H2:=⟨λb o h e=>s _ _ (u.st b o h e),s _ _ u.at_⟩
theorem UpC.trans{H H' H2:Hp}{C:Addr}{ds es:List Int}(u:UpC H C ds H')(v:UpC H' C es H2):UpC H C es H2:=⟨λb o h e=>v.st b o h (u.st b o h e),v.at_⟩
theorem UpC.of{H H':Hp}{C:Addr}{cs:List Int}(s:Same H H')(h:H C=some (.lst (cs.map V.int))):UpC H C cs H':=⟨λb o _ e=>s _ _ e,s _ _ h⟩
theorem UpC.put{H:Hp}{C:Addr}{ds:List Int}:UpC H C ds (upd H C (.lst (ds.map V.int))):=⟨λb o h e=>by rw[yae h];exact e,qab⟩
theorem UpC.hat{H H':Hp}{C:Addr}{cs ds:List Int}{v:V}{h:Hm}(u:UpC H C ds H')(hc:H C=some (.lst (cs.map V.int)))(x:HAt H v h):HAt H' v h:=by
 obtain ⟨a,rfl,ha⟩:=x
 exact ⟨a,rfl,u.st a _ (λz=>by subst z;rw[hc]at ha;cases ha) ha⟩
theorem Mem.upC{H H':Hp}{L C:Addr}{us:List V}{hs:List Hm}{cs ds:List Int}(m:Mem H L C us hs cs)(u:UpC H C ds H'):Mem H' L C us hs ds:=
 ⟨m.ne,u.st _ _ m.ne m.hl,⟨m.hv.len,λi v h a b=>u.hat m.hc (m.hv.at_ i v h a b)⟩,m.ok,u.at_⟩
def qmk(a:Int)(h:Hm):Bool:=decide ((h.w="nowhere"\/h.w="other"\/h.w="both")/\h.cell 0=a)
def qb3(hs:List Hm)(a:Int):Option Hm:=hs.find? (qmk a)
def OpH(H:Hp)(v:V):Option Hm->Prop
 |none=>v=.non
 |some h=>HAt H v h
theorem eqS{a s:Str}:(eqV (.str a) (.str s)=true)=(s=a):=by
 show ((a == s)=true)=_
 rw[beq_iff_eq]
 exact propext eq_comm
theorem in3{s a b c:Str}:inV (.str s) [.str a,.str b,.str c]=decide (s=a\/s=b\/s=c):=by
 unfold inV
 rw[Bool.eq_iff_iff]
 simp[eqS]
theorem in2{s a b:Str}:inV (.str s) [.str a,.str b]=decide (s=a\/s=b):=by
 unfold inV
 rw[Bool.eq_iff_iff]
 simp[eqS]
def qbm:Sp:=λvs H Q _=>∃L us hs a,vs=[.ref L,.int a]/\H L=some (.lst us)/\HsV H us hs/\Oks hs/\∀v H',Same H H'->OpH H v (qb3 hs a)->Q v H'
abbrev qbp:Stmt:=top 42
theorem yca:FnScope ["harms","address","harm"] ["harms","address"] (yac qbp):=fsc
theorem yeh(F:FnAt K mg "harm_of_address" qbp ["harms","address"]):Has P w K mg base 1 "harm_of_address" ["harms","address"] qbm:=by
 refine Has.of F yca (λvs H Q E h=>?_) (λ_ _ _ _ _ H vs Q E hr h=>?_)
 ·obtain ⟨L,us,hs,a,rfl,_⟩:=h
  rfl
 ·obtain ⟨L,us,hs,ad,rfl,hL,hv,ok,k⟩:=h
  have sc:=yca
  refine ⟨_,(yai (qb5 PassesOwn.never rfl (ya8 (pv 0)) (pgn 2 sc.nd)
    (qaf (qbh (PW.pt (ycv (qao qbd (qaq yal (pv 2) qac) (yda (yaa yan (yaa yan (yaa yan qad)))) (by with_unfolding_all rfl)) (qcq (qao ybm (qaq yal (pv 2) qac) (pv 1) (yak _)))))
     (qaf (yap (pv 2)))
     yaq)))
   (qaf (yap pe_non))),?_⟩
  refine ⟨_,rfl,L,rfl,⟨us,sqlO hL⟩,qa7 (xs:=us) (λi σ H2=>∃(o2:Option V),σ=[some (.ref L),some (.int ad),o2]/\Same H H2/\(hs.take i).find? (qmk ad)=none)
   ⟨none,rfl,smR H,rfl⟩ (λi σ H2 _ ⟨_,_,h,_⟩=>sqlO (h _ _ hL)) ?_ ?_⟩
  ·rintro i x σ H2 hx ⟨o2,rfl,s2,hn⟩
   obtain ⟨g,hg,hat⟩:=hv.get hx
   obtain ⟨a,rfl,ha⟩:=id hat
   obtain ⟨ns,og⟩:=ok g (mem_of_getElem? hg)
   obtain ⟨f1,f2⟩:=qea hn hg
   have ha2:=s2 _ _ ha
   refine ⟨_,rfl,a,_,_,_,rfl,rfl,sqtO ha2,yaf 0 rfl,zl,λp hp=>⟨p,_,rfl,.inr (sqtO qab),rfl,rfl,_,rfl,?_⟩⟩
   rw[in3]
   have s3:Same H (upd H2 p (.tup [.str "nowhere",.str "other",.str "both"])):=s2.upd hp
   revert s3
   generalize upd H2 p _=H3
   intro s3
   by_cases hw:g.w="nowhere"\/g.w="other"\/g.w="both"
   ·refine iteD hw ?_
    refine ⟨_,rfl,a,_,_,_,rfl,rfl,sqtO (s3 _ _ ha),yaf 1 og.at1,_,rfl,rfl,_,rfl,?_⟩
    rw[dI]
    by_cases hc:g.cell 0=ad
    ·refine iteD hc ?_
     refine ⟨_,rfl,k _ _ s3 ?_⟩
     unfold qb3
     rw[f1 (decide_eq_true ⟨hw,hc⟩)]
     exact hat
    ·refine yby hc ?_
     exact ⟨_,rfl,s3,f2 (decide_eq_false (λz=>hc z.2))⟩
   ·refine yby hw ?_
    exact ⟨_,rfl,s3,f2 (decide_eq_false (λz=>hw z.1))⟩
  ·rintro σ H2 ⟨o2,rfl,s2,hn⟩
   rw[hv.len,take_length]at hn
   refine k _ _ s2 ?_
   unfold qb3
   rw[hn]
   rfl
def reach(o:Option Hm)(a:Int):List Int:=
 match o with
 |none=>[a]
 |some h=>if h.w="nowhere" then [] else if h.w="other" then [h.cell 1] else [a,h.cell 1]
theorem yck{hs:List Hm}{a:Int}{h:Hm}(e:qb3 hs a=some h):h∈hs/\(h.w="nowhere"\/h.w="other"\/h.w="both")/\h.cell 0=a:=
 ⟨List.mem_of_find?_eq_some e,of_decide_eq_true (List.find?_some (p:=qmk a) e)⟩
def ybw:Sp:=λvs H Q _=>∃v o a,vs=[v,.int a]/\OpH H v o/\(∀h,o=some h->(h.w="nowhere"\/h.w="other"\/h.w="both")/\∃ns,okH h ns)/\∀D H',Same H H'->H D=none->H' D=some (.lst ((reach o a).map V.int))->Q (.ref D) H'
abbrev qb6:Stmt:=top 43
theorem qcy:FnScope ["harm","address"] ["harm","address"] (yac qb6):=fsc
theorem yfc(F:FnAt K mg "reached_cells" qb6 ["harm","address"]):Has P w K mg base 1 "reached_cells" ["harm","address"] ybw:=by
 refine Has.of F qcy (λvs H Q E h=>?_) (λ_ _ _ _ _ H vs Q E hr h=>?_)
 ·obtain ⟨v,o,a,rfl,_⟩:=h
  rfl
 ·obtain ⟨v,o,ad,rfl,ho,hk,k⟩:=h
  have sc:=qcy
  refine ⟨_,(yai (qbh (qe6 (pc_isN (pv 0)))
    (qaf (yap (ycw (yaa (pv 1) qad))))
    yaq)
   (yai (qbh (qao ybm (qaq yal (pv 0) qac) yan (yak _))
    (qaf (yap (ycw qad)))
    yaq)
   (yai (qbh (qao ybm (qaq yal (pv 0) qac) yan (yak _))
    (qaf (yap (ycw (yaa (qaq yal (pv 0) qac) qad))))
    yaq)
   (qaf (yap (ycw (yaa (pv 1) (yaa (qaq yal (pv 0) qac) qad)))))))),?_⟩
  cases o with
  |none=>
   cases ho
   refine ⟨_,rfl,_,rfl,iteT ?_⟩
   refine ⟨_,rfl,zl,λp hp=>?_⟩
   exact k p _ ((smR H).upd hp) hp qab
  |some g=>
   obtain ⟨a,rfl,ha⟩:=ho
   obtain ⟨hw,ns,og⟩:=hk g rfl
   refine ⟨_,rfl,_,rfl,iteF ?_⟩
   refine ⟨_,rfl,a,_,_,_,rfl,rfl,sqtO ha,yaf 0 rfl,rfl,_,rfl,?_⟩
   rw[dS]
   by_cases h1:g.w="nowhere"
   ·refine iteD h1 ?_
    refine ⟨zero_le _,λp hp=>k p _ ((smR H).upd hp) hp ?_⟩
    rw[qab]
    unfold reach
    simp[h1]
   refine yby h1 ?_
   refine ⟨_,rfl,a,_,_,_,rfl,rfl,sqtO ha,yaf 0 rfl,rfl,_,rfl,?_⟩
   rw[dS]
   by_cases h2:g.w="other"
   ·refine iteD h2 ?_
    obtain ⟨c1,c2,ec,er⟩:=og.sOther (h2 ▸ qed)
    rw[qjp ec er]at ha
    refine ⟨_,rfl,a,_,_,_,rfl,rfl,sqtO ha,yaf 2 rfl,zl,λp hp=>k p _ ((smR H).upd hp) hp ?_⟩
    rw[qab]
    unfold reach
    dsimp only
    rw[if_neg h1,if_pos h2]
    rfl
   refine yby h2 ?_
   have h3:g.w="both":=by
    rcases hw with h|h|h
    ·exact absurd h h1
    ·exact absurd h h2
    ·exact h
   obtain ⟨c1,c2,v,ec,er,_⟩:=og.sBoth (h3 ▸ yem)
   rw[qjp ec er]at ha
   refine ⟨_,rfl,_,rfl,a,_,_,_,rfl,rfl,sqtO ha,yaf 2 rfl,zl,λp hp=>k p _ ((smR H).upd hp) hp ?_⟩
   rw[qab]
   unfold reach
   simp[h1,h2]
def isOdd(cell held:Int)(h:Hm):Bool:=decide ((h.w="forgets"\/h.w="misreads")/\h.cell 0=cell/\h.bit 0=held)
def ydl(hs:List Hm)(cs:List Int)(cell:Int):Int×List Int:=
 match hs.find? (isOdd cell (rd cs cell)) with
 |none=>(rd cs cell,cs)
 |some h=>(if h.w="forgets" then rd cs cell else rd (putM hs cs cell (1-rd cs cell)) cell,putM hs cs cell (1-rd cs cell))
theorem qkt(hs:List Hm)(cs:List Int)(c:Int):(ydl hs cs c).2.length=cs.length:=by
 unfold ydl
 split
 ·rfl
 ·exact ycs _ _ _ _
theorem yls{h:Hm}{a:Int}{b:Bool}(hc:h.c=[a])(hr:h.r=[.int (b2i b)]):hV h=[.str h.w,.int (h.cell 0),.int (h.bit 0)]:=by
 unfold hV Hm.cell Hm.bit
 rw[hc,hr]
 rfl
def qe4:Sp:=λvs H Q _=>∃L C us hs cs cell,vs=[.ref L,.ref C,.int cell]/\Mem H L C us hs cs/\0<=cell/\cell<cs.length/\∀H',UpC H C (ydl hs cs cell).2 H'->Q (.int (ydl hs cs cell).1) H'
abbrev ydx:Stmt:=top 44
theorem qe2:FnScope ["harms","cells","cell","held","harm"] ["harms","cells","cell"] (yac ydx):=fsc
theorem qhw(yi7:Has P w K mg base 2 "put" ["harms","cells","cell","bit"] qh4)(F:FnAt K mg "read_cell" ydx ["harms","cells","cell"]):Has P w K mg base 3 "read_cell" ["harms","cells","cell"] qe4:=by
 refine Has.of F qe2 (λvs H Q E h=>?_) (λ_ _ _ _ _ H vs Q E hr h=>?_)
 ·obtain ⟨L,C,us,hs,cs,cell,rfl,_⟩:=h
  rfl
 ·obtain ⟨L,C,us,hs,cs,cell,rfl,m,h0,h1,k⟩:=h
  have sc:=qe2
  refine ⟨_,(yai (pst 3 sc.nd (qaq yaj (pv 1) (pv 2)))
   (yai (qb5 PassesOwn.never rfl (ya8 (pv 0)) (pgn 4 sc.nd)
    (qaf (qbh (PW.pt (ycv (qao qbd (qaq yal (pv 4) qac) (yda (yaa yan (yaa yan qad))) (by with_unfolding_all rfl)) (ycv (qao ybm (qaq yal (pv 4) qac) (pv 2) (yak _)) (qcq (qao ybm (qaq yal (pv 4) qac) (pv 3) (yak _))))))
     (yai (qbk (yag yi7 hr (ybt (pv 0) (ybt (pv 1) (ybt (pv 2) (yaa (qb7 yhx qac (pv 3)) qad))))))
     (qaf (yap (qfg (qao ybm (qaq yal (pv 4) qac) yan (yak _)) (pv 3) (qaq yaj (pv 1) (pv 2))))))
     yaq)))
   (qaf (yap (pv 3))))),?_⟩
  refine ⟨_,rfl,_,rfl,C,_,_,_,rfl,rfl,sqlO m.hc,qhd h0 h1,?_⟩
  refine ⟨_,rfl,L,rfl,⟨us,sqlO m.hl⟩,qa7 (xs:=us) (λi σ H2=>∃(o2:Option V),σ=[some (.ref L),some (.ref C),some (.int cell),some (.int (rd cs cell)),o2]/\Same H H2/\(hs.take i).find? (isOdd cell (rd cs cell))=none)
   ⟨none,rfl,smR H,rfl⟩ (λi σ H2 _ ⟨_,_,h,_⟩=>sqlO (h _ _ m.hl)) ?_ ?_⟩
  ·rintro i x σ H2 hx ⟨o2,rfl,s2,hn⟩
   obtain ⟨g,hg,a,rfl,ha⟩:=m.hv.get hx
   obtain ⟨ns,og⟩:=m.ok g (mem_of_getElem? hg)
   obtain ⟨f1,f2⟩:=qea hn hg
   refine ⟨_,rfl,a,_,_,_,rfl,rfl,sqtO (s2 _ _ ha),yaf 0 rfl,zl,λp hp=>⟨p,_,rfl,.inr (sqtO qab),rfl,rfl,_,rfl,?_⟩⟩
   rw[in2]
   have s3:Same H (upd H2 p (.tup [.str "forgets",.str "misreads"])):=s2.upd hp
   revert s3
   generalize upd H2 p _=H3
   intro s3
   by_cases hw:g.w="forgets"\/g.w="misreads"
   ·refine iteD hw ?_
    obtain ⟨c,b,ec,er⟩:=og.s1 (qbr (by rcases hw with h|h<;>simp[h]))
    rw[yls ec er]at ha
    have ha3:=s3 _ _ ha
    refine ⟨_,rfl,a,_,_,_,rfl,rfl,sqtO ha3,yaf 1 rfl,_,rfl,rfl,_,rfl,?_⟩
    rw[dI]
    by_cases hc:g.cell 0=cell
    ·refine iteD hc ?_
     refine ⟨_,rfl,a,_,_,_,rfl,rfl,sqtO ha3,yaf 2 rfl,_,rfl,rfl,_,rfl,?_⟩
     rw[dI]
     by_cases hb:g.bit 0=rd cs cell
     ·refine iteD hb ?_
      have e:=f1 (decide_eq_true ⟨hw,hc,hb⟩)
      unfold ydl at k
      rw[e]at k
      have m3:=m.same s3
      refine ⟨_,rfl,_,rfl,_,rfl,_,rfl,_,_,rfl,rfl,L,C,us,hs,cs,cell,1-rd cs cell,rfl,m3,h0,h1,?_⟩
      have u3:UpC H3 C (putM hs cs cell (1-rd cs cell)) (upd H3 C (.lst ((putM hs cs cell (1-rd cs cell)).map V.int))):=UpC.put
      have ha4:upd H3 C (.lst ((putM hs cs cell (1-rd cs cell)).map V.int)) a=_:=u3.st a _ (λz=>by subst z;rw[m3.hc]at ha3;cases ha3) ha3
      have u4:=(UpC.of s3 m.hc).trans u3
      revert u3 u4 ha4
      generalize upd H3 C _=H4
      intro u3 ha4 u4
      refine ⟨_,rfl,a,_,_,_,rfl,rfl,sqtO ha4,yaf 0 rfl,rfl,_,rfl,?_⟩
      rw[dS]
      by_cases hf:g.w="forgets"
      ·refine iteD hf ?_
       have:=k H4 u4
       dsimp only at this
       rw[if_pos hf]at this
       exact ⟨_,rfl,this⟩
      ·refine yby hf ?_
       have:=k H4 u4
       dsimp only at this
       rw[if_neg hf]at this
       exact ⟨_,rfl,_,rfl,C,_,_,_,rfl,rfl,sqlO u4.at_,qhd h0 (by rw[ycs];exact h1),this⟩
     ·refine yby hb ?_
      exact ⟨_,rfl,s3,f2 (decide_eq_false (λz=>hb z.2.2))⟩
    ·refine yby hc ?_
     exact ⟨_,rfl,s3,f2 (decide_eq_false (λz=>hc z.2.1))⟩
   ·refine yby hw ?_
    exact ⟨_,rfl,s3,f2 (decide_eq_false (λz=>hw z.1))⟩
  ·rintro σ H2 ⟨o2,rfl,s2,hn⟩
   rw[m.hv.len,take_length]at hn
   unfold ydl at k
   rw[hn]at k
   exact ⟨_,rfl,k H2 (UpC.of s2 m.hc)⟩
end
def ybb(hs:List Hm):List Int->List Int->List Int×List Int
 |[],cs=>([],cs)
 |c::l,cs=>((ydl hs cs c).1::(ybb hs l (ydl hs cs c).2).1,(ybb hs l (ydl hs cs c).2).2)
theorem ygn(hs:List Hm):∀(l cs:List Int),(ybb hs l cs).2.length=cs.length
 |[],_=>rfl
 |c::l,cs=>(ygn hs l _).trans (qkt hs cs c)
theorem yet(hs:List Hm):∀(l cs:List Int),(ybb hs l cs).1.length=l.length
 |[],_=>rfl
 |c::l,cs=>congrArg (· + 1) (yet hs l _)
theorem qfy(hs:List Hm)(c:Int):∀(l cs:List Int),ybb hs (l++[c]) cs=((ybb hs l cs).1++[(ydl hs (ybb hs l cs).2 c).1],(ydl hs (ybb hs l cs).2 c).2)
 |[],cs=>rfl
 |d::l,cs=>by
  have ih:=qfy hs c l (ydl hs cs d).2
  show (_::(ybb hs (l++[c]) _).1,(ybb hs (l++[c]) _).2)=_
  rw[ih]
  rfl
def loI(a b:Int):Int:=if a<=b then a else b
def hiI(a b:Int):Int:=if a<=b then b else a
theorem lo_of{a b M:Int}(h:M∈[a,b])(h2:∀x∈[a,b],M<=x):M=loI a b:=by
 have h3:=h2 a (by simp)
 have h4:=h2 b (by simp)
 simp at h
 unfold loI
 split<;>omega
theorem hi_of{a b M:Int}(h:M∈[a,b])(h2:∀x∈[a,b],x<=M):M=hiI a b:=by
 have h3:=h2 a (by simp)
 have h4:=h2 b (by simp)
 simp at h
 unfold hiI
 split<;>omega
def isAnd(o:Option Hm):Prop:=∃h,o=some h/\h.r=[.str "and"]
open Classical in
noncomputable def qkp(o:Option Hm):List Int->Int
 |[]=>match o with|some h=>h.bit 0|none=>0
 |[b]=>b
 |b::c::_=>if isAnd o then loI b c else hiI b c
noncomputable def yec(hs:List Hm)(cs:List Int)(a:Int):Int×List Int:=
 (qkp (qb3 hs a) (ybb hs (reach (qb3 hs a) a) cs).1,(ybb hs (reach (qb3 hs a) a) cs).2)
theorem OpH.same{H H':Hp}(s:Same H H'){v:V}:∀{o:Option Hm},OpH H v o->OpH H' v o
 |none,h=>h
 |some _,h=>HAt.same s h
theorem UpC.new{H H':Hp}{C p:Addr}{ds:List Int}{o:HO}(u:UpC H C ds H')(hp:H p=none)(hne:C≠p):UpC H C ds (upd H' p o):=
 ⟨λb x h e=>by
  rw[yae (λz=>by subst z;rw[hp]at e;cases e)]
  exact u.st b x h e,by rw[yae hne];exact u.at_⟩
theorem yjt{hs:List Hm}{n:Nat}(r:InR hs n)(ok:Oks hs){a:Int}(h0:0<=a)(h1:a<n):∀c∈reach (qb3 hs a) a,0<=c/\c<n:=by
 intro c hc
 unfold reach at hc
 cases e:qb3 hs a with
 |none=>
  rw[e]at hc
  simp at hc
  subst hc
  exact ⟨h0,h1⟩
 |some h=>
  rw[e]at hc
  obtain ⟨hm,hw,_⟩:=yck e
  obtain ⟨ns,o⟩:=ok h hm
  dsimp only at hc
  by_cases w1:h.w="nowhere"
  ·rw[if_pos w1]at hc;simp at hc
  rw[if_neg w1]at hc
  by_cases w2:h.w="other"
  ·rw[if_pos w2]at hc
   obtain ⟨c1,c2,ec,_⟩:=o.sOther (w2 ▸ qed)
   simp at hc
   subst hc
   exact r.c1 hm ec
  ·rw[if_neg w2]at hc
   have h3:h.w="both":=by
    rcases hw with h|h|h
    ·exact absurd h w1
    ·exact absurd h w2
    ·exact h
   obtain ⟨c1,c2,v,ec,_⟩:=o.sBoth (h3 ▸ yem)
   simp at hc
   rcases hc with rfl|rfl
   ·exact ⟨h0,h1⟩
   ·exact r.c1 hm ec
theorem ql6{o:Option Hm}{a:Int}:(reach o a).length<=2:=by
 unfold reach
 split
 ·simp
 ·split
  ·simp
  ·split<;>simp
section
variable {P:Program}{w:World}{K:W.Frag}{mg:Str->Option Value}{base:Heap}
def qgo:Sp:=λvs H Q _=>∃L C us hs cs a,vs=[.ref L,.ref C,.int a]/\Mem H L C us hs cs/\InR hs cs.length/\0<=a/\a<cs.length/\∀H',UpC H C (yec hs cs a).2 H'->Q (.int (yec hs cs a).1) H'
abbrev qgc:Stmt:=top 45
theorem qgk:FnScope ["harms","cells","address","harm","bits","cell"] ["harms","cells","address"] (yac qgc):=fsc
theorem qj2(B:Bl mg)(ybo:Has P w K mg base 1 "harm_of_address" ["harms","address"] qbm)(yb1:Has P w K mg base 1 "reached_cells" ["harm","address"] ybw)(yi6:Has P w K mg base 3 "read_cell" ["harms","cells","cell"] qe4)(F:FnAt K mg "read_at" qgc ["harms","cells","address"]):Has P w K mg base 4 "read_at" ["harms","cells","address"] qgo:=by
 refine Has.of F qgk (λvs H Q E h=>?_) (λ_ _ _ _ _ H vs Q E hr h=>?_)
 ·obtain ⟨L,C,us,hs,cs,a,rfl,_⟩:=h
  rfl
 ·obtain ⟨L,C,us,hs,cs,ad,rfl,m,hi,h0,h1,k⟩:=h
  have sc:=qgk
  refine ⟨_,(yai (pst 3 sc.nd (yag ybo hr (yaa (pv 0) (yaa (pv 2) qad))))
   (yai (pst 4 sc.nd (ycw qad))
   (yai (qb5 PassesOwn.never rfl (ya8 (yag yb1 hr (yaa (pv 3) (yaa (pv 2) qad)))) (pgn 5 sc.nd)
    (qaf (qbk (yga PySem.F.plainAttrs_list PySem.F.slot_list_append PySem.F.type_list_append ya1 (pv 4) (yaa (yag yi6 hr (yaa (pv 0) (yaa (pv 1) (yaa (pv 5) qad)))) qad)))))
   (yai (qbh (qao ybm (qai qah rfl (B.of rfl) boot_len (yaa (pv 4) qad)) qac (yak _))
    (qaf (yap (qaq yal (pv 3) qac)))
    yaq)
   (yai (qbh (qao ybm (qai qah rfl (B.of rfl) boot_len (yaa (pv 4) qad)) qac (yak _))
    (qaf (yap (qaq yaj (pv 4) qac)))
    yaq)
   (qaf (yap (qfg (qao ybm (qaq yal (pv 3) qac) yan (yak _)) (qai (yk2 rfl) rfl (B.of rfl) boot_min (yaa (pv 4) qad)) (qai (ykx rfl) rfl (B.of rfl) boot_max (yaa (pv 4) qad)))))))))),?_⟩
  refine ⟨_,rfl,_,rfl,L,us,hs,ad,rfl,m.hl,m.hv,m.ok,λv H1 s1 hv=>?_⟩
  refine ⟨zero_le _,λp hp=>?_⟩
  have hp0:H p=none:=s1.free hp
  have nCp:C≠p:=yab m.hc hp0
  have s2:Same H (upd H1 p (.lst [])):=s1.upd hp
  have e2:=@qab H1 p (.lst [])
  revert s2 e2
  generalize upd H1 p _=H2
  intro s2 e2
  have kp:∀h,qb3 hs ad=some h->(h.w="nowhere"\/h.w="other"\/h.w="both")/\∃ns,okH h ns:=λh e=>⟨(yck e).2.1,m.ok h (yck e).1⟩
  refine ⟨_,rfl,_,rfl,v,qb3 hs ad,ad,rfl,hv.same s2,kp,λD H3 s3 hD eD=>?_⟩
  have hD0:H D=none:=s2.free hD
  have nCD:C≠D:=yab m.hc hD0
  have npD:p≠D:=yab e2 hD
  have hin:=yjt hi m.ok h0 h1
  have hrl:=ql6 (o:=qb3 hs ad) (a:=ad)
  unfold yec at k
  revert k hin hrl eD
  generalize hrc:reach (qb3 hs ad) ad=rc
  intro k eD hin hrl
  refine ⟨D,rfl,⟨_,sqlO eD⟩,qa7 (xs:=rc.map V.int) (λi σ H4=>∃(o5:Option V),σ=[some (.ref L),some (.ref C),some (.int ad),some v,some (.ref p),o5]/\UpC H C (ybb hs (rc.take i) cs).2 H4/\H4 p=some (.lst ((ybb hs (rc.take i) cs).1.map V.int))/\H4 D=some (.lst (rc.map V.int)))
   ⟨none,rfl,UpC.of (s2.trans s3) m.hc,s3 _ _ e2,eD⟩ (λi σ H4 _ ⟨_,_,_,_,h⟩=>sqlO h) ?_ ?_⟩
  ·rintro i x σ H4 hx ⟨o5,rfl,u4,e4,d4⟩
   obtain ⟨c,hc,rfl⟩:=qbv hx
   have hci:=hin c (mem_of_getElem? hc)
   have hil:=(List.getElem?_eq_some_iff.mp hc).1
   have m4:=m.upC u4
   refine ⟨_,rfl,.inl ⟨rfl,_,sqlO e4⟩,_,rfl,_,rfl,_,rfl,L,C,us,hs,_,c,rfl,m4,hci.1,by rw[ygn];exact hci.2,λH5 u5=>?_⟩
   refine ⟨p,_,_,rfl,rfl,u5.st p _ nCp.symm e4,qa8 (by rw[length_map,yet,length_take];omega),?_⟩
   have es:ybb hs (rc.take (i+1)) cs=((ybb hs (rc.take i) cs).1++[(ydl hs (ybb hs (rc.take i) cs).2 c).1],(ydl hs (ybb hs (rc.take i) cs).2 c).2):=by rw[take_add_one,hc];exact qfy hs c (rc.take i) cs
   refine ⟨_,rfl,?_,?_,?_⟩
   ·rw[es]
    exact (u4.trans u5).new hp0 nCp
   ·rw[es,qab];simp
   ·rw[yae npD.symm];exact u5.st D _ nCD.symm d4
  ·rintro σ H4 ⟨o5,rfl,u4,e4,d4⟩
   rw[length_map,take_length]at u4 e4
   have k:=k H4 u4
   have hfl:=yet hs rc cs
   revert k e4 hfl
   generalize (ybb hs rc cs).1=r1
   intro e4 k hfl
   have hO:OpH H4 v (qb3 hs ad):=by
    cases e:qb3 hs ad with
    |none=>rw[e]at hv;exact hv
    |some h=>rw[e]at hv;exact u4.hat m.hc hv
   refine ⟨_,rfl,p,_,rfl,.inl (sqlO e4),rfl,_,rfl,?_⟩
   rw[dI]
   match r1,k,e4,hfl with
   |[],k,e4,hfl=>
    refine iteD (by simp) ?_
    cases e:qb3 hs ad with
    |none=>rw[e]at hrc;subst hrc;simp[reach]at hfl
    |some h=>
     obtain ⟨hw,ns,oh⟩:=kp h e
     rw[e]at hO k hrc
     obtain ⟨a,rfl,ha⟩:=hO
     have hn:h.w="nowhere":=by
      by_cases w1:h.w="nowhere"
      ·exact w1
      unfold reach at hrc
      dsimp only at hrc
      rw[if_neg w1]at hrc
      by_cases w2:h.w="other"
      ·rw[if_pos w2]at hrc;subst hrc;simp at hfl
      ·rw[if_neg w2]at hrc;subst hrc;simp at hfl
     obtain ⟨c,b,ec,er⟩:=oh.s1 (qbr (by simp[hn]))
     rw[yls ec er]at ha
     exact ⟨_,rfl,a,_,_,_,rfl,rfl,sqtO ha,yaf 2 rfl,k⟩
   |[b],k,e4,hfl=>
    refine yby (by simp) ?_
    refine ⟨_,rfl,p,_,rfl,.inl (sqlO e4),rfl,_,rfl,?_⟩
    rw[dI]
    refine iteD (by simp) ?_
    exact ⟨_,rfl,p,_,_,_,rfl,rfl,sqlO e4,yaf 0 rfl,k⟩
   |[b,c],k,e4,hfl=>
    refine yby (by simp) ?_
    refine ⟨_,rfl,p,_,rfl,.inl (sqlO e4),rfl,_,rfl,?_⟩
    rw[dI]
    refine yby (by simp) ?_
    cases e:qb3 hs ad with
    |none=>rw[e]at hrc;subst hrc;simp[reach]at hfl
    |some h=>
     obtain ⟨hw,ns,oh⟩:=kp h e
     rw[e]at hO k hrc
     obtain ⟨a,rfl,ha⟩:=hO
     have hb:h.w="both":=by
      unfold reach at hrc
      dsimp only at hrc
      rcases hw with w|w|w
      ·rw[if_pos w]at hrc;subst hrc;simp at hfl
      ·by_cases w1:h.w="nowhere"
       ·rw[if_pos w1]at hrc;subst hrc;simp at hfl
       ·rw[if_neg w1,if_pos w]at hrc;subst hrc;simp at hfl
      ·exact w
     obtain ⟨c1,c2,u,ec,er,hu⟩:=oh.sBoth (hb ▸ yem)
     rw[qjp ec er]at ha
     refine ⟨_,rfl,a,_,_,_,rfl,rfl,sqtO ha,yaf 3 rfl,?_⟩
     rcases hu with rfl|rfl
     ·refine ⟨rfl,_,rfl,iteB (by decide +kernel) ?_⟩
      refine ⟨_,rfl,p,_,rfl,e4,by simp,λM h1 h2=>?_⟩
      rw[lo_of h1 h2]
      have:qkp (some h) [b,c]=loI b c:=by
       unfold qkp
       dsimp only
       exact if_pos ⟨h,rfl,er⟩
      rw[<-this]
      exact k
     ·refine ⟨rfl,_,rfl,iteN (by decide +kernel) ?_⟩
      refine ⟨_,rfl,p,_,rfl,e4,by simp,λM h1 h2=>?_⟩
      rw[hi_of h1 h2]
      have:qkp (some h) [b,c]=hiI b c:=by
       unfold qkp
       dsimp only
       refine if_neg ?_
       rintro ⟨h',e1,e2⟩
       cases e1
       rw[er]at e2
       have:=V.str.inj (List.cons.inj e2).1
       exact absurd this (by decide +kernel)
      rw[<-this]
      exact k
   |_::_::_::_,k,e4,hfl=>simp at hfl;omega
def isKept(cs:List Int)(cell:Int)(h:Hm):Bool:=decide (h.w="keeps"/\h.cell 1=cell/\rd cs (h.cell 0)=h.bit 0)
def ygd(hs:List Hm)(cs:List Int)(cell bit:Int):Int:=match hs.find? (isKept cs cell) with|some h=>h.bit 1|none=>bit
def yfm(hs:List Hm)(cell:Int)(cs:List Int)(h:Hm):List Int:=
 if (h.w="turns"\/h.w="sets"\/h.w="keeps")/\h.cell 0=cell/\h.bit 0=rd cs cell then putM hs cs (h.cell 1) (if h.w="turns" then 1-rd cs (h.cell 1) else h.bit 1) else cs
theorem yj6(hs:List Hm)(c:Int)(cs:List Int)(h:Hm):(yfm hs c cs h).length=cs.length:=by
 unfold yfm
 split
 ·exact ycs _ _ _ _
 ·rfl
def actN(hs l:List Hm)(cell:Int)(cs:List Int):List Int:=l.foldl (yfm hs cell) cs
theorem qj1(hs l:List Hm)(c:Int)(cs:List Int):(actN hs l c cs).length=cs.length:=by
 induction l generalizing cs with
 |nil=>rfl
 |cons a l ih=>exact (ih _).trans (yj6 _ _ _ _)
theorem qku{h:Hm}{a b:Int}{x y:Bool}(hc:h.c=[a,b])(hr:h.r=[.int (b2i x),.int (b2i y)]):hV h=[.str h.w,.int (h.cell 0),.int (h.cell 1),.int (h.bit 0),.int (h.bit 1)]:=by
 unfold hV Hm.cell Hm.bit
 rw[hc,hr]
 rfl
theorem three_at{h:Hm}{a b:Int}{x:Bool}(hc:h.c=[a,b])(hr:h.r=[.int (b2i x)]):hV h=[.str h.w,.int (h.cell 0),.int (h.cell 1),.int (h.bit 0)]:=by
 unfold hV Hm.cell Hm.bit
 rw[hc,hr]
 rfl
def qfk:Sp:=λvs H Q _=>∃L C us hs cs cell bit,vs=[.ref L,.ref C,.int cell,.int bit]/\Mem H L C us hs cs/\InR hs cs.length/\Q (.int (ygd hs cs cell bit)) H
abbrev yeu:Stmt:=top 47
theorem qf8:FnScope ["harms","cells","cell","bit","harm"] ["harms","cells","cell","bit"] (yac yeu):=fsc
theorem qjh(F:FnAt K mg "kept_bit" yeu ["harms","cells","cell","bit"]):Has P w K mg base 1 "kept_bit" ["harms","cells","cell","bit"] qfk:=by
 refine Has.of F qf8 (λvs H Q E h=>?_) (λ_ _ _ _ _ H vs Q E hr h=>?_)
 ·obtain ⟨L,C,us,hs,cs,cell,bit,rfl,_⟩:=h
  rfl
 ·obtain ⟨L,C,us,hs,cs,cell,bit,rfl,m,hi,k⟩:=h
  have sc:=qf8
  refine ⟨_,(yai (qb5 PassesOwn.never rfl (ya8 (pv 0)) (pgn 4 sc.nd)
    (qaf (qbh (PW.pt (ycv (qao ybm (qaq yal (pv 4) qac) yan (yak _)) (ycv (qao ybm (qaq yal (pv 4) qac) (pv 2) (yak _)) (qcq (qao ybm (qaq yaj (pv 1) (qaq yal (pv 4) qac)) (qaq yal (pv 4) qac) (yak _))))))
     (qaf (yap (qaq yal (pv 4) qac)))
     yaq)))
   (qaf (yap (pv 3)))),?_⟩
  refine ⟨_,rfl,L,rfl,⟨us,sqlO m.hl⟩,qa7 (xs:=us) (λi σ H2=>∃(o2:Option V),σ=[some (.ref L),some (.ref C),some (.int cell),some (.int bit),o2]/\H2=H/\(hs.take i).find? (isKept cs cell)=none)
   ⟨none,rfl,rfl,rfl⟩ (λi σ H2 _ ⟨_,_,h,_⟩=>by subst h;exact sqlO m.hl) ?_ ?_⟩
  ·rintro i x σ H2 hx ⟨o2,rfl,rfl,hn⟩
   obtain ⟨g,hg,a,rfl,ha⟩:=m.hv.get hx
   have hgm:=mem_of_getElem? hg
   obtain ⟨ns,og⟩:=m.ok g hgm
   obtain ⟨f1,f2⟩:=qea hn hg
   refine ⟨_,rfl,a,_,_,_,rfl,rfl,sqtO ha,yaf 0 rfl,rfl,_,rfl,?_⟩
   rw[dS]
   by_cases hw:g.w="keeps"
   ·refine iteD hw ?_
    obtain ⟨c1,c2,x1,x2,ec,er⟩:=og.sSets (qcc (.inr hw))
    rw[qku ec er]at ha
    have c0:=hi.c0 hgm og
    refine ⟨_,rfl,a,_,_,_,rfl,rfl,sqtO ha,yaf 2 rfl,_,rfl,rfl,_,rfl,?_⟩
    rw[dI]
    by_cases hc:g.cell 1=cell
    ·refine iteD hc ?_
     refine ⟨_,rfl,_,rfl,a,_,_,_,rfl,rfl,sqtO ha,yaf 1 rfl,C,_,_,_,rfl,rfl,sqlO m.hc,qhd c0.1 c0.2,?_⟩
     refine ⟨_,rfl,a,_,_,_,rfl,rfl,sqtO ha,yaf 3 rfl,rfl,_,rfl,?_⟩
     rw[dI]
     by_cases hb:rd cs (g.cell 0)=g.bit 0
     ·refine iteD hb ?_
      refine ⟨_,rfl,a,_,_,_,rfl,rfl,sqtO ha,yaf 4 rfl,?_⟩
      unfold ygd at k
      rw[f1 (decide_eq_true ⟨hw,hc,hb⟩)]at k
      exact k
     ·refine yby hb ?_
      exact ⟨_,rfl,rfl,f2 (decide_eq_false (λz=>hb z.2.2))⟩
    ·refine yby hc ?_
     exact ⟨_,rfl,rfl,f2 (decide_eq_false (λz=>hc z.2.1))⟩
   ·refine yby hw ?_
    exact ⟨_,rfl,rfl,f2 (decide_eq_false (λz=>hw z.1))⟩
  ·rintro σ H2 ⟨o2,rfl,rfl,hn⟩
   rw[m.hv.len,take_length]at hn
   unfold ygd at k
   rw[hn]at k
   exact ⟨_,rfl,k⟩
def ycy:Sp:=λvs H Q _=>∃L C us hs cs cell,vs=[.ref L,.ref C,.int cell]/\Mem H L C us hs cs/\InR hs cs.length/\0<=cell/\cell<cs.length/\∀H',UpC H C (actN hs hs cell cs) H'->Q .non H'
abbrev yb0:Stmt:=top 48
theorem ycx:FnScope ["harms","cells","cell","harm"] ["harms","cells","cell"] (yac yb0):=fsc
theorem yfb(yi7:Has P w K mg base 2 "put" ["harms","cells","cell","bit"] qh4)(F:FnAt K mg "act_on_others" yb0 ["harms","cells","cell"]):Has P w K mg base 3 "act_on_others" ["harms","cells","cell"] ycy:=by
 refine Has.of F ycx (λvs H Q E h=>?_) (λ_ _ _ _ _ H vs Q E hr h=>?_)
 ·obtain ⟨L,C,us,hs,cs,cell,rfl,_⟩:=h
  rfl
 ·obtain ⟨L,C,us,hs,cs,cell,rfl,m,hi,h0,h1,k⟩:=h
  have sc:=ycx
  refine ⟨_,(qaf (qb5 PassesOwn.never rfl (ya8 (pv 0)) (pgn 3 sc.nd)
    (qaf (qbh (PW.pt (ycv (qao qbd (qaq yal (pv 3) qac) (yda (yaa yan (yaa yan (yaa yan qad)))) (by with_unfolding_all rfl)) (ycv (qao ybm (qaq yal (pv 3) qac) (pv 2) (yak _)) (qcq (qao ybm (qaq yal (pv 3) qac) (qaq yaj (pv 1) (pv 2)) (yak _))))))
     (qaf (qbk (yag yi7 hr (ybt (pv 0) (ybt (pv 1) (yaa (qaq yal (pv 3) qac) (yaa (qfg (qao ybm (qaq yal (pv 3) qac) yan (yak _)) (qb7 yhx qac (qaq yaj (pv 1) (qaq yal (pv 3) qac))) (qaq yal (pv 3) qac)) qad)))))))
     yaq)))),?_⟩
  refine ⟨_,rfl,L,rfl,⟨us,sqlO m.hl⟩,qa7 (xs:=us) (λi σ H2=>∃(o2:Option V),σ=[some (.ref L),some (.ref C),some (.int cell),o2]/\UpC H C (actN hs (hs.take i) cell cs) H2)
   ⟨none,rfl,UpC.of (smR H) m.hc⟩ (λi σ H2 _ ⟨_,_,u⟩=>sqlO (u.st _ _ m.ne m.hl)) ?_ ?_⟩
  ·rintro i x σ H2 hx ⟨o2,rfl,u2⟩
   have m2:=m.upC u2
   have hlen:=qj1 hs (hs.take i) cell cs
   have step:∀g,hs[i]?=some g->actN hs (hs.take (i+1)) cell cs=yfm hs cell (actN hs (hs.take i) cell cs) g:=λg hg=>yei _ _ hg
   revert u2 m2 hlen step
   generalize actN hs (hs.take i) cell cs=ds
   intro u2 m2 hlen step
   obtain ⟨g,hg,a,rfl,ha⟩:=m2.hv.get hx
   have hgm:=mem_of_getElem? hg
   obtain ⟨ns,og⟩:=m.ok g hgm
   rw[step g hg]
   unfold yfm
   refine ⟨_,rfl,a,_,_,_,rfl,rfl,sqtO ha,yaf 0 rfl,zl,λp hp=>⟨p,_,rfl,.inr (sqtO qab),rfl,rfl,_,rfl,?_⟩⟩
   rw[in3]
   have s3:Same H2 (upd H2 p (.tup [.str "turns",.str "sets",.str "keeps"])):=(smR H2).upd hp
   revert s3
   generalize upd H2 p _=H3
   intro s3
   have u3:=u2.same s3
   have m3:=m2.same s3
   have ha3:=s3 _ _ ha
   by_cases hw:g.w="turns"\/g.w="sets"\/g.w="keeps"
   ·refine iteD hw ?_
    have two:∃a b l,g.c=[a,b]/\hV g=.str g.w :: .int (g.cell 0) :: .int (g.cell 1) :: .int (g.bit 0)::l/\(g.w≠"turns"->l=[.int (g.bit 1)]):=by
     rcases hw with hw|hw
     ·obtain ⟨a,b,x,ec,er⟩:=og.sTurns (hw ▸ qen)
      exact ⟨a,b,[],ec,three_at ec er,λz=>absurd hw z⟩
     ·obtain ⟨a,b,x,y,ec,er⟩:=og.sSets (qcc hw)
      exact ⟨a,b,_,ec,qku ec er,λ_=>rfl⟩
    obtain ⟨a1,b1,l,ec,ht,hl⟩:=two
    rw[ht]at ha3
    have c1:=hi.c1 hgm ec
    refine ⟨_,rfl,a,_,_,_,rfl,rfl,sqtO ha3,yaf 1 rfl,_,rfl,rfl,_,rfl,?_⟩
    rw[dI]
    by_cases hc:g.cell 0=cell
    ·refine iteD hc ?_
     refine ⟨_,rfl,a,_,_,_,rfl,rfl,sqtO ha3,yaf 3 rfl,_,rfl,_,rfl,C,_,_,_,rfl,rfl,sqlO m3.hc,qhd h0 (by omega),rfl,_,rfl,?_⟩
     rw[dI]
     by_cases hb:g.bit 0=rd ds cell
     ·refine iteD hb ?_
      rw[if_pos ⟨hw,hc,hb⟩]
      have fin:∀bit,(∃o2,[some (V.ref L),some (.ref C),some (.int cell),some (.ref a)]=[some (V.ref L),some (.ref C),some (.int cell),o2]/\UpC H C (putM hs ds (g.cell 1) bit) (upd H3 C (.lst ((putM hs ds (g.cell 1) bit).map V.int)))):=λbit=>⟨_,rfl,u3.trans UpC.put⟩
      refine ⟨_,rfl,_,rfl,_,rfl,a,_,_,_,rfl,rfl,sqtO ha3,yaf 2 rfl,_,rfl,a,_,_,_,rfl,rfl,sqtO ha3,yaf 0 rfl,rfl,_,rfl,?_⟩
      rw[dS]
      by_cases ht:g.w="turns"
      ·refine iteD ht ?_
       rw[if_pos ht]
       refine ⟨_,rfl,_,rfl,a,_,_,_,rfl,rfl,sqtO ha3,yaf 2 rfl,C,_,_,_,rfl,rfl,sqlO m3.hc,qhd c1.1 (by omega),_,_,rfl,rfl,L,C,us,hs,ds,g.cell 1,_,rfl,m3,c1.1,by omega,?_⟩
       exact fin _
      ·refine yby ht ?_
       rw[if_neg ht]
       rw[hl ht]at ha3
       refine ⟨_,rfl,a,_,_,_,rfl,rfl,sqtO ha3,yaf 4 rfl,L,C,us,hs,ds,g.cell 1,_,rfl,m3,c1.1,by omega,?_⟩
       exact fin _
     ·refine yby hb ?_
      rw[if_neg (λz=>hb z.2.2)]
      exact ⟨_,rfl,u3⟩
    ·refine yby hc ?_
     rw[if_neg (λz=>hc z.2.1)]
     exact ⟨_,rfl,u3⟩
   ·refine yby hw ?_
    rw[if_neg (λz=>hw z.1)]
    exact ⟨_,rfl,u3⟩
  ·rintro σ H2 ⟨o2,rfl,u2⟩
   rw[m.hv.len,take_length]at u2
   exact k H2 u2
theorem yh9{s:Str}{x:List V}:∀{D:List (Str×List V)},KTD.datumAt s D=some x->s∈D.map (·.1)
 |[],h=>by simp[KTD.datumAt]at h
 | (k,y)::D,h=>by
  unfold KTD.datumAt at h
  by_cases e:s=k
  ·subst e;simp
  ·simp[e]at h
   have:=yh9 h
   simp at this ⊢
   exact .inr this
theorem words_ok:∀s∈tabP.map (·.1),PyData.canLay0 (.str s)=true:=by decide +kernel
theorem Rest.fl{ns:List Str}{vs:List V}(h:Rest ns vs):Fl vs:=by
 induction h with
 |nil=>exact ⟨rfl,rfl⟩
 |bit hb _ ih=>
  obtain ⟨b,rfl⟩:=hb
  exact ⟨by rw[all_cons];exact ih.1,by simpa [PyData.canLayAll0,dOf,PyData.canLay0] using ih.2⟩
 |how hb _ ih=>
  have e:PyData.canLay0 (.str "and")=true/\PyData.canLay0 (.str "or")=true:=by decide +kernel
  rcases hb with rfl|rfl
  ·exact ⟨by rw[all_cons];exact ih.1,by simp only[map_cons,PyData.canLayAll0,dOf,e.1,Bool.true_and];exact ih.2⟩
  ·exact ⟨by rw[all_cons];exact ih.1,by simp only[map_cons,PyData.canLayAll0,dOf,e.2,Bool.true_and];exact ih.2⟩
theorem fl_ints(l:List Int){vs:List V}(h:Fl vs):Fl (l.map V.int++vs):=by
 induction l with
 |nil=>exact h
 |cons a l ih=>exact ⟨by show (V.int a::(l.map V.int++vs)).all qct=true;rw[all_cons];exact ih.1,by simpa [PyData.canLayAll0,dOf,PyData.canLay0] using ih.2⟩
theorem okH.fl{h:Hm}{ns:List Str}(o:okH h ns):Fl (hV h):=by
 have f:=fl_ints h.c o.rest.fl
 unfold hV
 refine ⟨by rw[all_cons];exact f.1,?_⟩
 simp only[map_cons,PyData.canLayAll0,dOf,words_ok _ (yh9 o.tab),Bool.true_and]
 exact f.2
def yjl(cell bit:Int)(h:Hm):Bool:=decide (h.w="slow"/\h.cell 0=cell/\h.bit 0=bit)
theorem slow_eq{h:Hm}{ns:List Str}(o:okH h ns)(cell bit:Int):PyData.eqvAll ((hV h).map dOf) (([.str "slow",.int cell,.int bit]:List V).map dOf)=yjl cell bit h:=by
 unfold yjl
 by_cases hw:h.w="slow"
 ·obtain ⟨a,b,ec,er⟩:=o.s1 (qbr (by simp[hw]))
  rw[yls ec er,hw,Bool.eq_iff_iff]
  simp[PyData.eqvAll,PyData.eqv,dOf]
 ·rw[decide_eq_false (λz=>hw z.1)]
  unfold hV
  simp[PyData.eqvAll,PyData.eqv,dOf,hw]
theorem HsV.any{H:Hp}{us:List V}{hs:List Hm}(x:HsV H us hs){f:V->Bool}{g:Hm->Bool}(e:∀h∈hs,∀v,HAt H v h->f v=g h):us.any f=hs.any g:=by
 rw[Bool.eq_iff_iff,any_eq_true,any_eq_true]
 constructor
 ·rintro ⟨v,hv,hf⟩
  obtain ⟨i,hi⟩:=getElem?_of_mem hv
  obtain ⟨h,hh,ha⟩:=x.get hi
  exact ⟨h,mem_of_getElem? hh,by rw[<-e h (mem_of_getElem? hh) v ha];exact hf⟩
 ·rintro ⟨h,hh,hg⟩
  obtain ⟨i,hi⟩:=getElem?_of_mem hh
  have hil:i<us.length:=by rw[x.len];exact (List.getElem?_eq_some_iff.mp hi).1
  have ha:=x.at_ i _ h (getElem?_eq_getElem hil) hi
  exact ⟨_,getElem_mem hil,by rw[e h hh _ ha];exact hg⟩
theorem HsV.tups{H:Hp}{us:List V}{hs:List Hm}(x:HsV H us hs)(ok:Oks hs):∀v∈us,∃a ys,v=.ref a/\H a=some (.tup ys)/\Fl ys:=by
 intro v hv
 obtain ⟨i,hi⟩:=getElem?_of_mem hv
 obtain ⟨h,hh,a,rfl,ha⟩:=x.get hi
 obtain ⟨ns,o⟩:=ok h (mem_of_getElem? hh)
 exact ⟨a,_,rfl,ha,o.fl⟩
theorem fl_slow(cell bit:Int):Fl [.str "slow",.int cell,.int bit]:=by
 have e:PyData.canLay0 (.str "slow")=true:=by decide +kernel
 exact ⟨rfl,by simp only[map_cons,map_nil,PyData.canLayAll0,dOf,e];rfl⟩
def yj9(hs:List Hm)(cs:List Int)(cell bit:Int):Bool:=decide (rd cs cell≠bit)&&hs.any (yjl cell bit)
def qgu:Sp:=λvs H Q _=>∃L C us hs cs cell bit,vs=[.ref L,.ref C,.int cell,.int bit]/\Mem H L C us hs cs/\0<=cell/\cell<cs.length/\∀H',Same H H'->Q (.bl (yj9 hs cs cell bit)) H'
abbrev yf9:Stmt:=top 46
theorem ygv:FnScope ["harms","cells","cell","bit"] ["harms","cells","cell","bit"] (yac yf9):=fsc
theorem ykj(F:FnAt K mg "is_slow" yf9 ["harms","cells","cell","bit"]):Has P w K mg base 1 "is_slow" ["harms","cells","cell","bit"] qgu:=by
 refine Has.of F ygv (λvs H Q E h=>?_) (λ_ _ _ _ _ H vs Q E hr h=>?_)
 ·obtain ⟨L,C,us,hs,cs,cell,bit,rfl,_⟩:=h
  rfl
 ·obtain ⟨L,C,us,hs,cs,cell,bit,rfl,m,h0,h1,k⟩:=h
  have sc:=ygv
  refine ⟨_,(qaf (yap (qa3 (qat op_ne (qaq yaj (pv 1) (pv 2)) (pv 3) (yak _)) (qbt (qat (op_inT hr) (yda (yaa yan (yaa (pv 2) (yaa (pv 3) qad)))) (pv 0) (by with_unfolding_all rfl)))))),?_⟩
  refine ⟨_,rfl,_,rfl,C,_,_,_,rfl,rfl,sqlO m.hc,qhd h0 h1,_,rfl,rfl,_,rfl,?_⟩
  rw[dI]
  unfold yj9 at k
  by_cases hb:rd cs cell=bit
  ·refine iteN (by simp[hb]) ?_
   have:=k H (smR H)
   simp[hb]at this
   exact this
  ·refine iteB (by simp[hb]) ?_
   refine ⟨_,rfl,_,rfl,zl,λp hp=>⟨_,rfl,?_⟩⟩
   have s2:Same H (upd H p (.tup [.str "slow",.int cell,.int bit])):=(smR H).upd hp
   have e2:=@qab H p (.tup [.str "slow",.int cell,.int bit])
   revert s2 e2
   generalize upd H p _=H2
   intro s2 e2
   have m2:=m.same s2
   refine ⟨p,_,L,us,rfl,e2,fl_slow _ _,rfl,m2.hl,m2.hv.tups m2.ok,?_⟩
   rw[m2.hv.any (g:=yjl cell bit) (λh hh v hv=>by
    obtain ⟨a,rfl,ha⟩:=hv
    obtain ⟨ns,o⟩:=m2.ok h hh
    unfold tEq
    dsimp only
    rw[ha]
    exact slow_eq o cell bit)]
   have:=k H2 s2
   simp[hb]at this
   exact this
def qf2(hs:List Hm)(cs:List Int)(cell bit:Int):List Int:=
 if yj9 hs cs cell bit=true then cs
 else if rd (putM hs cs cell (ygd hs cs cell bit)) cell=rd cs cell then putM hs cs cell (ygd hs cs cell bit)
 else actN hs hs cell (putM hs cs cell (ygd hs cs cell bit))
theorem qkn(hs:List Hm)(cs:List Int)(c b:Int):(qf2 hs cs c b).length=cs.length:=by
 unfold qf2
 split
 ·rfl
 ·split
  ·exact ycs _ _ _ _
  ·exact (qj1 _ _ _ _).trans (ycs _ _ _ _)
def yhh(hs:List Hm)(bit:Int)(l cs:List Int):List Int:=l.foldl (λcs c=>qf2 hs cs c bit) cs
theorem yfp(hs:List Hm)(b:Int)(l cs:List Int):(yhh hs b l cs).length=cs.length:=by
 induction l generalizing cs with
 |nil=>rfl
 |cons a l ih=>exact (ih _).trans (qkn _ _ _ _)
def yd4(hs:List Hm)(cs:List Int)(a bit:Int):List Int:=yhh hs bit (reach (qb3 hs a) a) cs
def yef:Sp:=λvs H Q _=>∃L C us hs cs cell bit,vs=[.ref L,.ref C,.int cell,.int bit]/\Mem H L C us hs cs/\InR hs cs.length/\0<=cell/\cell<cs.length/\∀H',UpC H C (qf2 hs cs cell bit) H'->Q .non H'
abbrev yc6:Stmt:=top 49
theorem qej:FnScope ["harms","cells","cell","bit","held"] ["harms","cells","cell","bit"] (yac yc6):=fsc
theorem yg7(ql8:Has P w K mg base 1 "is_slow" ["harms","cells","cell","bit"] qgu)(yi7:Has P w K mg base 2 "put" ["harms","cells","cell","bit"] qh4)(yj5:Has P w K mg base 1 "kept_bit" ["harms","cells","cell","bit"] qfk)(qfs:Has P w K mg base 3 "act_on_others" ["harms","cells","cell"] ycy)(F:FnAt K mg "write_cell" yc6 ["harms","cells","cell","bit"]):Has P w K mg base 4 "write_cell" ["harms","cells","cell","bit"] yef:=by
 refine Has.of F qej (λvs H Q E h=>?_) (λ_ _ _ _ _ H vs Q E hr h=>?_)
 ·obtain ⟨L,C,us,hs,cs,cell,bit,rfl,_⟩:=h
  rfl
 ·obtain ⟨L,C,us,hs,cs,cell,bit,rfl,m,hi,h0,h1,k⟩:=h
  have sc:=qej
  refine ⟨_,(yai (qbh (qcl (yag ql8 hr (ybt (pv 0) (ybt (pv 1) (ybt (pv 2) (ybt (pv 3) qad))))))
    (qaf ps_retN)
    yaq)
   (yai (pst 4 sc.nd (qaq yaj (pv 1) (pv 2)))
   (yai (qbk (yag yi7 hr (ybt (pv 0) (ybt (pv 1) (ybt (pv 2) (pa_cl (yag yj5 hr (ybt (pv 0) (ybt (pv 1) (ybt (pv 2) (ybt (pv 3) qad))))) qad))))))
   (qaf (qbh (qao op_ne (qaq yaj (pv 1) (pv 2)) (pv 4) (yak _))
    (qaf (qbk (yag qfs hr (yaa (pv 0) (yaa (pv 1) (yaa (pv 2) qad))))))
    yaq))))),?_⟩
  refine ⟨_,rfl,_,rfl,_,rfl,_,rfl,L,C,us,hs,cs,cell,bit,rfl,m,h0,h1,λH1 s1=>⟨_,rfl,?_⟩⟩
  unfold qf2 at k
  by_cases hsl:yj9 hs cs cell bit=true
  ·refine iteB hsl ?_
   rw[if_pos hsl]at k
   exact k H1 (UpC.of s1 m.hc)
  refine iteN (by simpa using hsl) ?_
  rw[if_neg hsl]at k
  have m1:=m.same s1
  refine ⟨_,rfl,_,rfl,C,_,_,_,rfl,rfl,sqlO m1.hc,qhd h0 h1,?_⟩
  refine ⟨_,rfl,_,rfl,_,rfl,_,rfl,_,rfl,_,rfl,_,rfl,L,C,us,hs,cs,cell,bit,rfl,m1,hi,?_⟩
  refine ⟨L,C,us,hs,cs,cell,_,rfl,m1,h0,h1,?_⟩
  have hl:=ycs hs cs cell (ygd hs cs cell bit)
  revert k hl
  generalize putM hs cs cell (ygd hs cs cell bit)=ds
  intro k hl
  have u2:UpC H1 C ds (upd H1 C (.lst (ds.map V.int))):=UpC.put
  revert u2
  generalize upd H1 C _=H2
  intro u2
  have u:UpC H C ds H2:=(UpC.of s1 m.hc).trans u2
  have m2:=m.upC u
  refine ⟨_,rfl,_,rfl,C,_,_,_,rfl,rfl,sqlO m2.hc,qhd h0 (by omega),_,rfl,rfl,_,rfl,?_⟩
  rw[dI]
  by_cases hb:rd ds cell=rd cs cell
  ·refine iteN (by simp[hb]) ?_
   rw[if_pos hb]at k
   exact k H2 u
  ·refine iteB (by simp[hb]) ?_
   rw[if_neg hb]at k
   refine ⟨_,rfl,_,rfl,_,rfl,L,C,us,hs,ds,cell,rfl,m2,by rw[hl];exact hi,h0,by omega,λH3 u3=>?_⟩
   exact k H3 (u.trans u3)
def yfy:Sp:=λvs H Q _=>∃L C us hs cs a bit,vs=[.ref L,.ref C,.int a,.int bit]/\Mem H L C us hs cs/\InR hs cs.length/\0<=a/\a<cs.length/\∀H',UpC H C (yd4 hs cs a bit) H'->Q .non H'
abbrev yex:Stmt:=top 50
theorem yfu:FnScope ["harms","cells","address","bit","cell"] ["harms","cells","address","bit"] (yac yex):=fsc
theorem qjb(ybo:Has P w K mg base 1 "harm_of_address" ["harms","address"] qbm)(yb1:Has P w K mg base 1 "reached_cells" ["harm","address"] ybw)(yii:Has P w K mg base 4 "write_cell" ["harms","cells","cell","bit"] yef)(F:FnAt K mg "write_at" yex ["harms","cells","address","bit"]):Has P w K mg base 5 "write_at" ["harms","cells","address","bit"] yfy:=by
 refine Has.of F yfu (λvs H Q E h=>?_) (λ_ _ _ _ _ H vs Q E hr h=>?_)
 ·obtain ⟨L,C,us,hs,cs,a,bit,rfl,_⟩:=h
  rfl
 ·obtain ⟨L,C,us,hs,cs,ad,bit,rfl,m,hi,h0,h1,k⟩:=h
  have sc:=yfu
  refine ⟨_,(qaf (qb5 PassesOwn.never rfl (ya8 (yag yb1 hr (yaa (yag ybo hr (yaa (pv 0) (yaa (pv 2) qad))) (yaa (pv 2) qad)))) (pgn 4 sc.nd)
    (qaf (qbk (yag yii hr (ybt (pv 0) (ybt (pv 1) (ybt (pv 4) (ybt (pv 3) qad))))))))),?_⟩
  refine ⟨_,rfl,_,rfl,L,us,hs,ad,rfl,m.hl,m.hv,m.ok,λv H1 s1 hv=>?_⟩
  have kp:∀h,qb3 hs ad=some h->(h.w="nowhere"\/h.w="other"\/h.w="both")/\∃ns,okH h ns:=λh e=>⟨(yck e).2.1,m.ok h (yck e).1⟩
  refine ⟨_,rfl,v,qb3 hs ad,ad,rfl,hv.same s1,kp,λD H3 s3 hD eD=>?_⟩
  have hD0:H D=none:=s1.free hD
  have nCD:C≠D:=yab m.hc hD0
  have hin:=yjt hi m.ok h0 h1
  unfold yd4 at k
  revert k hin eD
  generalize hrc:reach (qb3 hs ad) ad=rc
  intro k eD hin
  refine ⟨D,rfl,⟨_,sqlO eD⟩,qa7 (xs:=rc.map V.int) (λi σ H4=>∃(o5:Option V),σ=[some (.ref L),some (.ref C),some (.int ad),some (.int bit),o5]/\UpC H C (yhh hs bit (rc.take i) cs) H4/\H4 D=some (.lst (rc.map V.int)))
   ⟨none,rfl,UpC.of (s1.trans s3) m.hc,eD⟩ (λi σ H4 _ ⟨_,_,_,h⟩=>sqlO h) ?_ ?_⟩
  ·rintro i x σ H4 hx ⟨o5,rfl,u4,d4⟩
   obtain ⟨c,hc,rfl⟩:=qbv hx
   have hci:=hin c (mem_of_getElem? hc)
   have m4:=m.upC u4
   have hl:=yfp hs bit (rc.take i) cs
   refine ⟨_,rfl,_,rfl,_,rfl,_,rfl,L,C,us,hs,_,c,bit,rfl,m4,by rw[hl];exact hi,hci.1,by rw[hl];exact hci.2,λH5 u5=>?_⟩
   refine ⟨_,rfl,?_,u5.st D _ nCD.symm d4⟩
   unfold yhh
   rw[yei _ _ hc]
   exact u4.trans u5
  ·rintro σ H4 ⟨o5,rfl,u4,d4⟩
   rw[length_map,take_length]at u4
   exact k H4 u4
def bits(cs:List Int):Prop:=∀c∈cs,∃b,c=b2i b
def qgs:Sp:=λvs H Q _=>∃n:Int,vs=[.int n]/\1<=n/\n<=64/\Q (.bl true) H
abbrev qfm:Stmt:=top 53
theorem qgy:FnScope ["thing"] ["thing"] (yac qfm):=fsc
theorem yj7(qc8:∃t,mg "MOST_CELLS"=some (.int 64 t))(ya2:Has P w K mg base 1 "is_whole" ["thing"] ybf)(F:FnAt K mg "is_size" qfm ["thing"]):Has P w K mg base 2 "is_size" ["thing"] qgs:=by
 refine Has.of F qgy (λvs H Q E h=>?_) (λ_ _ _ _ _ H vs Q E hr h=>?_)
 ·obtain ⟨x,rfl,_⟩:=h
  rfl
 ·obtain ⟨x,rfl,h0,h1,k⟩:=h
  have sc:=qgy
  refine ⟨_,(qaf (yap (qa3 (yag ya2 hr (yaa (pv 0) qad)) (qa3 (qat qji (pv 0) qac (yak _)) (qbt (qat op_le (pv 0) (yd1 qc8) (yak _))))))),?_⟩
  refine ⟨_,rfl,x,rfl,_,rfl,iteT ?_⟩
  refine ⟨_,rfl,_,_,rfl,rfl,_,rfl,iteD (by omega) ?_⟩
  refine ⟨_,rfl,_,_,rfl,rfl,?_⟩
  show Q (.bl (decide (x<=64))) H
  rw[decide_eq_true h1]
  exact k
def qc4:Sp:=λvs H Q _=>∃C cs,vs=[.ref C,.int (cs.length:Nat)]/\H C=some (.lst (cs.map V.int))/\bits cs/\cs.length<=64/\∀H',Same H H'->Q (.bl true) H'
abbrev ycd:Stmt:=top 54
theorem ydf:FnScope ["thing","size"] ["thing","size"] (yac ycd):=fsc
theorem yfo(B:Bl mg)(qeq:mg "all"=none)(qco:Has P w K mg base 2 "is_bit" ["thing"] yc9)(F:FnAt K mg "are_contents" ycd ["thing","size"]):Has P w K mg base 3 "are_contents" ["thing","size"] qc4:=by
 refine Has.of F ydf (λvs H Q E h=>?_) (λ_ _ _ _ _ H vs Q E hr h=>?_)
 ·obtain ⟨C,cs,rfl,_⟩:=h
  rfl
 ·obtain ⟨C,cs,rfl,hC,hb,hl,k⟩:=h
  have sc:=ydf
  refine ⟨_,(qaf (yap (qa3 (qai ybi rfl (B.of rfl) boot_isinstance (yaa (pv 0) (yaa (yb3 (v:=.ty "list") rfl (B.of rfl) boot_list rfl) qad))) (qa3 (qat ybm (qai qah rfl (B.of rfl) boot_len (yaa (pv 0) qad)) (pv 1) (yak _)) (qbt (qai (qc1 rfl) rfl qeq ydh (yaa (yb4 rfl (qa2 rfl) (M:=["part"]) (ix:=[none]) (ya8 (pv 0)) (λ_ _ _ _=>(qa4 (i:=0) (show List.Nodup (["part"]:List Str) by decide +kernel) rfl (Or.inl rfl))) (λ_ _ _ _=>qcv) (λ_ _ _ _=>(yag qco hr (yaa (pv 0) qad)))) qad))))))),?_⟩
  refine ⟨_,rfl,_,_,_,_,rfl,.lst hC,rfl,_,rfl,iteT ?_⟩
  refine ⟨_,rfl,C,_,rfl,.inl (sqlO hC),_,rfl,rfl,_,rfl,iteD (by rw[length_map]) ?_⟩
  refine ⟨_,rfl,C,rfl,⟨_,sqlO hC⟩,λD hD=>qb4 (n:=cs.length) (λi H'=>Same H H'/\H' D=some (.lst ((List.replicate i true).map V.bl))) ⟨(smR H).upd hD,qab⟩ ?_ ?_⟩
  ·rintro H3 ⟨s3,e3⟩
   refine ⟨⟨_,sqlO (s3 _ _ hC),by simp⟩,?_⟩
   refine ⟨D,_,rfl,e3,?_⟩
   rw[show (List.replicate cs.length true).all id=true by simp]
   exact k _ s3
  ·rintro i H3 hi ⟨s3,e3⟩
   refine ⟨⟨_,_,sqlO (s3 _ _ hC),by rw[getElem?_map,getElem?_eq_getElem hi];rfl⟩,?_⟩
   rintro x H4 ⟨rfl,hx⟩
   obtain ⟨c,hc,rfl⟩:=qbv (hx _ (sqlO (s3 _ _ hC)))
   obtain ⟨b,rfl⟩:=hb c (mem_of_getElem? hc)
   refine ⟨qa0.set (qa0.refl _) rfl,yes ?_⟩
   refine ⟨_,rfl,b,rfl,λH5 s5=>?_⟩
   refine ⟨_,s5 _ _ e3,qa8 (by rw[length_map,length_replicate];omega),(s3.trans s5).at hD,?_⟩
   rw[qab,replicate_succ',map_append];rfl
def qcj:Sp:=λvs H Q _=>∃L us hs S C cs,vs=[.int (cs.length:Nat),.ref L,.ref C]/\H L=some (.lst us)/\HsV H us hs/\okHs hs S/\InR hs cs.length/\H C=some (.lst (cs.map V.int))/\bits cs/\1<=cs.length/\cs.length<=64/\∀H',Same H H'->Q .non H'
abbrev ybx:Stmt:=top 55
theorem ycl:FnScope ["size","harms","contents","cells"] ["size","harms","contents"] (yac ybx):=fsc
theorem yev(B:Bl mg)(yko:Has P w K mg base 7 "cells_of" ["harms"] qf5)(ylk:Has P w K mg base 2 "is_size" ["thing"] qgs)(yge:Has P w K mg base 3 "are_contents" ["thing","size"] qc4)(F:FnAt K mg "look_at_memory" ybx ["size","harms","contents"]):Has P w K mg base 8 "look_at_memory" ["size","harms","contents"] qcj:=by
 refine Has.of F ycl (λvs H Q E h=>?_) (λ_ _ _ _ _ H vs Q E hr h=>?_)
 ·obtain ⟨L,us,hs,S,C,cs,rfl,_⟩:=h
  rfl
 ·obtain ⟨L,us,hs,S,C,cs,rfl,hL,hv,ok,hi,hC,hb,hl1,hl2,k⟩:=h
  have sc:=ycl
  refine ⟨_,(yai (pst 3 sc.nd (yag yko hr (yaa (pv 1) qad)))
   (yai (qbh (qc2 (qcl (yag ylk hr (yaa (pv 0) qad))))
    (qaf ya6)
    yaq)
   (yai (qbh (PW.pt (ycv (qao qis (qai qah rfl (B.of rfl) boot_len (yaa (pv 3) qad)) qac (yak _)) (qcq (qao qji (qaq yaj (pv 3) (pe_un un_neg qac)) (pv 0) (yak _)))))
    (qaf ya6)
    yaq)
   (qaf (qbh (qc2 (qcl (yag yge hr (yaa (pv 2) (yaa (pv 0) qad)))))
    (qaf ya6)
    yaq))))),?_⟩
  refine ⟨_,rfl,L,us,hs,S,rfl,hL,hv,ok,λD ns H1 s1 hD eD hpm hso=>?_⟩
  refine ⟨_,rfl,_,rfl,by omega,by omega,_,rfl,iteF ?_⟩
  refine ⟨_,rfl,D,_,rfl,.inl (sqlO eD),_,_,rfl,rfl,_,rfl,?_⟩
  have fin:∀(b:Bool),b=true->if (!b)=true then False else True:=by intro b hb;subst hb;simp
  by_cases hn:0<ns.length
  ·refine iteD (by rw[length_map];omega) ?_
   obtain ⟨x,hx⟩:∃x,ns=ns.dropLast++[x]:=⟨ns.getLast (by intro z;rw[z]at hn;simp at hn),(List.dropLast_concat_getLast _).symm⟩
   have hxm:x∈allC hs:=(yhd _ x).mp (hpm.mem_iff.mp (by rw[hx];simp))
   have hx2:x<cs.length:=by
    unfold allC at hxm
    obtain ⟨h,hh,hc⟩:=List.mem_flatMap.mp hxm
    exact (hi h hh x hc).2
   refine ⟨_,rfl,_,rfl,D,_,_,_,rfl,rfl,sqlO eD,(show atI (ns.map V.int) (-1)=some (.int x) by rw[hx,map_append];exact atI_last _ _),_,rfl,_,_,rfl,rfl,_,rfl,yby (by omega) ?_⟩
   refine ⟨_,rfl,_,rfl,C,cs,rfl,s1 _ _ hC,hb,hl2,λH2 s2=>⟨_,rfl,iteF ?_⟩⟩
   exact k _ (s1.trans s2)
  ·refine yby (by rw[length_map];omega) ?_
   refine ⟨_,rfl,_,rfl,C,cs,rfl,s1 _ _ hC,hb,hl2,λH2 s2=>⟨_,rfl,iteF ?_⟩⟩
   exact k _ (s1.trans s2)
def Dig(ds zs:List Int):Prop:=ds.length=zs.length/\∀(i:Nat) d z,ds[i]?=some d->zs[i]?=some z->0<=d/\d<z
theorem Dig.get{ds zs:List Int}(h:Dig ds zs){i:Nat}{z:Int}(hz:zs[i]?=some z):∃d,ds[i]?=some d/\0<=d/\d<z:=by
 have hi:i<ds.length:=by rw[h.1];exact (List.getElem?_eq_some_iff.mp hz).1
 exact ⟨ds[i],by simp[hi],h.2 i _ z (by simp[hi]) hz⟩
theorem qls{ds:List Int}{i:Nat}{v:V}(h:(ds.map V.int)[i]?=some v):∃d,ds[i]?=some d/\v=.int d:=qbv h
theorem qby{ds:List Int}{i:Nat}{d:Int}(h:ds[i]?=some d):(ds.map V.int)[i]?=some (.int d):=by rw[getElem?_map,h];rfl
def qik:Sp:=λvs H Q _=>∃c t a zs,vs=[.int c,.int t,.ref a]/\H a=some (.lst (zs.map V.int))/\zs.length<=130/\(∀z∈zs,0<z/\z<=18446744073709551616)/\0<=t/\t<=1000000/\
 ∀p ds H',Same H H'->H p=none->H' p=some (.lst (ds.map V.int))->Dig ds zs->Q (.ref p) H'
abbrev qcp:Stmt:=top 79
theorem qdt:FnScope ["_law_cell","_law_turn","_law_sizes","_law_number","_law_wide","_law_seed","_law_found","_law_k","_law_size"] ["_law_cell","_law_turn","_law_sizes"] (yac qcp):=fsc
theorem ykq(B:Bl mg)(F:FnAt K mg "_law_digits" qcp ["_law_cell","_law_turn","_law_sizes"]):Has P w K mg base 1 "_law_digits" ["_law_cell","_law_turn","_law_sizes"] qik:=by
 refine Has.of F qdt (λvs H Q E h=>?_) (λ_ _ _ _ _ H vs Q E hr h=>?_)
 ·obtain ⟨c,t,a,zs,rfl,_⟩:=h
  rfl
 ·obtain ⟨c,t,a,zs,rfl,ha,hl,hz,ht0,ht1,k⟩:=h
  have sc:=qdt
  refine ⟨_,(yai (pst 3 sc.nd (qai call_abs rfl (B.of rfl) boot_abs (yaa (pv 0) qad)))
   (yai (pst 4 sc.nd (qat qji (pv 3) (qb7 qk7 qac qac) (yak _)))
   (yai (pst 5 sc.nd (qb7 ybg (qb7 qck (pv 3) qac) (qb7 qcb qac (pv 1))))
   (yai (pst 6 sc.nd (ycw qad))
   (yai (qb5 PassesOwn.never rfl (qdy rfl (B.of rfl) (yaa (pv 2) qad)) (ydo rfl (qan (pgn 7 sc.nd) (qan (pgn 8 sc.nd) qbj)))
    (qaf (qbh (PW.pt (ycv (qcl (pv 4)) (qcq (qao qis (pv 3) qac (yak _)))))
     (yai (qbk (yga PySem.F.plainAttrs_list PySem.F.slot_list_append PySem.F.type_list_append ya1 (pv 6) (yaa (qb7 qck (pv 3) (pv 8)) qad)))
     (qaf (pst 3 sc.nd (qb7 op_fdivB (pv 3) (pv 8)))))
     (yai (pst 5 sc.nd (qb7 qck (qb7 qk7 (qb7 ybg (pv 5) (qb7 qcb qac (qb7 ybg (pv 7) qac))) qac) qac))
     (qaf (qbk (yga PySem.F.plainAttrs_list PySem.F.slot_list_append PySem.F.type_list_append ya1 (pv 6) (yaa (qb7 qck (qb7 qg3 (pv 5) qac) (pv 8)) qad))))))))
   (qaf (yap (pv 6)))))))),?_⟩
  refine ⟨_,rfl,c,rfl,?_⟩
  refine ⟨_,rfl,10,18,rfl,rfl,⟨by decide,by decide,by decide⟩,_,_,rfl,rfl,?_⟩
  refine ⟨_,rfl,_,_,rfl,rfl,(by show (0:Int)<2147483647;decide),_,rfl,_,_,rfl,rfl,.inl ⟨by decide,by decide⟩,_,_,rfl,rfl,?_⟩
  refine ⟨zero_le _,λp hp=>?_⟩
  generalize hnum:(if c<0 then -c else c)=num
  generalize hwd:decide ((10:Int) ^ (18:Int).toNat<=num)=wd
  have hs0:0<=num % 2147483647+7919*t:=by have:=emod_nonneg num (show (2147483647:Int)≠0 by decide);omega
  have hs1:num % 2147483647+7919*t<2 ^ 40:=by have:=emod_lt_of_pos num (show (0:Int)<2147483647 by decide);omega
  refine ⟨_,rfl,a,_,rfl,sqlO (by rw[yae (yab ha hp)];exact ha),ycq (xs:=zs.map V.int) (λi σ H2=>∃(nu seed:Int) (ds:List Int) (q1 q2:Option V),σ=[some (.int c),some (.int t),some (.ref a),some (.int nu),some (.bl wd),some (.int seed),some (.ref p),q1,q2]/\
   Same H H2/\H2 p=some (.lst (ds.map V.int))/\ds.length=i/\(∀(j:Nat) d z,ds[j]?=some d->zs[j]?=some z->0<=d/\d<z)/\0<=seed/\seed<2 ^ 40) ?_ (λi σ H2 _ ⟨_,_,_,_,_,_,s2,_⟩=>sqlO (s2 _ _ ha)) ?_ ?_⟩
  ·exact ⟨num,_,[],none,none,by rw[<-hwd];rfl,(smR H).upd hp,qab,rfl,λj d z h=>by simp at h,hs0,hs1⟩
  ·rintro i x pp σ H2 hx ⟨nu,seed,ds,q1,q2,rfl,s2,hp2,hln,hds,hse0,hse1⟩ hpp
   obtain ⟨z,hzi,rfl⟩:=qls hx
   obtain ⟨hz0,hz1⟩:=hz z (mem_of_getElem? hzi)
   have hil:i<zs.length:=(List.getElem?_eq_some_iff.mp hzi).1
   have s3:Same H (upd H2 pp (.tup [.int i,.int z])):=s2.upd hpp
   have hp3:upd H2 pp (.tup [.int i,.int z]) p=some (.lst (ds.map V.int)):=by rw[yae (yab hp2 hpp)];exact hp2
   have fin:∀(d:Int),0<=d->d<z->∀(j:Nat) d' z',(ds++[d])[j]?=some d'->zs[j]?=some z'->0<=d'/\d' < z':=λd h0 h1 j d' z' hj hj2=>by
    by_cases hlt:j<ds.length
    ·rw[getElem?_append_left hlt]at hj
     exact hds j d' z' hj hj2
    ·rw[getElem?_append_right (by omega)]at hj
     have hj0:j-ds.length=0:=by
      cases q:j-ds.length with
      |zero=>rfl
      |succ n=>rw[q]at hj;simp at hj
     rw[hj0]at hj
     have e1:d=d':=by simpa using hj
     have e2:j=i:=by omega
     subst e1 e2
     rw[hzi]at hj2;cases hj2
     exact ⟨h0,h1⟩
   refine ⟨pp,_,rfl,sqtO qab,rfl,_,_,rfl,_,_,rfl,rfl,?_⟩
   refine ⟨_,rfl,wd,rfl,?_⟩
   cases wd with
   |true=>
    refine iteT ⟨_,rfl,_,_,rfl,rfl,_,rfl,?_⟩
    by_cases hn:0<nu
    ·refine iteD hn ?_
     refine ⟨_,rfl,.inl ⟨rfl,_,sqlO hp3⟩,_,rfl,_,rfl,_,_,rfl,rfl,hz0,p,_,_,rfl,rfl,hp3,qa8 (by rw[length_map];omega),?_⟩
     refine ⟨_,rfl,_,rfl,_,_,rfl,rfl,⟨hz0,hz1⟩,?_⟩
     exact ⟨_,seed,ds++[nu % z],_,_,rfl,s3.at hp,by rw[map_append];exact qab,by simp[hln],fin _ (emod_nonneg _ (by omega)) (emod_lt_of_pos _ hz0),hse0,hse1⟩
    ·refine iteN (decide_eq_false hn) ?_
     refine ⟨_,rfl,_,rfl,_,_,rfl,rfl,_,_,rfl,rfl,.inl ⟨by decide,by decide⟩,_,_,rfl,rfl,_,_,rfl,rfl,⟨by decide,by decide,by omega⟩,_,_,rfl,rfl,(by show (0:Int)<2147483587;decide),?_⟩
     have g0:=emod_nonneg ((seed+104729*((i:Int)+1)) ^ (2:Int).toNat) (show (2147483587:Int)≠0 by decide)
     have g1:=emod_lt_of_pos ((seed+104729*((i:Int)+1)) ^ (2:Int).toNat) (show (0:Int)<2147483587 by decide)
     generalize hse':(seed+104729*((i:Int)+1)) ^ (2:Int).toNat % 2147483587=seed' at g0 g1
     refine ⟨_,rfl,.inl ⟨rfl,_,sqlO hp3⟩,_,rfl,_,_,rfl,rfl,⟨by decide,by decide⟩,_,rfl,_,_,rfl,rfl,hz0,p,_,_,rfl,rfl,hp3,qa8 (by rw[length_map];omega),?_⟩
     exact ⟨nu,seed',ds++[seed' / 16 % z],_,_,by rw[<-hse'];rfl,s3.at hp,by rw[map_append,<-hse'];exact qab,by simp[hln],fin _ (emod_nonneg _ (by omega)) (emod_lt_of_pos _ hz0),g0,by omega⟩
   |false=>
    refine iteF (iteF ?_)
    refine ⟨_,rfl,_,rfl,_,_,rfl,rfl,_,_,rfl,rfl,.inl ⟨by decide,by decide⟩,_,_,rfl,rfl,_,_,rfl,rfl,⟨by decide,by decide,by omega⟩,_,_,rfl,rfl,(by show (0:Int)<2147483587;decide),?_⟩
    have g0:=emod_nonneg ((seed+104729*((i:Int)+1)) ^ (2:Int).toNat) (show (2147483587:Int)≠0 by decide)
    have g1:=emod_lt_of_pos ((seed+104729*((i:Int)+1)) ^ (2:Int).toNat) (show (0:Int)<2147483587 by decide)
    generalize hse':(seed+104729*((i:Int)+1)) ^ (2:Int).toNat % 2147483587=seed' at g0 g1
    refine ⟨_,rfl,.inl ⟨rfl,_,sqlO hp3⟩,_,rfl,_,_,rfl,rfl,⟨by decide,by decide⟩,_,rfl,_,_,rfl,rfl,hz0,p,_,_,rfl,rfl,hp3,qa8 (by rw[length_map];omega),?_⟩
    exact ⟨nu,seed',ds++[seed' / 16 % z],_,_,by rw[<-hse'];rfl,s3.at hp,by rw[map_append,<-hse'];exact qab,by simp[hln],fin _ (emod_nonneg _ (by omega)) (emod_lt_of_pos _ hz0),g0,by omega⟩
  ·rintro σ H2 ⟨nu,seed,ds,q1,q2,rfl,s2,hp2,hln,hds,_,_⟩
   rw[length_map]at hln
   exact ⟨_,rfl,k p ds H2 s2 hp hp2 ⟨hln,hds⟩⟩
end
def fsM(L Cc:Addr):List (Str×V):=[("harms",.ref L),("cells",.ref Cc)]
structure CM(K:W.Frag)(C:Addr):Prop where
 c:Cls K C
 nh:qdn K C "harms"
 nc:qdn K C "cells"
structure MemO(H:Hp)(C m L Cc:Addr)(us:List V)(hs:List Hm)(cs:List Int):Prop where
 o:∃dx,H m=some (.ins C dx (fsM L Cc))
 m:Mem H L Cc us hs cs
theorem lk_h{L Cc:Addr}:(fsM L Cc).lookup ("harms" : Str)=some (V.ref L):=by
 unfold fsM
 rw[lookup_cons,show (("harms" : Str) == "harms")=true by decide +kernel]
theorem lk_c{L Cc:Addr}:(fsM L Cc).lookup ("cells" : Str)=some (V.ref Cc):=by
 unfold fsM
 rw[lookup_cons,show (("cells" : Str) == "harms")=false by decide +kernel,lookup_cons,show (("cells" : Str) == "cells")=true by decide +kernel]
theorem lk_n{L Cc:Addr}{f:Str}(h1:(f == ("harms" : Str))=false:=by decide +kernel)(h2:(f == ("cells" : Str))=false:=by decide +kernel):(fsM L Cc).lookup f=none:=by
 unfold fsM
 rw[lookup_cons,h1,lookup_cons,h2]
 rfl
section
variable {P:Program}{w:World}{K:W.Frag}{mg:Str->Option Value}{base:Heap}{C:Addr}
def qc7(C:Addr):Sp:=λvs H Q _=>∃m L Cc us hs cs a,vs=[.ref m,.int a]/\MemO H C m L Cc us hs cs/\0<=a/\a<cs.length/\Q .non H
abbrev qak:Stmt:=yct (top 57) 1
theorem ybd:FnScope ["self","address"] ["self","address"] (yac qak):=fsc
theorem qml(B:Bl mg)(cm:CM K C)(ya2:Has P w K mg base 1 "is_whole" ["thing"] ybf)(F:ybh K C "look_at_address" "Memory.look_at_address" qak ["self","address"]):HasM P w K mg base C 2 "look_at_address" ["self","address"] (qc7 C):=by
 refine HasM.ofQ F ybd (λvs H Q E h=>?_) (λ_ _ _ _ _ H vs Q E hr h=>?_)
 ·obtain ⟨m,L,Cc,us,hs,cs,a,rfl,_⟩:=h
  rfl
 ·obtain ⟨m,L,Cc,us,hs,cs,a,rfl,⟨⟨dx,ho⟩,mm⟩,h0,h1,k⟩:=h
  have sc:=ybd
  refine ⟨_,(yam rfl (qag (qbc (QW.pt (yiz (qcx (ybq (qaj ya2 hr (yah (qaa (pv 1)) yad)))) (yiz (ya9 yi1 (qaa (pv 1)) (qaa qac) (yak _)) (ygj (ya9 qji (qaa (pv 1)) (qax qah rfl (B.of rfl) boot_len (qhu (qbn (qaa (pv 0)) rfl) yad)) (yak _))))))
    (qag (ygc ya6))
    ya3))),?_⟩
  refine ⟨_,rfl,a,rfl,_,rfl,iteN rfl ?_⟩
  refine ⟨_,rfl,_,_,rfl,rfl,_,rfl,yby (by omega) ?_⟩
  refine ⟨_,rfl,_,rfl,m,C,dx,_,_,rfl,ho,cm.c,cm.nc,lk_c,Cc,_,rfl,.inl (sqlO mm.hc),_,_,rfl,rfl,_,rfl,yby (by rw[length_map];omega) ?_⟩
  exact k
def qh7(C:Addr):Sp:=λvs H Q _=>∃m L Cc us hs cs a,vs=[.ref m,.int a]/\MemO H C m L Cc us hs cs/\InR hs cs.length/\0<=a/\a<cs.length/\∀H',UpC H Cc (yec hs cs a).2 H'->Q (.int (yec hs cs a).1) H'
abbrev qay:Stmt:=yct (top 57) 2
theorem ydq:FnScope ["self","address"] ["self","address"] (yac qay):=fsc
theorem yl7(cm:CM K C)(ybv:HasM P w K mg base C 2 "look_at_address" ["self","address"] (qc7 C))(yk1:Has P w K mg base 4 "read_at" ["harms","cells","address"] qgo)(F:ybh K C "read" "Memory.read" qay ["self","address"]):HasM P w K mg base C 5 "read" ["self","address"] (qh7 C):=by
 refine HasM.ofQ F ydq (λvs H Q E h=>?_) (λ_ _ _ _ _ H vs Q E hr h=>?_)
 ·obtain ⟨m,L,Cc,us,hs,cs,a,rfl,_⟩:=h
  rfl
 ·obtain ⟨m,L,Cc,us,hs,cs,a,rfl,mo,hi,h0,h1,k⟩:=h
  obtain ⟨⟨dx,ho⟩,mm⟩:=id mo
  have sc:=ydq
  refine ⟨_,(yam rfl (qae (qar (ybk cm.c ybv hr (qaa (pv 0)) (yah (qaa (pv 1)) yad)))
   (qag (qas (qaj yk1 hr (qhu (qbn (qaa (pv 0)) rfl) (qhu (qbn (qaa (pv 0)) rfl) (yah (qaa (pv 1)) yad)))))))),?_⟩
  refine ⟨_,rfl,m,dx,_,rfl,ho,lk_n,_,rfl,m,L,Cc,us,hs,cs,a,rfl,mo,h0,h1,?_⟩
  refine ⟨_,rfl,m,C,dx,_,_,rfl,ho,cm.c,cm.nh,lk_h,_,rfl,m,C,dx,_,_,rfl,ho,cm.c,cm.nc,lk_c,_,rfl,L,Cc,us,hs,cs,a,rfl,mm,hi,h0,h1,k⟩
def ycf:Sp:=λvs H Q _=>∃b,vs=[.int (b2i b)]/\∀H',Same H H'->Q .non H'
abbrev qcs:Stmt:=top 56
theorem qds:FnScope ["thing"] ["thing"] (yac qcs):=fsc
theorem qgg(qco:Has P w K mg base 2 "is_bit" ["thing"] yc9)(F:FnAt K mg "look_at_bit" qcs ["thing"]):Has P w K mg base 3 "look_at_bit" ["thing"] ycf:=by
 refine Has.ofQ F qds (λvs H Q E h=>?_) (λ_ _ _ _ _ H vs Q E hr h=>?_)
 ·obtain ⟨b,rfl,_⟩:=h
  rfl
 ·obtain ⟨b,rfl,k⟩:=h
  have sc:=qds
  refine ⟨_,(yam rfl (qag (qbc (qcx (ybq (qaj qco hr (yah (qaa (pv 0)) yad))))
    (qag (ygc ya6))
    ya3))),?_⟩
  exact ⟨_,rfl,b,rfl,λH' s'=>⟨_,rfl,iteN rfl (k H' s')⟩⟩
def ygm(C:Addr):Sp:=λvs H Q _=>∃m L Cc us hs cs a b,vs=[.ref m,.int a,.int (b2i b)]/\MemO H C m L Cc us hs cs/\InR hs cs.length/\0<=a/\a<cs.length/\∀H',UpC H Cc (yd4 hs cs a (b2i b)) H'->Q .non H'
abbrev qau:Stmt:=yct (top 57) 3
theorem yc3:FnScope ["self","address","bit"] ["self","address","bit"] (yac qau):=fsc
theorem qj7(cm:CM K C)(ybv:HasM P w K mg base C 2 "look_at_address" ["self","address"] (qc7 C))(ycr:Has P w K mg base 3 "look_at_bit" ["thing"] ycf)(qkk:Has P w K mg base 5 "write_at" ["harms","cells","address","bit"] yfy)(F:ybh K C "write" "Memory.write" qau ["self","address","bit"]):HasM P w K mg base C 6 "write" ["self","address","bit"] (ygm C):=by
 refine HasM.ofQ F yc3 (λvs H Q E h=>?_) (λ_ _ _ _ _ H vs Q E hr h=>?_)
 ·obtain ⟨m,L,Cc,us,hs,cs,a,b,rfl,_⟩:=h
  rfl
 ·obtain ⟨m,L,Cc,us,hs,cs,a,b,rfl,mo,hi,h0,h1,k⟩:=h
  obtain ⟨⟨dx,ho⟩,mm⟩:=id mo
  have sc:=yc3
  refine ⟨_,(yam rfl (qae (qar (ybk cm.c ybv hr (qaa (pv 0)) (yah (qaa (pv 1)) yad)))
   (qae (qar (qaj ycr hr (yah (qaa (pv 2)) yad)))
   (qag (qar (qaj qkk hr (qhu (qbn (qaa (pv 0)) rfl) (qhu (qbn (qaa (pv 0)) rfl) (yah (qaa (pv 1)) (yah (qaa (pv 2)) yad)))))))))),?_⟩
  refine ⟨_,rfl,m,dx,_,rfl,ho,lk_n,_,rfl,m,L,Cc,us,hs,cs,a,rfl,mo,h0,h1,?_⟩
  refine ⟨_,rfl,b,rfl,λH1 s1=>?_⟩
  have ho1:=s1 _ _ ho
  refine ⟨_,rfl,m,C,dx,_,_,rfl,ho1,cm.c,cm.nh,lk_h,_,rfl,m,C,dx,_,_,rfl,ho1,cm.c,cm.nc,lk_c,_,rfl,_,rfl,L,Cc,us,hs,cs,a,_,rfl,mm.same s1,hi,h0,h1,λH2 u2=>?_⟩
  exact k H2 ((UpC.of s1 mm.hc).trans u2)
def qig(C:Addr):Sp:=λvs H Q _=>∃m L Cc us hs cs,vs=[.ref m]/\MemO H C m L Cc us hs cs/\Q (.int (cs.length:Nat)) H
abbrev yaz:Stmt:=yct (top 57) 5
theorem ydn:FnScope ["self"] ["self"] (yac yaz):=fsc
theorem yk8(B:Bl mg)(cm:CM K C)(F:ybh K C "size" "Memory.size" yaz ["self"]):HasM P w K mg base C 1 "size" ["self"] (qig C):=by
 refine HasM.ofQ F ydn (λvs H Q E h=>?_) (λ_ _ _ _ _ H vs Q E hr h=>?_)
 ·obtain ⟨m,L,Cc,us,hs,cs,rfl,_⟩:=h
  rfl
 ·obtain ⟨m,L,Cc,us,hs,cs,rfl,⟨⟨dx,ho⟩,mm⟩,k⟩:=h
  have sc:=ydn
  refine ⟨_,(yam rfl (qag (qas (qax qah rfl (B.of rfl) boot_len (qhu (qbn (qaa (pv 0)) rfl) yad))))),?_⟩
  refine ⟨_,rfl,m,C,dx,_,_,rfl,ho,cm.c,cm.nc,lk_c,Cc,_,rfl,.inl (sqlO mm.hc),?_⟩
  rw[length_map]
  exact k
def yir(C:Addr):Sp:=λvs H Q _=>∃(x dx L0 C0:Addr) (us:List V) (hs:List Hm) (S cs:List Int),vs=[.ref x,.int (cs.length:Nat),.ref L0,.ref C0]/\H x=some (.ins C dx [])/\H L0=some (.lst us)/\HsV H us hs/\okHs hs S/\InR hs cs.length/\H C0=some (.lst (cs.map V.int))/\bits cs/\1<=cs.length/\cs.length<=64/\
 ∀(L Cc:Addr) (H':Hp),(∀b u,b≠x->H b=some u->H' b=some u)->H L=none->H Cc=none->MemO H' C x L Cc us hs (qdx hs cs)->Q .non H'
abbrev yao:Stmt:=yct (top 57) 0
theorem yb9:FnScope ["self","size","harms","contents"] ["self","size","harms","contents"] (yac yao):=fsc
theorem ymb(B:Bl mg)(cm:CM K C)(qfb:Has P w K mg base 8 "look_at_memory" ["size","harms","contents"] qcj)(h_settle:Has P w K mg base 3 "settle" ["harms","cells"] yil)(F:ybh K C "__init__" "Memory.__init__" yao ["self","size","harms","contents"]):HasM P w K mg base C 9 "__init__" ["self","size","harms","contents"] (yir C):=by
 refine HasM.ofQ F yb9 (λvs H Q E h=>?_) (λ_ _ _ _ _ H vs Q E hr h=>?_)
 ·obtain ⟨x,dx,L0,C0,us,hs,S,cs,rfl,_⟩:=h
  rfl
 ·obtain ⟨x,dx,L0,C0,us,hs,S,cs,rfl,hx,hL,hv,ok,hi,hC,hb,l1,l64,k⟩:=h
  have sc:=yb9
  refine ⟨_,(yam rfl (qae (qar (qaj qfb hr (yah (qaa (pv 1)) (yah (qaa (pv 2)) (yah (qaa (pv 3)) yad)))))
   (qae (yji (qaa (pv 0)) (qch qb9 rfl (B.of rfl) boot_list (yah (qaa (pv 2)) yad)) rfl)
   (qae (yji (qaa (pv 0)) (qch qb9 rfl (B.of rfl) boot_list (yah (qaa (pv 3)) yad)) rfl)
   (qag (qar (qaj h_settle hr (qhu (qbn (qaa (pv 0)) rfl) (qhu (qbn (qaa (pv 0)) rfl) yad))))))))),?_⟩
  refine ⟨_,rfl,_,rfl,_,rfl,L0,us,hs,S,C0,cs,rfl,hL,hv,ok,hi,hC,hb,l1,l64,λH1 s1=>?_⟩
  refine ⟨_,rfl,L0,_,rfl,.inl (sqlO (s1 _ _ hL)),λL n1=>?_⟩
  have s2:Same H1 (upd H1 L (.lst us)):=(smR H1).upd n1
  have f2:=@qab H1 L (.lst us)
  revert s2 f2
  generalize upd H1 L _=H2
  intro s2 f2
  have s12:=s1.trans s2
  refine ⟨_,rfl,x,C,dx,_,rfl,s12 _ _ hx,cm.c,cm.nh,by simp,?_⟩
  have nLx:L≠x:=λz=>by subst z;rw[s1 _ _ hx]at n1;cases n1
  have u3:∀b u,b≠x->H2 b=some u->upd H2 x (.ins C dx (putF "harms" (.ref L) [])) b=some u:=λb u h e=>by rw[yae h];exact e
  have f3:upd H2 x (.ins C dx (putF "harms" (.ref L) [])) x=some (.ins C dx [("harms",.ref L)]):=qab
  revert u3 f3
  generalize upd H2 x _=H3
  intro u3 f3
  have nx:∀{b:Addr}{xs:List V},H b=some (.lst xs)->b≠x:=λe z=>by subst z;rw[hx]at e;cases e
  refine ⟨_,rfl,C0,_,rfl,.inl (sqlO (u3 _ _ (nx hC) (s12 _ _ hC))),λCc n4=>?_⟩
  have nCx:Cc≠x:=λz=>by subst z;rw[f3]at n4;cases n4
  have nLC:L≠Cc:=λz=>by subst z;rw[u3 _ _ nLx f2]at n4;cases n4
  have s4:Same H3 (upd H3 Cc (.lst (cs.map V.int))):=(smR H3).upd n4
  have f4:=@qab H3 Cc (.lst (cs.map V.int))
  revert s4 f4
  generalize upd H3 Cc _=H4
  intro s4 f4
  refine ⟨_,rfl,x,C,dx,_,rfl,s4 _ _ f3,cm.c,cm.nc,by simp,?_⟩
  have u5:∀b u,b≠x->H4 b=some u->upd H4 x (.ins C dx (putF "cells" (.ref Cc) [("harms",.ref L)])) b=some u:=λb u h e=>by rw[yae h];exact e
  have f5:upd H4 x (.ins C dx (putF "cells" (.ref Cc) [("harms",.ref L)])) x=some (.ins C dx (fsM L Cc)):=by
   rw[qab]
   have:putF "cells" (V.ref Cc) [("harms",.ref L)]=fsM L Cc:=by
    unfold fsM putF
    rw[if_neg (by decide +kernel)]
    rfl
   rw[this]
  revert u5 f5
  generalize upd H4 x _=H5
  intro u5 f5
  have hc0:H Cc=none:=by
   cases e:H Cc with
   |none=>rfl
   |some u=>have:=u3 _ _ nCx (s12 _ _ e);rw[n4]at this;cases this
  have hl0:H L=none:=s1.free n1
  have up:∀b u,b≠x->H b=some u->H5 b=some u:=λb u h e=>u5 _ _ h (s4 _ _ (u3 _ _ h (s12 _ _ e)))
  have m5:Mem H5 L Cc us hs cs:=⟨nLC,u5 _ _ nLx (s4 _ _ (u3 _ _ nLx f2)),⟨hv.len,λi v h a b=>by
   obtain ⟨z,e,hz⟩:=hv.at_ i v h a b
   exact ⟨z,e,up _ _ (λq=>by subst q;rw[hx]at hz;cases hz) hz⟩⟩,ok.ok,u5 _ _ nCx f4⟩
  refine ⟨_,rfl,x,C,dx,_,_,rfl,f5,cm.c,cm.nh,lk_h,_,rfl,x,C,dx,_,_,rfl,f5,cm.c,cm.nc,lk_c,L,Cc,us,hs,cs,rfl,m5,hi,l64,?_⟩
  refine k L Cc _ (λb u h e=>?_) hl0 hc0 ⟨⟨dx,?_⟩,m5.upd _⟩
  ·rw[yae (λz=>by subst z;rw[hc0]at e;cases e)]
   exact up b u h e
  ·rw[yae (λz=>nCx z.symm)]
   exact f5
end
def qiv(cs:List Int):PyData:=.list (cs.map PyData.int)
theorem qjw{H:Hp}:∀(cs:List Int),AtAll H (cs.map V.int) (cs.map PyData.int)
 |[]=>.nil
 |c::r=>.cons (.int c) (qjw r)
theorem qdw{H:Hp}{p:Addr}{cs:List Int}(h:H p=some (.lst (cs.map V.int))):At H (.ref p) (qiv cs):=.lst h (qjw cs)
theorem yjw:∀(cs:List Int),PyData.canLayAll0 (cs.map PyData.int)=true
 |[]=>rfl
 |c::r=>by show (true&&_)=true;rw[yjw r];rfl
theorem qbu(cs:List Int):(qiv cs).canLay0=true:=yjw cs
theorem qdk(cs:List Int):(qiv cs).depth<=60:=by
 have:=yfs (n:=0) (xs:=cs.map PyData.int) λx hx=>by
  obtain ⟨c,_,rfl⟩:=mem_map.mp hx
  simp[PyData.depth]
 simp only[qiv,PyData.depth]
 omega
theorem qhp(l:List Int):PyData.eqv (qiv l) (qiv l)=true:=SeqAt.eqv_refl _ (qbu l)
structure Spr(ns:List Int)(n:Int):Prop where
 up:ns.Pairwise (· < ·)
 rg:∀x∈ns,0<=x/\x<n
 le:ns.length<=8
theorem yij{ns:List Int}(h:ns.Pairwise (· < ·)):uniq ns=ns:=qi8 (h.imp λh=>by omega)
section
variable {P:Program}{w:World}{K:W.Frag}{mg:Str->Option Value}{base:Heap}
def qjl:Sp:=λvs H Q _=>∃i:Int,vs=[.int i]/\1<=i/\i<=8/\Q (.bl true) H
abbrev qep:Stmt:=top 62
theorem yfr:FnScope ["thing"] ["thing"] (yac qep):=fsc
theorem ok_count(qi9:∃t,mg "MOST_ROWS"=some (.int 8 t))(ya2:Has P w K mg base 1 "is_whole" ["thing"] ybf)(F:FnAt K mg "is_count" qep ["thing"]):Has P w K mg base 2 "is_count" ["thing"] qjl:=by
 refine Has.ofQ F yfr (λvs H Q E h=>?_) (λ_ _ _ _ _ H vs Q E hr h=>?_)
 ·obtain ⟨i,rfl,_⟩:=h
  rfl
 ·obtain ⟨i,rfl,h1,h2,k⟩:=h
  have sc:=yfr
  refine ⟨_,(yam rfl (qag (qas (qaa (qa3 (yag ya2 hr (yaa (pv 0) qad)) (qa3 (qat qji (pv 0) qac (yak _)) (qbt (qat op_le (pv 0) (yd1 qi9) (yak _))))))))),?_⟩
  refine ⟨_,rfl,i,rfl,_,rfl,iteT ?_⟩
  refine ⟨_,rfl,_,_,rfl,rfl,_,rfl,iteD (by omega) ?_⟩
  refine ⟨_,rfl,_,_,rfl,rfl,?_⟩
  show Q (.bl (decide (i<=8))) H
  rw[decide_eq_true h2]
  exact k
def qei:Sp:=λvs H Q _=>∃L ns n,vs=[.ref L,.int n]/\H L=some (.lst (ns.map V.int))/\Spr ns n/\∀H',Same H H'->Q (.bl true) H'
abbrev yc8:Stmt:=top 63
theorem qem:FnScope ["thing","count"] ["thing","count"] (yac yc8):=fsc
theorem qg9(B:Bl mg)(qeq:mg "all"=none)(qcz:mg "set"=none)(ya2:Has P w K mg base 1 "is_whole" ["thing"] ybf)(F:FnAt K mg "are_spares" yc8 ["thing","count"]):Has P w K mg base 2 "are_spares" ["thing","count"] qei:=by
 refine Has.ofQ F qem (λvs H Q E h=>?_) (λ_ _ _ _ _ H vs Q E hr h=>?_)
 ·obtain ⟨L,ns,n,rfl,_⟩:=h
  rfl
 ·obtain ⟨L,ns,n,rfl,hL,sp,k⟩:=h
  have sc:=qem
  refine ⟨_,(yam rfl (qae (qbc (QW.pt (yiz (qcx (ybq (qax ybi rfl (B.of rfl) boot_isinstance (yah (qaa (pv 0)) (yah (qaa (yb3 (v:=.ty "list") rfl (B.of rfl) boot_list rfl)) yad))))) (ygj (qcx (ybq (qax (qc1 rfl) rfl qeq ydh (qa_lc (qaa (yb4 rfl (qa2 rfl) (M:=["part"]) (ix:=[none]) (ya8 (pv 0)) (λ_ _ _ _=>(qa4 (i:=0) (show List.Nodup (["part"]:List Str) by decide +kernel) rfl (Or.inl rfl))) (λ_ _ _ _=>qcv) (λ_ _ _ _=>(yag ya2 hr (yaa (pv 0) qad))))) yad)))))))
    (qag (qas (qaa qfo)))
    ya3)
   (qag (qas (qaa (qa3 (qat (op_eqD hr) (pv 0) (qai (qdb rfl) rfl (B.of rfl) yax (yaa (yc7 (qdc rfl) rfl qcz yci (yaa (pv 0) qad)) qad)) (yak _)) (qbt (qai (qc1 rfl) rfl qeq ydh (yaa (yb4 rfl (qa2 rfl) (M:=["part","count"]) (ix:=[none,some 1]) (ya8 (pv 0)) (λ_ _ _ _=>(qa4 (i:=0) (show List.Nodup (["part","count"]:List Str) by decide +kernel) rfl (Or.inl rfl))) (λ_ _ _ _=>qcv) (λ_ _ _ _=>(qa3 (qat qji (pv 0) qac (yak _)) (qbt (qat yi1 (pv 0) (pv 1) (yak _)))))) qad))))))))),?_⟩
  have le:=sp.le
  refine ⟨_,rfl,_,_,_,_,rfl,.lst hL,rfl,_,rfl,iteN rfl ?_⟩
  refine ⟨_,rfl,L,rfl,⟨_,sqlO hL⟩,λD hD=>qb4 (n:=ns.length) (λi H'=>Same H H'/\H' D=some (.lst ((List.replicate i true).map V.bl))) ⟨(smR H).upd hD,qab⟩ ?_ ?_⟩
  rotate_left
  ·rintro i H3 hi ⟨s3,e3⟩
   refine ⟨⟨_,_,sqlO (s3 _ _ hL),by rw[getElem?_map,getElem?_eq_getElem hi];rfl⟩,?_⟩
   rintro x H4 ⟨rfl,hx⟩
   obtain ⟨c,hc,rfl⟩:=qbv (hx _ (sqlO (s3 _ _ hL)))
   refine ⟨qa0.set (qa0.refl _) rfl,yes ?_⟩
   refine ⟨_,rfl,c,rfl,?_⟩
   refine ⟨_,e3,qa8 (by rw[length_map,length_replicate];omega),s3.at hD,?_⟩
   rw[qab,replicate_succ',map_append];rfl
  ·rintro H3 ⟨s3,e3⟩
   refine ⟨⟨_,sqlO (s3 _ _ hL),by simp⟩,?_⟩
   refine ⟨D,_,rfl,e3,_,rfl,iteN (by simp) ?_⟩
   have hL3:=s3 _ _ hL
   refine ⟨_,rfl,_,rfl,L,_,rfl,hL3,by omega,λq hq=>?_⟩
   have s4:Same H3 (upd H3 q (SetO P w q (uniq ns))):=(smR H3).upd hq
   refine ⟨q,_,rfl,qab,by rw[yij sp.up];omega,λl ns' hl hpm hso=>?_⟩
   have e:ns'=ns:=yk5 (hpm.trans (by rw[yij sp.up])) hso (sp.up.imp λh=>by omega)
   subst e
   have s5:=s4.upd (o:=.lst (ns'.map V.int)) hl
   refine ⟨_,_,qdw (s5 _ _ hL3),qdw qab,qbu _,qbu _,qdk _,_,rfl,iteB (qhp _) ?_⟩
   generalize hG5:upd _ l _=H5
   have s35:Same H H5:=by rw[<-hG5];exact s3.trans s5
   have hL5:=s35 _ _ hL
   refine ⟨_,rfl,L,rfl,⟨_,sqlO hL5⟩,λD2 hD2=>qb4 (n:=ns'.length) (λi H'=>Same H5 H'/\H' D2=some (.lst ((List.replicate i true).map V.bl))) ⟨(smR H5).upd hD2,qab⟩ ?_ ?_⟩
   ·rintro H6 ⟨s6,e6⟩
    refine ⟨⟨_,sqlO (s6 _ _ hL5),by simp⟩,?_⟩
    refine ⟨D2,_,rfl,e6,?_⟩
    rw[show (List.replicate ns'.length true).all id=true by simp]
    exact k _ (s35.trans s6)
   ·rintro i H6 hi ⟨s6,e6⟩
    refine ⟨⟨_,_,sqlO (s6 _ _ hL5),by rw[getElem?_map,getElem?_eq_getElem hi];rfl⟩,?_⟩
    rintro x H7 ⟨rfl,hx⟩
    obtain ⟨c,hc,rfl⟩:=qbv (hx _ (sqlO (s6 _ _ hL5)))
    have hr2:=sp.rg c (mem_of_getElem? hc)
    refine ⟨qa0.set (qa0.refl _) rfl,yes ?_⟩
    refine ⟨_,rfl,_,_,rfl,rfl,_,rfl,iteD (by omega) ?_⟩
    refine ⟨_,rfl,_,rfl,_,_,rfl,rfl,?_⟩
    refine ⟨_,e6,qa8 (by rw[length_map,length_replicate];omega),s6.at hD2,?_⟩
    rw[qab,replicate_succ',map_append]
    show _=some (HO.lst (_++[V.bl true]))
    rw[<-decide_eq_true hr2.2]
def ydp:Sp:=λvs H Q _=>∃r l:Int,vs=[.int r,.int l]/\1<=r/\r<=8/\1<=l/\l<=8/\Q .non H
abbrev qbw:Stmt:=top 64
theorem qci:FnScope ["rows","lines"] ["rows","lines"] (yac qbw):=fsc
theorem qge(qgn:Has P w K mg base 2 "is_count" ["thing"] qjl)(F:FnAt K mg "look_at_counts" qbw ["rows","lines"]):Has P w K mg base 3 "look_at_counts" ["rows","lines"] ydp:=by
 refine Has.ofQ F qci (λvs H Q E h=>?_) (λ_ _ _ _ _ H vs Q E hr h=>?_)
 ·obtain ⟨r,l,rfl,_⟩:=h
  rfl
 ·obtain ⟨r,l,rfl,h1,h2,h3,h4,k⟩:=h
  have sc:=qci
  refine ⟨_,(yam rfl (qag (qbc (QW.pt (yiz (qcx (ybq (qaj qgn hr (yah (qaa (pv 0)) yad)))) (ygj (qcx (ybq (qaj qgn hr (yah (qaa (pv 1)) yad)))))))
    (qag (ygc ya6))
    ya3))),?_⟩
  refine ⟨_,rfl,r,rfl,h1,h2,_,rfl,iteN rfl ?_⟩
  exact ⟨_,rfl,l,rfl,h3,h4,_,rfl,iteN rfl k⟩
def ydt:Sp:=λvs H Q _=>∃(r l:Int) (L M:Addr) (ns ms:List Int),vs=[.int r,.int l,.ref L,.ref M]/\H L=some (.lst (ns.map V.int))/\H M=some (.lst (ms.map V.int))/\Spr ns r/\Spr ms l/\∀H',Same H H'->Q .non H'
abbrev qbx:Stmt:=top 65
theorem ycn:FnScope ["rows","lines","spare_rows","spare_lines"] ["rows","lines","spare_rows","spare_lines"] (yac qbx):=fsc
theorem ygf(yez:Has P w K mg base 2 "are_spares" ["thing","count"] qei)(F:FnAt K mg "look_at_spares" qbx ["rows","lines","spare_rows","spare_lines"]):Has P w K mg base 3 "look_at_spares" ["rows","lines","spare_rows","spare_lines"] ydt:=by
 refine Has.ofQ F ycn (λvs H Q E h=>?_) (λ_ _ _ _ _ H vs Q E hr h=>?_)
 ·obtain ⟨r,l,L,M,ns,ms,rfl,_⟩:=h
  rfl
 ·obtain ⟨r,l,L,M,ns,ms,rfl,hL,hM,h1,h2,k⟩:=h
  have sc:=ycn
  refine ⟨_,(yam rfl (qag (qbc (QW.pt (yiz (qcx (ybq (qaj yez hr (yah (qaa (pv 2)) (yah (qaa (pv 0)) yad))))) (ygj (qcx (ybq (qaj yez hr (yah (qaa (pv 3)) (yah (qaa (pv 1)) yad))))))))
    (qag (ygc ya6))
    ya3))),?_⟩
  refine ⟨_,rfl,_,rfl,L,ns,r,rfl,hL,h1,λH1 s1=>⟨_,rfl,iteN rfl ?_⟩⟩
  exact ⟨_,rfl,_,rfl,M,ms,l,rfl,s1 _ _ hM,h2,λH2 s2=>⟨_,rfl,iteN rfl (k _ (s1.trans s2))⟩⟩
end
def fsN(m d:Addr):List (Str×V):=[("harmed",.ref m),("spare",.ref d)]
structure CN(K:W.Frag)(C:Addr):Prop where
 c:Cls K C
 nh:qdn K C "harmed"
 ns:qdn K C "spare"
theorem qla{L Cc:Addr}:(fsN L Cc).lookup ("harmed" : Str)=some (V.ref L):=by
 unfold fsN
 rw[lookup_cons,show (("harmed" : Str) == "harmed")=true by decide +kernel]
theorem ylb{L Cc:Addr}:(fsN L Cc).lookup ("spare" : Str)=some (V.ref Cc):=by
 unfold fsN
 rw[lookup_cons,show (("spare" : Str) == "harmed")=false by decide +kernel,lookup_cons,show (("spare" : Str) == "spare")=true by decide +kernel]
theorem MemO.same{H H':Hp}{C m L Cc:Addr}{us:List V}{hs:List Hm}{cs:List Int}(h:MemO H C m L Cc us hs cs)(s:Same H H'):MemO H' C m L Cc us hs cs:=by
 obtain ⟨⟨dx,ho⟩,mm⟩:=h
 exact ⟨⟨dx,s _ _ ho⟩,mm.same s⟩
def SpD(kvs:List (Key×V))(sp:Nat->Bool)(vs:List Int):Prop:=∀a:Nat,a<vs.length->valV kvs (.inl (a:Int))=if sp a=true then some (.int (vs.getD a 0)) else none
structure MenO(H:Hp)(C N e m L Cc:Addr)(us:List V)(hs:List Hm)(cs:List Int)(d:Addr)(kvs:List (Key×V)):Prop where
 o:∃dx,H e=some (.ins N dx (fsN m d))
 m:MemO H C m L Cc us hs cs
 d:H d=some (.dK kvs)
section
variable {P:Program}{w:World}{K:W.Frag}{mg:Str->Option Value}{base:Heap}{C N:Addr}
abbrev qaz:Stmt:=yct (top 66) 1
theorem yds:FnScope ["self","address"] ["self","address"] (yac qaz):=fsc
abbrev yau:Stmt:=yct (top 66) 2
theorem ydb:FnScope ["self","address","bit"] ["self","address","bit"] (yac yau):=fsc
abbrev yay:Stmt:=yct (top 66) 4
theorem qdp:FnScope ["self"] ["self"] (yac yay):=fsc
def yej(C N:Addr):Sp:=λvs H Q _=>∃e m L Cc us hs cs d kvs sp ws,∃a:Nat,vs=[.ref e,.int (a:Int)]/\MenO H C N e m L Cc us hs cs d kvs/\InR hs cs.length/\SpD kvs sp ws/\ws.length=cs.length/\a<cs.length/\
 (sp a=true->Q (.int (ws.getD a 0)) H)/\(sp a=false->∀H',UpC H Cc (yec hs cs a).2 H'->Q (.int (yec hs cs a).1) H')
theorem ql7(cm:CM K C)(cn:CN K N)(ybv:HasM P w K mg base C 2 "look_at_address" ["self","address"] (qc7 C))(yiu:HasM P w K mg base C 5 "read" ["self","address"] (qh7 C))(F:ybh K N "read" "Mended.read" qaz ["self","address"]):HasM P w K mg base N 6 "read" ["self","address"] (yej C N):=by
 refine HasM.ofQ F yds (λvs H Q E h=>?_) (λ_ _ _ _ _ H vs Q E hr h=>?_)
 ·obtain ⟨e,m,L,Cc,us,hs,cs,d,kvs,sp,ws,a,rfl,_⟩:=h
  rfl
 ·obtain ⟨e,m,L,Cc,us,hs,cs,d,kvs,sp,ws,a,rfl,mo,hi,hsp,hwl,ha,k1,k2⟩:=h
  have sc:=yds
  refine ⟨_,(yam rfl (qae (qar (ybk cm.c ybv hr (qbn (qaa (pv 0)) rfl) (yah (qaa (pv 1)) yad)))
   (qag (qas (qhj (qt_of (qe6 (pc_din (qfa hr) (QE.of (qaa (pv 1))) (QE.of (qbn (qaa (pv 0)) rfl))) (by with_unfolding_all rfl))) (qja (qfa hr) (qbn (qaa (pv 0)) rfl) (qaa (pv 1)) (λ_ _=>rfl)) (ybk cm.c yiu hr (qbn (qaa (pv 0)) rfl) (yah (qaa (pv 1)) yad))))))),?_⟩
  obtain ⟨⟨dx,ho⟩,mm,hd⟩:=id mo
  obtain ⟨⟨dy,hm⟩,_⟩:=id mm
  have hv:=hsp a (by omega)
  refine ⟨_,rfl,e,N,dx,_,_,rfl,ho,cn.c,cn.nh,qla,m,dy,_,rfl,hm,lk_n,_,rfl,m,L,Cc,us,hs,cs,a,rfl,mm,by omega,by omega,?_⟩
  refine ⟨_,rfl,_,rfl,e,N,dx,_,_,rfl,ho,cn.c,cn.ns,ylb,d,_,rfl,DGet.k (k:=.inl (a:Int)) hd,_,rfl,?_⟩
  cases hs':sp a with
  |true=>
   rw[hs',if_pos rfl]at hv
   refine iteB (by rw[hv];rfl) ?_
   exact ⟨_,rfl,e,N,dx,_,_,rfl,ho,cn.c,cn.ns,ylb,_,rfl,d,_,rfl,by rw[<-hv];exact DGet.k (k:=.inl (a:Int)) hd,k1 hs'⟩
  |false=>
   rw[hs',if_neg (by simp)]at hv
   refine iteN (by rw[hv];rfl) ?_
   exact ⟨_,rfl,e,N,dx,_,_,rfl,ho,cn.c,cn.nh,qla,m,dy,_,rfl,hm,lk_n,_,rfl,m,L,Cc,us,hs,cs,a,rfl,mm,hi,by omega,by omega,k2 hs'⟩
def qdj(C N:Addr):Sp:=λvs H Q _=>∃e m L Cc us hs cs d kvs sp ws,∃a:Nat,∃b:Bool,vs=[.ref e,.int (a:Int),.int (b2i b)]/\MenO H C N e m L Cc us hs cs d kvs/\InR hs cs.length/\SpD kvs sp ws/\ws.length=cs.length/\a<cs.length/\kvs.length<=64/\
 (sp a=true->∀H1,Same H H1->Q .non (upd H1 d (.dK (putK kvs (.inl (a:Int)) (.int (b2i b))))))/\(sp a=false->∀H',UpC H Cc (yd4 hs cs a (b2i b)) H'->Q .non H')
theorem qkm(cm:CM K C)(cn:CN K N)(ybv:HasM P w K mg base C 2 "look_at_address" ["self","address"] (qc7 C))(ycr:Has P w K mg base 3 "look_at_bit" ["thing"] ycf)(qhk:HasM P w K mg base C 6 "write" ["self","address","bit"] (ygm C))(F:ybh K N "write" "Mended.write" yau ["self","address","bit"]):HasM P w K mg base N 7 "write" ["self","address","bit"] (qdj C N):=by
 refine HasM.ofQ F ydb (λvs H Q E h=>?_) (λ_ _ _ _ _ H vs Q E hr h=>?_)
 ·obtain ⟨e,m,L,Cc,us,hs,cs,d,kvs,sp,ws,a,b,rfl,_⟩:=h
  rfl
 ·obtain ⟨e,m,L,Cc,us,hs,cs,d,kvs,sp,ws,a,b,rfl,mo,hi,hsp,hwl,ha,hk64,k1,k2⟩:=h
  have sc:=ydb
  refine ⟨_,(yam rfl (qae (qar (ybk cm.c ybv hr (qbn (qaa (pv 0)) rfl) (yah (qaa (pv 1)) yad)))
   (qae (qar (qaj ycr hr (yah (qaa (pv 2)) yad)))
   (qag (qbc (qt_of (qe6 (pc_din (qfa hr) (QE.of (qaa (pv 1))) (QE.of (qbn (qaa (pv 0)) rfl))) (by with_unfolding_all rfl)))
    (qag (ygc (yho (qfa hr) (QE.of (qbn (qaa (pv 0)) rfl)) (QE.of (qaa (pv 1))) (QE.of (qaa (pv 2))) rfl)))
    (qag (qar (ybk cm.c qhk hr (qbn (qaa (pv 0)) rfl) (yah (qaa (pv 1)) (yah (qaa (pv 2)) yad)))))))))),?_⟩
  obtain ⟨⟨dx,ho⟩,mm,hd⟩:=id mo
  obtain ⟨⟨dy,hm⟩,_⟩:=id mm
  have hv:=hsp a (by omega)
  refine ⟨_,rfl,e,N,dx,_,_,rfl,ho,cn.c,cn.nh,qla,m,dy,_,rfl,hm,lk_n,_,rfl,m,L,Cc,us,hs,cs,a,rfl,mm,by omega,by omega,?_⟩
  refine ⟨_,rfl,b,rfl,λH1 s1=>?_⟩
  have ho1:=s1 _ _ ho
  have hd1:=s1 _ _ hd
  refine ⟨_,rfl,_,rfl,e,N,dx,_,_,rfl,ho1,cn.c,cn.ns,ylb,d,_,rfl,DGet.k (k:=.inl (a:Int)) hd1,_,rfl,?_⟩
  cases hs':sp a with
  |true=>
   rw[hs',if_pos rfl]at hv
   refine iteB (by rw[hv];rfl) ?_
   exact ⟨_,rfl,_,rfl,e,N,dx,_,_,rfl,ho1,cn.c,cn.ns,ylb,_,rfl,d,_,rfl,DPut.k (k:=.inl (a:Int)) hd1 (qa8 (by omega)),k1 hs' H1 s1⟩
  |false=>
   rw[hs',if_neg (by simp)]at hv
   refine iteN (by rw[hv];rfl) ?_
   refine ⟨_,rfl,e,N,dx,_,_,rfl,ho1,cn.c,cn.nh,qla,m,dy,_,rfl,s1 _ _ hm,lk_n,_,rfl,_,rfl,m,L,Cc,us,hs,cs,a,b,rfl,mm.same s1,hi,by omega,by omega,λH2 u2=>k2 hs' H2 ?_⟩
   exact (UpC.of s1 mm.m.hc).trans u2
def yfn(C N:Addr):Sp:=λvs H Q _=>∃e m L Cc us hs cs d kvs,vs=[.ref e]/\MenO H C N e m L Cc us hs cs d kvs/\Q (.int (cs.length:Nat)) H
theorem qle(cm:CM K C)(cn:CN K N)(yi8:HasM P w K mg base C 1 "size" ["self"] (qig C))(F:ybh K N "size" "Mended.size" yay ["self"]):HasM P w K mg base N 2 "size" ["self"] (yfn C N):=by
 refine HasM.ofQ F qdp (λvs H Q E h=>?_) (λ_ _ _ _ _ H vs Q E hr h=>?_)
 ·obtain ⟨e,m,L,Cc,us,hs,cs,d,kvs,rfl,_⟩:=h
  rfl
 ·obtain ⟨e,m,L,Cc,us,hs,cs,d,kvs,rfl,mo,k⟩:=h
  have sc:=qdp
  refine ⟨_,(yam rfl (qag (qas (qiq cm.c yi8 hr (qbn (qaa (pv 0)) rfl))))),?_⟩
  obtain ⟨⟨dx,ho⟩,mm,hd⟩:=id mo
  obtain ⟨⟨dy,hm⟩,_⟩:=id mm
  exact ⟨_,rfl,e,N,dx,_,_,rfl,ho,cn.c,cn.nh,qla,m,dy,_,rfl,hm,lk_n,m,L,Cc,us,hs,cs,rfl,mm,k⟩
def spF(ns ms:List Int)(l:Int)(a:Nat):Bool:=decide ((a:Int) / l∈ns\/(a:Int) % l∈ms)
def spk(sp:Nat->Bool)(cs:List Int):Nat->List (Key×V)
 |0=>[]
 |i+1=>if sp i=true then putK (spk sp cs i) (.inl (i:Int)) (.int (cs.getD i 0)) else spk sp cs i
theorem yi3(sp:Nat->Bool)(cs:List Int):∀i,(spk sp cs i).length<=i
 |0=>le_refl _
 |i+1=>by
  have h1:=yi3 sp cs i
  have h2:=ycp (spk sp cs i) (.inl (i:Int)) (.int (cs.getD i 0))
  unfold spk
  split<;>omega
theorem ymh(sp:Nat->Bool)(cs:List Int)(a:Nat):∀i,valV (spk sp cs i) (.inl (a:Int))=if a<i/\sp a=true then some (.int (cs.getD a 0)) else none
 |0=>by simp[spk,valV]
 |i+1=>by
  have ih:=ymh sp cs a i
  unfold spk
  by_cases hs:sp i=true
  ·rw[if_pos hs,ydj,ih]
   by_cases e:a=i
   ·subst e
    rw[if_pos rfl,if_pos ⟨by omega,hs⟩]
   ·rw[if_neg (λz=>e (by have:=Sum.inl.inj z;omega))]
    by_cases h:a<i/\sp a=true
    ·rw[if_pos h,if_pos ⟨by omega,h.2⟩]
    ·rw[if_neg h,if_neg (λz=>h ⟨by omega,z.2⟩)]
  ·rw[if_neg hs,ih]
   by_cases h:a<i/\sp a=true
   ·rw[if_pos h,if_pos ⟨by omega,h.2⟩]
   ·rw[if_neg h,if_neg (λz=>h ⟨by
     rcases Nat.lt_or_ge a i with q|q
     ·exact q
     ·have:a=i:=by omega
      subst this
      exact absurd z.2 hs,z.2⟩)]
theorem spk_is{sp:Nat->Bool}{cs:List Int}:SpD (spk sp cs cs.length) sp cs:=λa ha=>by
 rw[ymh]
 by_cases h:sp a=true
 ·rw[if_pos ⟨ha,h⟩,if_pos h]
 ·rw[if_neg (λz=>h z.2),if_neg h]
theorem qdf{x:Int}{l:List Int}:inV (.int x) (l.map V.int)=decide (x∈l):=by
 unfold inV
 rw[Bool.eq_iff_iff]
 simp only[List.any_map,any_eq_true,Function.comp_apply,decide_eq_true_eq]
 constructor
 ·rintro ⟨y,hy,e⟩
  have:y=x:=by simpa [eqV] using e
  rw[<-this];exact hy
 ·intro h
  exact ⟨x,h,by simp[eqV]⟩
theorem cmul8{r l:Int}(h1:0<=r)(h2:r<=8)(h3:0<=l)(h4:l<=8):CMul r l:=by
 have e:(2:Int) ^ 64=18446744073709551616:=by decide
 exact .inl ⟨by omega,by omega⟩
abbrev qap:Stmt:=yct (top 66) 0
theorem yb8:FnScope ["self","rows","lines","harms","contents","spare_rows","spare_lines","address","bit"] ["self","rows","lines","harms","contents","spare_rows","spare_lines"] (yac qap):=fsc
def yif(C N:Addr):Sp:=λvs H Q _=>∃(x dx L0 C0 R M:Addr) (r l:Int) (us:List V) (hs:List Hm) (S cs ns ms:List Int),vs=[.ref x,.int r,.int l,.ref L0,.ref C0,.ref R,.ref M]/\H x=some (.ins N dx [])/\1<=r/\r<=8/\1<=l/\l<=8/\r*l=cs.length/\
 H L0=some (.lst us)/\HsV H us hs/\okHs hs S/\InR hs cs.length/\H C0=some (.lst (cs.map V.int))/\bits cs/\H R=some (.lst (ns.map V.int))/\Spr ns r/\H M=some (.lst (ms.map V.int))/\Spr ms l/\
 ∀(m L Cc d:Addr) (kvs:List (Key×V)) (H':Hp),(∀b u,b≠x->H b=some u->H' b=some u)->H m=none->H L=none->H Cc=none->H d=none->MenO H' C N x m L Cc us hs (qdx hs cs) d kvs->SpD kvs (spF ns ms l) cs->kvs.length<=cs.length->Q .non H'
theorem ylf(B:Bl mg)(cm:CM K C)(cn:CN K N)(qa9:Has P w K mg base 6 "look_at_harms" ["thing"] ybe)(yfa:Has P w K mg base 3 "look_at_counts" ["rows","lines"] ydp)(qfe:Has P w K mg base 3 "look_at_spares" ["rows","lines","spare_rows","spare_lines"] ydt)
  (qfi:HasI P w K mg base C 9 "Memory" ["self","size","harms","contents"] (yir C)) (F:ybh K N "__init__" "Mended.__init__" qap ["self","rows","lines","harms","contents","spare_rows","spare_lines"]) :
  HasM P w K mg base N 11 "__init__" ["self","rows","lines","harms","contents","spare_rows","spare_lines"] (yif C N):=by
 refine HasM.ofQ F yb8 (λvs H Q E h=>?_) (λ_ _ _ _ _ H vs Q E hr h=>?_)
 ·obtain ⟨x,dx,L0,C0,R,M,r,l,us,hs,S,cs,ns,ms,rfl,_⟩:=h
  rfl
 ·obtain ⟨x,dx,L0,C0,R,M,r,l,us,hs,S,cs,ns,ms,rfl,hx,r1,r8,l1,l8,hrl,hL0,hv,ok,ir,hC0,hb,hR,hsr,hM,hsm,k⟩:=h
  have sc:=yb8
  refine ⟨_,(yam rfl (qae (qar (qaj qa9 hr (yah (qaa (pv 3)) yad)))
   (qae (qar (qaj yfa hr (yah (qaa (pv 1)) (yah (qaa (pv 2)) yad))))
   (qae (yji (qaa (pv 0)) (qhf qfi hr (ygz (yat qcb (qaa (pv 1)) (qaa (pv 2))) (yah (qaa (pv 3)) (yah (qaa (pv 4)) yad)))) rfl)
   (qae (qar (qaj qfe hr (yah (qaa (pv 1)) (yah (qaa (pv 2)) (yah (qaa (pv 5)) (yah (qaa (pv 6)) yad))))))
   (qae (yji (qaa (pv 0)) (qaa yek) rfl)
   (qag (yb2 PassesOwn.never rfl (ygg (qdy rfl (B.of rfl) (yaa (pv 4) qad))) (ydo rfl (qan (pgn 7 sc.nd) (qan (pgn 8 sc.nd) qbj)))
    (qag (qbc (QW.pt (yiz (ya9 qbd (yat qg3 (qaa (pv 7)) (qaa (pv 2))) (qaa (pv 5)) (by with_unfolding_all rfl)) (ygj (ya9 qbd (yat qck (qaa (pv 7)) (qaa (pv 2))) (qaa (pv 6)) (by with_unfolding_all rfl)))))
     (qag (ygc (yho (qfa hr) (QE.of (qbn (qaa (pv 0)) rfl)) (QE.of (qaa (pv 7))) (QE.of (qaa (pv 8))) rfl)))
     ya3)))))))))),?_⟩
  have hle:cs.length<=64/\1<=cs.length:=by
   have h1:r*l<=8*8:=Int.mul_le_mul r8 l8 (by omega) (by omega)
   have h2:1*1<=r*l:=Int.mul_le_mul r1 l1 (by omega) (by omega)
   omega
  refine ⟨_,rfl,L0,us,hs,S,rfl,hL0,hv,ok,λH1 s1=>?_⟩
  refine ⟨_,rfl,_,rfl,r,l,rfl,r1,r8,l1,l8,?_⟩
  refine ⟨_,rfl,_,rfl,_,_,rfl,rfl,cmul8 (by omega) r8 (by omega) l8,_,rfl,_,rfl,?_⟩
  intro m dm nm ndm nmd
  generalize hG2:upd (upd H1 dm (.own m)) m (.ins C dm [])=H2
  have s2:Same H1 H2:=by rw[<-hG2];exact ((smR H1).upd (o:=.own m) ndm).upd (o:=.ins C dm []) (p:=m) (by rw[yae (λz=>nmd z.symm)];exact nm)
  have f2:H2 m=some (.ins C dm []):=by rw[<-hG2];exact qab
  clear hG2
  have s12:=s1.trans s2
  have nmx:m≠x:=λz=>by subst z;rw[s1 _ _ hx]at nm;cases nm
  refine ⟨m,dm,L0,C0,us,hs,S,cs,?_,f2,s12 _ _ hL0,hv.same s12,ok,ir,s12 _ _ hC0,hb,hle.2,hle.1,λL Cc H3 st3 nL nCc mo=>⟨rfl,?_⟩⟩
  ·show [V.ref m,V.int (r*l),V.ref L0,V.ref C0]=_
   rw[hrl]
  have up3:∀{b:Addr}{u:HO},H b=some u->H3 b=some u:=λ{b u} e=>st3 b u (λz=>by subst z;have:=s1 _ _ e;rw[nm]at this;cases this) (s12 _ _ e)
  have hx3:=up3 hx
  refine ⟨_,rfl,x,N,dx,_,rfl,hx3,cn.c,cn.nh,by simp,?_⟩
  have mne:∀{b:Addr}{u:HO},H3 b=some u->(∀c d f,u≠.ins c d f)->b≠x:=λ{b u} e h z=>by subst z;rw[hx3]at e;exact h _ _ _ (Option.some.inj e).symm
  generalize hG4:upd H3 x _=H4
  have u4:∀b u,b≠x->H3 b=some u->H4 b=some u:=λb u h e=>by rw[<-hG4,yae h];exact e
  have f4:H4 x=some (.ins N dx [("harmed",.ref m)]):=by rw[<-hG4];exact qab
  clear hG4
  have up4:∀{b:Addr}{u:HO},H b=some u->b≠x->H4 b=some u:=λ{b u} e h=>u4 b u h (up3 e)
  have xl:∀{b:Addr}{xs:List V},H b=some (.lst xs)->b≠x:=λ{b xs} e z=>by subst z;rw[hx]at e;cases e
  refine ⟨_,rfl,_,rfl,_,rfl,_,rfl,r,l,R,M,ns,ms,rfl,up4 hR (xl hR),up4 hM (xl hM),hsr,hsm,λH5 s5=>?_⟩
  intro d hd
  generalize hG6:upd H5 d (.dK [])=H6
  have s6:Same H5 H6:=by rw[<-hG6];exact (smR H5).upd hd
  have f6:H6 d=some (.dK []):=by rw[<-hG6];exact qab
  clear hG6
  have s46:=s5.trans s6
  refine ⟨_,rfl,x,N,dx,_,rfl,s46 _ _ f4,cn.c,cn.ns,by simp,?_⟩
  have hdx:d≠x:=λz=>by subst z;rw[s5 _ _ f4]at hd;cases hd
  generalize hG7:upd H6 x _=H7
  have u7:∀b u,b≠x->H6 b=some u->H7 b=some u:=λb u h e=>by rw[<-hG7,yae h];exact e
  have f7:H7 x=some (.ins N dx (fsN m d)):=by
   rw[<-hG7,qab]
   have:putF "spare" (V.ref d) [("harmed",.ref m)]=fsN m d:=by
    unfold fsN putF
    rw[if_neg (by decide +kernel)]
    rfl
   rw[this]
  clear hG7
  have up7:∀{b:Addr}{u:HO},H b=some u->b≠x->H7 b=some u:=λ{b u} e h=>u7 b u h (s46 _ _ (up4 e h))
  have nd0:H d=none:=by
   cases e:H d with
   |none=>rfl
   |some u=>have:=s5 _ _ (up4 e hdx);rw[hd]at this;cases this
  have m7:MemO H7 C m L Cc us hs (qdx hs cs):=by
   obtain ⟨⟨dy,ho⟩,mm⟩:=mo
   have go:∀{b:Addr}{u:HO},H3 b=some u->b≠x->H7 b=some u:=λ{b u} e h=>u7 b u h (s46 _ _ (u4 b u h e))
   have l1:L≠x:=mne mm.hl (λ_ _ _ z=>by cases z)
   have l2:Cc≠x:=mne mm.hc (λ_ _ _ z=>by cases z)
   refine ⟨⟨dy,go ho nmx⟩,⟨mm.ne,go mm.hl l1,⟨mm.hv.len,λi v h a b=>?_⟩,mm.ok,go mm.hc l2⟩⟩
   obtain ⟨z,e,hz⟩:=mm.hv.at_ i v h a b
   exact ⟨z,e,go hz (mne hz (λ_ _ _ z=>by cases z))⟩
  have hd7:H7 d=some (.dK []):=u7 d _ hdx f6
  have hC7:=up7 hC0 (xl hC0)
  have nL0:H L=none:=s12.free nL
  have nC0:H Cc=none:=s12.free nCc
  refine ⟨_,rfl,C0,_,rfl,sqlO hC7,ycq (xs:=cs.map V.int) (λi σ H'=>∃q7 q8:Option V,σ=[some (.ref x),some (.int r),some (.int l),some (.ref L0),some (.ref C0),some (.ref R),some (.ref M),q7,q8]/\(∀b u,b≠d->H7 b=some u->H' b=some u)/\H' d=some (.dK (spk (spF ns ms l) cs i))) ⟨_,_,rfl,λb u _ e=>e,hd7⟩ (λi σ H' _ ⟨_,_,_,st,_⟩=>sqlO (st _ _ (λz=>by subst z;rw[hC7]at hd7;cases hd7) hC7)) ?_ ?_⟩
  ·rintro i y pp σ H8 hy ⟨q7,q8,rfl,st8,hd8⟩ hpp
   obtain ⟨c,hc,rfl⟩:=qls hy
   have hil:i<cs.length:=(List.getElem?_eq_some_iff.mp hc).1
   refine ⟨pp,_,rfl,sqtO qab,rfl,_,_,rfl,_,_,rfl,rfl,?_⟩
   have s9:Same H8 (upd H8 pp (.tup [.int i,.int c])):=(smR H8).upd hpp
   revert s9
   generalize upd H8 pp _=H9
   intro s9
   have keep9:∀b u,b≠d->H7 b=some u->H9 b=some u:=λb u h e=>s9 _ _ (st8 b u h e)
   have ne_d:∀{b:Addr}{xs:List V},H7 b=some (.lst xs)->b≠d:=λ{b xs} e z=>by subst z;rw[hd7]at e;cases e
   have hR7:=up7 hR (xl hR)
   have hM7:=up7 hM (xl hM)
   have put9:∃q7 q8:Option V,[some (V.ref x),some (.int r),some (.int l),some (.ref L0),some (.ref C0),some (.ref R),some (.ref M),some (.int i),some (.int c)]=[some (.ref x),some (.int r),some (.int l),some (.ref L0),some (.ref C0),some (.ref R),some (.ref M),q7,q8]/\(∀b u,b≠d->H7 b=some u->upd H9 d (.dK (putK (spk (spF ns ms l) cs i) (.inl (i:Int)) (.int c))) b=some u)/\upd H9 d (.dK (putK (spk (spF ns ms l) cs i) (.inl (i:Int)) (.int c))) d=some (.dK (putK (spk (spF ns ms l) cs i) (.inl (i:Int)) (.int c))):=⟨_,_,rfl,λb u h e=>by rw[yae h];exact keep9 b u h e,qab⟩
   have hcd:cs.getD i 0=c:=by rw[getD_eq_getElem?_getD,hc];rfl
   have dput:∀{D:Ends},(D.nx [some (V.ref x),some (.int r),some (.int l),some (.ref L0),some (.ref C0),some (.ref R),some (.ref M),some (.int i),some (.int c)] (upd H9 d (.dK (putK (spk (spF ns ms l) cs i) (.inl (i:Int)) (.int c)))))->sDPut (tFld K (tVar 0) "spare") (tVar 7) (tVar 8) D [some (V.ref x),some (.int r),some (.int l),some (.ref L0),some (.ref C0),some (.ref R),some (.ref M),some (.int i),some (.int c)] H9:=λ{D} h=>
    ⟨_,rfl,_,rfl,x,N,dx,_,_,rfl,keep9 _ _ hdx.symm f7,cn.c,cn.ns,ylb,_,rfl,d,_,rfl,DPut.k (k:=.inl (i:Int)) (s9 _ _ hd8) (qa8 (by have:=yi3 (spF ns ms l) cs i;omega)),h⟩
   refine ⟨_,rfl,_,rfl,_,_,rfl,rfl,?_,_,rfl,R,_,rfl,.inl (sqlO (keep9 _ _ (ne_d hR7) hR7)),rfl,by simp[qct],_,rfl,?_⟩
   ·exact ⟨by omega,by omega⟩
   by_cases h1:(i:Int) / l∈ns
   ·refine iteB (by show inV (.int ((i:Int) / l)) _=true;rw[qdf];exact decide_eq_true h1) ?_
    refine iteB rfl ?_
    refine dput ?_
    have:spk (spF ns ms l) cs (i+1)=putK (spk (spF ns ms l) cs i) (.inl (i:Int)) (.int c):=by
     show (if spF ns ms l i=true then _ else _)=_
     rw[if_pos (show spF ns ms l i=true from decide_eq_true (Or.inl h1)),hcd]
    show ∃q7 q8:Option V,_
    rw[this]
    exact put9
   ·refine iteN (by show inV (.int ((i:Int) / l)) _=false;rw[qdf];exact decide_eq_false h1) ?_
    refine ⟨_,rfl,_,rfl,_,_,rfl,rfl,(by show (0:Int)<l;omega),_,rfl,M,_,rfl,.inl (sqlO (keep9 _ _ (ne_d hM7) hM7)),rfl,by simp[qct],_,rfl,?_⟩
    by_cases h2:(i:Int) % l∈ms
    ·refine iteB (by show inV (.int ((i:Int) % l)) _=true;rw[qdf];exact decide_eq_true h2) ?_
     refine dput ?_
     have:spk (spF ns ms l) cs (i+1)=putK (spk (spF ns ms l) cs i) (.inl (i:Int)) (.int c):=by
      show (if spF ns ms l i=true then _ else _)=_
      rw[if_pos (show spF ns ms l i=true from decide_eq_true (Or.inr h2)),hcd]
     show ∃q7 q8:Option V,_
     rw[this]
     exact put9
    ·refine iteN (by show inV (.int ((i:Int) % l)) _=false;rw[qdf];exact decide_eq_false h2) ?_
     have:spk (spF ns ms l) cs (i+1)=spk (spF ns ms l) cs i:=by
      show (if spF ns ms l i=true then _ else _)=_
      rw[if_neg (by unfold spF;simp[h1,h2])]
     show ∃q7 q8:Option V,_
     rw[this]
     exact ⟨_,_,rfl,keep9,s9 _ _ hd8⟩
  ·rintro σ H8 ⟨q7,q8,rfl,st8,hd8⟩
   rw[length_map]at hd8
   have keep:∀b u,b≠x->H b=some u->H8 b=some u:=λb u h e=>st8 b u (λz=>by subst z;rw[nd0]at e;cases e) (up7 e h)
   refine k m L Cc d _ H8 keep (s1.free nm) nL0 nC0 nd0 ⟨⟨dx,st8 _ _ hdx.symm f7⟩,?_,hd8⟩ spk_is (yi3 _ _ _)
   obtain ⟨⟨dy,ho⟩,mm⟩:=m7
   have nd:∀{b:Addr}{u:HO},H7 b=some u->(∀k,u≠.dK k)->b≠d:=λ{b u} e h z=>by subst z;rw[hd7]at e;exact h _ (Option.some.inj e).symm
   refine ⟨⟨dy,st8 _ _ (nd ho (λ_ z=>by cases z)) ho⟩,⟨mm.ne,st8 _ _ (nd mm.hl (λ_ z=>by cases z)) mm.hl,⟨mm.hv.len,λi v h a b=>?_⟩,mm.ok,st8 _ _ (nd mm.hc (λ_ z=>by cases z)) mm.hc⟩⟩
   obtain ⟨z,e,hz⟩:=mm.hv.at_ i v h a b
   exact ⟨z,e,st8 _ _ (nd hz (λ_ z=>by cases z)) hz⟩
end
def fl1(v:V):Prop:=(∃i,v=.int i)\/∃s,v=.str s
theorem yhs{H:Hp}:∀{l vs:List V},(∀x∈l,fl1 x)->AtAll H vs (l.map dOf)->vs=l
 |[],_,_,h=>by cases h;rfl
 |x::l,_,hf,h=>by
  cases h with
  |cons a r=>
   have ih:=yhs (λy hy=>hf y (mem_cons_of_mem _ hy)) r
   rw[ih]
   rcases hf x (mem_cons_self ..) with ⟨i,rfl⟩|⟨s,rfl⟩
   ·rw[a.intEq]
   ·rw[a.strEq]
theorem hat_of{H:Hp}{v:V}{h:Hm}(hf:∀x∈h.r,fl1 x)(a:At H v (.tuple ((hV h).map dOf))):HAt H v h:=by
 obtain ⟨t,vs,rfl,ht,hw⟩:=a.tupEq
 refine ⟨t,rfl,?_⟩
 rw[ht,yhs (l:=hV h) (λx hx=>?_) hw]
 unfold hV at hx
 rcases mem_cons.mp hx with rfl|hx
 ·exact .inr ⟨_,rfl⟩
 ·rcases mem_append.mp hx with hx|hx
  ·obtain ⟨c,_,rfl⟩:=mem_map.mp hx
   exact .inl ⟨_,rfl⟩
  ·exact hf x hx
def hD(h:Hm):PyData:=.tuple ((hV h).map dOf)
theorem qli{H:Hp}:∀{us:List V}{hs:List Hm},(∀h∈hs,∀x∈h.r,fl1 x)->AtAll H us (hs.map hD)->HsV H us hs
 |us,hs,hf,h=>by
  refine ⟨by rw[h.length,length_map],λi v g h1 h2=>?_⟩
  obtain ⟨d,hd,ha⟩:=h.get h1
  rw[getElem?_map,h2]at hd
  cases hd
  exact hat_of (hf g (mem_of_getElem? h2)) ha
def ones(a v:Int):List Hm:=[⟨"stuck",[a],[.int v]⟩,⟨"slow",[a],[.int v]⟩,⟨"forgets",[a],[.int v]⟩,⟨"misreads",[a],[.int v]⟩,⟨"nowhere",[a],[.int v]⟩]
def twos(a b u v:Int):List Hm:=[⟨"turns",[a,b],[.int u]⟩,⟨"sets",[a,b],[.int u,.int v]⟩,⟨"keeps",[a,b],[.int u,.int v]⟩,⟨"other",[a,b],[]⟩]
def oneB(a b:Int)(u:Int):Hm:=⟨"both",[a,b],[.str (if u=0 then "and" else "or")]⟩
def ykg(n:Int)(h:Hm):Prop:=(∃ns,okH h ns)/\∀c∈h.c,0<=c/\c<n
theorem qlp{n a v:Int}(h0:0<=a)(h1:a<n)(hn:n<=64)(hv:bitV (.int v)):∀h∈ones a v,ykg n h:=by
 have rg:∀x∈([a]:List Int),0<=x/\x<64:=λx hx=>by rw[mem_singleton.mp hx];omega
 have rn:∀x∈([a]:List Int),0<=x/\x<n:=λx hx=>by rw[mem_singleton.mp hx];omega
 intro h hh
 unfold ones at hh
 simp only[mem_cons,not_mem_nil,or_false]at hh
 rcases hh with rfl|rfl|rfl|rfl|rfl
 ·exact ⟨⟨["bit"],qbr (by simp),.bit hv .nil,by simp,by simp,by simp,rg⟩,rn⟩
 ·exact ⟨⟨["bit"],qbr (by simp),.bit hv .nil,by simp,by simp,by simp,rg⟩,rn⟩
 ·exact ⟨⟨["bit"],qbr (by simp),.bit hv .nil,by simp,by simp,by simp,rg⟩,rn⟩
 ·exact ⟨⟨["bit"],qbr (by simp),.bit hv .nil,by simp,by simp,by simp,rg⟩,rn⟩
 ·exact ⟨⟨["bit"],qbr (by simp),.bit hv .nil,by simp,by simp,by simp,rg⟩,rn⟩
theorem qky{n a b u v:Int}(h0:0<=a)(h1:a<n)(h2:0<=b)(h3:b<n)(hne:a≠b)(hn:n<=64)(hu:bitV (.int u))(hv:bitV (.int v)):∀h∈twos a b u v++[oneB a b u],ykg n h:=by
 have rg:∀x∈([a,b]:List Int),0<=x/\x<64:=λx hx=>by
  simp at hx
  rcases hx with rfl|rfl<;>omega
 have rn:∀x∈([a,b]:List Int),0<=x/\x<n:=λx hx=>by
  simp at hx
  rcases hx with rfl|rfl<;>omega
 have nd:([a,b]:List Int).Nodup:=by simp[hne]
 intro h hh
 unfold twos at hh
 simp only[List.cons_append,List.nil_append,mem_cons,not_mem_nil,or_false]at hh
 rcases hh with rfl|rfl|rfl|rfl|rfl
 ·exact ⟨⟨["bit"],qen,.bit hu .nil,by simp,by simp,nd,rg⟩,rn⟩
 ·exact ⟨⟨["bit","bit"],qcc (.inl rfl),.bit hu (.bit hv .nil),by simp,by simp,nd,rg⟩,rn⟩
 ·exact ⟨⟨["bit","bit"],qcc (.inr rfl),.bit hu (.bit hv .nil),by simp,by simp,nd,rg⟩,rn⟩
 ·exact ⟨⟨[],qed,.nil,by simp,by simp,nd,rg⟩,rn⟩
 ·refine ⟨⟨["how"],yem,.how ?_ .nil,⟨le_of_ble_eq_true rfl,le_of_ble_eq_true rfl⟩,by simp,nd,rg⟩,rn⟩
  unfold howV
  by_cases e:u=0
  ·rw[if_pos e];exact .inl rfl
  ·rw[if_neg e];exact .inr rfl
theorem qj8{n a k:Int}(h0:0<=a)(h1:a<n)(k1:1<=k)(k2:k<n):(a+k) % n≠a/\0<=(a+k) % n/\(a+k) % n<n:=by
 have hp:(0:Int)<n:=by omega
 refine ⟨?_,emod_nonneg _ (by omega),emod_lt_of_pos _ hp⟩
 by_cases h:a+k<n
 ·rw[Int.emod_eq_of_lt (by omega) h];omega
 ·rw[show a+k=(a+k-n)+n by omega,Int.add_emod_right,Int.emod_eq_of_lt (by omega) (by omega)];omega
theorem qjs{d:Int}(h0:0<=d)(h1:d<2):∃b,d=b2i b:=by
 rcases (by omega:d=0\/d=1) with rfl|rfl
 ·exact ⟨false,rfl⟩
 ·exact ⟨true,rfl⟩
theorem HsV.upL{H:Hp}{us:List V}{hs:List Hm}{D:Addr}{xs:List V}{o:HO}(x:HsV H us hs)(hD:H D=some (.lst xs)):HsV (L2.upd H D o) us hs:=⟨x.len,λi v h a b=>by
 obtain ⟨z,e,hz⟩:=x.at_ i v h a b
 exact ⟨z,e,by rw[yae (λq=>by subst q;rw[hD]at hz;cases hz)];exact hz⟩⟩
theorem HsV.snoc{H:Hp}{us:List V}{hs:List Hm}{v:V}{h:Hm}(x:HsV H us hs)(hv:HAt H v h):HsV H (us++[v]) (hs++[h]):=by
 refine ⟨by simp[x.len],λi v' h' a b=>?_⟩
 by_cases hi:i<us.length
 ·rw[getElem?_append_left hi]at a
  rw[getElem?_append_left (by rw[<-x.len];exact hi)]at b
  exact x.at_ i v' h' a b
 ·have hi':i=us.length:=by
   have:=(List.getElem?_eq_some_iff.mp a).1
   simp at this
   omega
  subst hi'
  rw[getElem?_append_right (le_refl _)]at a
  rw[x.len,getElem?_append_right (le_refl _)]at b
  simp at a b
  subst a b
  exact hv
theorem rest_fl{ns:List Str}{rr:List V}(re:Rest ns rr):∀x∈rr,fl1 x:=by
 induction re with
 |nil=>intro x hx;cases hx
 |bit hb _ ih=>
  obtain ⟨b,rfl⟩:=hb
  intro x hx
  rcases mem_cons.mp hx with rfl|hx
  ·exact .inl ⟨_,rfl⟩
  ·exact ih x hx
 |how hb _ ih=>
  intro x hx
  rcases mem_cons.mp hx with rfl|hx
  ·rcases hb with rfl|rfl<;>exact .inr ⟨_,rfl⟩
  ·exact ih x hx
theorem fr(h:Hm)(o:∃ns,okH h ns):∀x∈h.r,fl1 x:=by
 obtain ⟨ns,o⟩:=o
 exact rest_fl o.rest
theorem lay_c{te:TE}{ta:TA}{σ:L2.St}{H:Hp}{d:PyData}{Q:List V->Hp->Prop}(h:Lay [] te σ d H)(k:∀v H',Same H H'->At H' v d->ta σ H' λvs H2=>Q (v::vs) H2):qdm te ta σ H Q:=
 h (λb hb=>by cases hb) H (smR H) _ λv H' s a=>k v H' s (a.same (qba _ _))
section
variable {P:Program}{w:World}{K:W.Frag}{mg:Str->Option Value}{base:Heap}
def yjn:Sp:=λvs H Q _=>∃(D:Addr) (d0 d1 d2 d3 d4:Int) (n:Int),vs=[.ref D,.int n]/\H D=some (.lst [.int d0,.int d1,.int d2,.int d3,.int d4])/\0<=d0/\0<=d1/\0<=d2/\0<=d3/\d3<2/\0<=d4/\d4<2/\1<=n/\n<=64/\
 ∀v h H',Same H H'->HAt H' v h->ykg n h->Q v H'
abbrev qd5:Stmt:=top 80
theorem qey:FnScope ["_law_d","_law_size","_law_a","_law_b","_law_u","_law_v","_law_some"] ["_law_d","_law_size"] (yac qd5):=fsc
theorem ok_lharm(B:Bl mg)(F:FnAt K mg "_law_harm" qd5 ["_law_d","_law_size"]):Has P w K mg base 1 "_law_harm" ["_law_d","_law_size"] yjn:=by
 refine Has.ofQ F qey (λvs H Q E h=>?_) (λ_ _ _ _ _ H vs Q E hr h=>?_)
 ·obtain ⟨D,d0,d1,d2,d3,d4,n,rfl,_⟩:=h
  rfl
 ·obtain ⟨D,d0,d1,d2,d3,d4,n,rfl,hDD,p0,p1,p2,p3,q3,p4,q4,n1,n64,k⟩:=h
  have sc:=qey
  refine ⟨_,(yam rfl (qae (qsE 2 sc.nd (yat qck (qav yaj (qaa (pv 0)) (qaa qac)) (qaa (pv 1))))
   (qae (qsE 3 sc.nd (yat qck (yat ybg (yat ybg (qaa (pv 2)) (qaa qac)) (yat qck (qav yaj (qaa (pv 0)) (qaa qac)) (qax (qh8 rfl) rfl (B.of rfl) boot_max (yas (qaa qac) (ygz (yat yhx (qaa (pv 1)) (qaa qac)) yad))))) (qaa (pv 1))))
   (qae (qsE 4 sc.nd (qav yaj (qaa (pv 0)) (qaa qac)))
   (qae (qsE 5 sc.nd (qav yaj (qaa (pv 0)) (qaa qac)))
   (qae (qsE 6 sc.nd (qa5 (qc3 (qbl (yas (qaa yan) (yah (qaa (pv 2)) (yah (qaa (pv 5)) yad)))) (qc3 (qbl (yas (qaa yan) (yah (qaa (pv 2)) (yah (qaa (pv 5)) yad)))) (qc3 (qbl (yas (qaa yan) (yah (qaa (pv 2)) (yah (qaa (pv 5)) yad)))) (qc3 (qbl (yas (qaa yan) (yah (qaa (pv 2)) (yah (qaa (pv 5)) yad)))) (qc3 (qbl (yas (qaa yan) (yah (qaa (pv 2)) (yah (qaa (pv 5)) yad)))) yad)))))))
   (yl3 (qbc (ya9 qis (qaa (pv 1)) (qaa qac) (yak _))
    (qae (qsE 6 sc.nd (yat ygr (qaa (pv 6)) (qa5 (qc3 (qbl (yas (qaa yan) (yah (qaa (pv 2)) (yah (qaa (pv 3)) (yah (qaa (pv 4)) yad))))) (qc3 (qbl (yas (qaa yan) (yah (qaa (pv 2)) (yah (qaa (pv 3)) (yah (qaa (pv 4)) (yah (qaa (pv 5)) yad)))))) (qc3 (qbl (yas (qaa yan) (yah (qaa (pv 2)) (yah (qaa (pv 3)) (yah (qaa (pv 4)) (yah (qaa (pv 5)) yad)))))) (qc3 (qbl (yas (qaa yan) (yah (qaa (pv 2)) (yah (qaa (pv 3)) yad)))) yad)))))))
    (qag (qar (ymf PySem.F.plainAttrs_list PySem.F.slot_list_append PySem.F.type_list_append ya1 (qaa (pv 6)) (qc3 (qbl (yas (qaa yan) (yah (qaa (pv 2)) (yah (qaa (pv 3)) (ycu (qav yaj (qa5 (yas (qaa yan) (yas (qaa yan) yad))) (qaa (pv 4))) yad))))) yad)))))
    ya3)
   (qag (qas (qav yaj (qaa (pv 6)) (yat qck (qav yaj (qaa (pv 0)) (qaa qac)) (qax qah rfl (B.of rfl) boot_len (yah (qaa (pv 6)) yad))))))))))))),?_⟩
  have a0:=emod_nonneg d1 (b:=n) (by omega)
  have a1:=emod_lt_of_pos d1 (b:=n) (by omega)
  refine ⟨_,rfl,D,_,_,_,rfl,rfl,sqlO hDD,yaf 1 rfl,_,rfl,_,_,rfl,rfl,by omega,?_⟩
  refine gn ?_
  dsimp only
  obtain ⟨a,ha⟩:∃a,d1 % n=a:=⟨_,rfl⟩
  rw[ha]at a0 a1 ⊢
  refine ⟨_,rfl,_,_,rfl,rfl,_,rfl,D,_,_,_,rfl,rfl,sqlO hDD,yaf 2 rfl,_,rfl,_,_,rfl,rfl,_,_,rfl,_,_,rfl,rfl,(by show (0:Int)<(if n-1>1 then n-1 else 1);split<;>omega),_,_,rfl,rfl,_,rfl,_,_,rfl,rfl,by omega,?_⟩
  show ydm 3 (V.int ((a+1+d2 % (if n-1>1 then n-1 else 1)) % n)) _ _ _
  obtain ⟨b,hb,hb2⟩:∃b,(a+1+d2 % (if n-1>1 then n-1 else 1)) % n=b/\(1<n->a≠b/\0<=b/\b<n):=by
   refine ⟨_,rfl,λhn1=>?_⟩
   have e:(if n-1>1 then n-1 else 1)=n-1:=by split<;>omega
   rw[e]
   have m0:=emod_nonneg d2 (b:=n-1) (by omega)
   have m1:=emod_lt_of_pos d2 (b:=n-1) (by omega)
   rw[show a+1+d2 % (n-1)=a+(1+d2 % (n-1)) by omega]
   obtain ⟨h1,h2,h3⟩:=qj8 (k:=1+d2 % (n-1)) a0 a1 (by omega) (by omega)
   exact ⟨λz=>h1 z.symm,h2,h3⟩
  rw[hb]
  refine gn ?_
  dsimp only
  refine ⟨_,rfl,D,_,_,_,rfl,rfl,sqlO hDD,yaf 3 rfl,?_⟩
  refine ⟨_,rfl,D,_,_,_,rfl,rfl,sqlO hDD,yaf 4 rfl,?_⟩
  refine gn ?_
  dsimp only
  have bu:bitV (.int d3):=by obtain ⟨b,rfl⟩:=qjs p3 q3;exact ⟨b,rfl⟩
  have bv:bitV (.int d4):=by obtain ⟨b,rfl⟩:=qjs p4 q4;exact ⟨b,rfl⟩
  have g1:=qlp a0 a1 n64 bv
  have ia:At H (.int a) (.int a):=.int _
  have iv:At H (.int d4) (.int d4):=.int _
  refine lay_set (d:=.list ((ones a d4).map hD)) ?_ λx1 H1 s1 x1a=>?_
  ·show Lay [] _ _ (.list [.tuple [.str "stuck",.int a,.int d4],.tuple [.str "slow",.int a,.int d4],.tuple [.str "forgets",.int a,.int d4],.tuple [.str "misreads",.int a,.int d4],.tuple [.str "nowhere",.int a,.int d4]]) _
   repeat' (first|exact ymi|exact lay_bl|exact qd4|exact qg0|exact ylr|exact qeu|refine ybl ?_ ?_|refine qhh ?_|refine yd0 ?_|exact yhe rfl (.int _))
  -- behind the second sort
  refine ⟨λσ' HX=>∃(p:Addr) (us:List V) (hs:List Hm),σ'=[some (.ref D),some (.int n),some (.int a),some (.int b),some (.int d3),some (.int d4),some (.ref p)]/\Same H HX/\HX p=some (.lst us)/\HsV HX us hs/\1<=hs.length/\hs.length<=10/\∀h∈hs,ykg n h,?_,?_⟩
  ·refine ⟨_,rfl,_,_,rfl,rfl,_,rfl,?_⟩
   by_cases hn1:1<n
   ·refine iteB (decide_eq_true hn1) ?_
    obtain ⟨hne,b0,b1⟩:=hb2 hn1
    have g2:=qky a0 a1 b0 b1 hne n64 bu bv
    refine ⟨_,rfl,?_⟩
    refine yma (L:=[]) (d:=.list ((twos a b d3 d4).map hD)) ?_ (λb hb=>by cases hb) λx2 H2 s2 x2a=>?_
    ·show Lay [] _ _ (.list [.tuple [.str "turns",.int a,.int b,.int d3],.tuple [.str "sets",.int a,.int b,.int d3,.int d4],.tuple [.str "keeps",.int a,.int b,.int d3,.int d4],.tuple [.str "other",.int a,.int b]]) _
     repeat' (first|exact ymi|exact lay_bl|exact qd4|exact qg0|exact ylr|exact qeu|refine ybl ?_ ?_|refine qhh ?_|refine yd0 ?_|exact yhe rfl (.int _))
    obtain ⟨q,ys,rfl,hq,hwq⟩:=(x2a.same (qba _ _)).lstEq
    obtain ⟨p1,us1,rfl,hp1,hw1⟩:=(x1a.same s2).lstEq
    have l1:us1.length=5:=hw1.length
    have l2:ys.length=4:=hwq.length
    refine ⟨p1,q,us1,ys,rfl,rfl,hp1,hq,qd3 (by omega),λp hp=>?_⟩
    have nH:H p=none:=(s1.trans s2).free hp
    have hw:AtAll H2 (us1++ys) ((ones a d4++twos a b d3 d4).map hD):=by rw[map_append];exact hw1.append hwq
    have hv2:=qli (hs:=ones a d4++twos a b d3 d4) (λh hh=>fr h (by
     rcases mem_append.mp hh with hh|hh
     ·exact (g1 h hh).1
     ·exact (g2 h (mem_append_left _ hh)).1)) hw
    generalize hG3:upd H2 p _=H3
    have s3:Same H2 H3:=by rw[<-hG3];exact (smR H2).upd hp
    have f3:H3 p=some (.lst (us1++ys)):=by rw[<-hG3];exact qab
    clear hG3
    refine gn ?_
    dsimp only
    refine ⟨_,rfl,.inl ⟨rfl,_,sqlO f3⟩,?_⟩
    refine lay_c (d:=hD (oneB a b d3)) ?_ λv4 H4 s4 a4=>?_
    ·show Lay [] _ _ (.tuple [.str "both",.int a,.int b,.str (if d3=0 then "and" else "or")]) _
     refine qhh (ybl qg0 (ybl (yhe rfl (.int _)) (ybl (yhe rfl (.int _)) (ybl ?_ qeu))))
     have hix:atI [V.str "and",.str "or"] d3=some (.str (if d3=0 then "and" else "or")):=by
      rcases (by omega:d3=0\/d3=1) with rfl|rfl<;>rfl
     exact λhL H7 s7 Q7 k7=>⟨zl,λq hq=>⟨_,rfl,q,_,_,_,rfl,rfl,sqlO qab,hix,k7 _ _ ((smR H7).upd hq) (.str _)⟩⟩
    ·have hat:HAt H4 v4 (oneB a b d3):=hat_of (fr _ (g2 _ (by simp)).1) a4
     refine ⟨p,us1++ys,v4,rfl,rfl,s4 _ _ f3,qa8 (by rw[length_append];omega),?_⟩
     refine ⟨p,us1++ys++[v4],(ones a d4++twos a b d3 d4)++[oneB a b d3],rfl,(((s1.trans s2).trans s3).trans s4).at nH,qab,((hv2.same (s3.trans s4)).snoc hat).upL (s4 _ _ f3),le_of_ble_eq_true rfl,le_of_ble_eq_true rfl,λh hh=>?_⟩
     rw[List.append_assoc]at hh
     rcases mem_append.mp hh with hh|hh
     ·exact g1 h hh
     ·exact g2 h hh
   ·refine iteN (decide_eq_false hn1) ?_
    obtain ⟨p,us,rfl,hp,hw⟩:=x1a.lstEq
    exact ⟨p,us,ones a d4,rfl,s1,hp,qli (λh hh=>fr h (g1 h hh).1) hw,le_of_ble_eq_true rfl,le_of_ble_eq_true rfl,g1⟩
  ·rintro σ1 HX ⟨p,us,hs,rfl,sX,eX,hvX,l1,l10,hg⟩
   have hul:=hvX.len
   have hDX:=sX _ _ hDD
   obtain ⟨j,hj,hjl⟩:∃j:Nat,d0 % (us.length:Int)=(j:Int)/\j<us.length:=by
    have h1:=emod_nonneg d0 (b:=(us.length:Int)) (by omega)
    have h2:=emod_lt_of_pos d0 (b:=(us.length:Int)) (by omega)
    exact ⟨(d0 % (us.length:Int)).toNat,by omega,by omega⟩
   have hgj:hs[j]?=some (hs[j]'(by omega)):=getElem?_eq_getElem _
   refine ⟨_,rfl,_,rfl,D,_,_,_,rfl,rfl,sqlO hDX,yaf 0 rfl,_,rfl,p,_,rfl,.inl (sqlO eX),_,_,rfl,rfl,(by show (0:Int)<(us.length:Int);omega),p,us,_,us[j],rfl,rfl,sqlO eX,?_,k _ _ HX sX (hvX.at_ j _ _ (getElem?_eq_getElem hjl) hgj) (hg _ (mem_of_getElem? hgj))⟩
   show atI us (d0 % (us.length:Int))=_
   rw[hj]
   exact qb2 (getElem?_eq_getElem hjl)
theorem in5{s a b c d e:Str}:inV (.str s) (([a,b,c,d,e]:List Str).map V.str)=decide (s=a\/s=b\/s=c\/s=d\/s=e):=by
 unfold inV
 rw[Bool.eq_iff_iff]
 simp[eqS]
theorem yl1{h:Hm}{ns:List Str}(o:okH h ns):(h.w="stuck"\/h.w="slow"\/h.w="forgets"\/h.w="misreads"\/h.w="nowhere")\/h.w="turns"\/(h.w="sets"\/h.w="keeps")\/h.w="other"\/h.w="both":=by
 have hk:KTD.inKeys h.w tabP=true:=by rw[<-KTD.isSome_datumAt,o.tab];rfl
 have:h.w="stuck"\/h.w="slow"\/h.w="forgets"\/h.w="misreads"\/h.w="turns"\/h.w="sets"\/h.w="keeps"\/h.w="nowhere"\/h.w="other"\/h.w="both":=by
  simpa [tabP,KTD.inKeys] using hk
 rcases this with e|e|e|e|e|e|e|e|e|e
 ·exact .inl (.inl e)
 ·exact .inl (.inr (.inl e))
 ·exact .inl (.inr (.inr (.inl e)))
 ·exact .inl (.inr (.inr (.inr (.inl e))))
 ·exact .inr (.inl e)
 ·exact .inr (.inr (.inl (.inl e)))
 ·exact .inr (.inr (.inl (.inr e)))
 ·exact .inl (.inr (.inr (.inr (.inr e))))
 ·exact .inr (.inr (.inr (.inl e)))
 ·exact .inr (.inr (.inr (.inr e)))
def two5:List Str:=["turns","sets","keeps","other","both"]
theorem two_is{h:Hm}{ns:List Str}(o:okH h ns):inV (.str h.w) (two5.map V.str)=decide (h.c.length=2):=by
 unfold two5
 rw[in5]
 rcases yl1 o with hw|hw|hw|hw|hw
 ·obtain ⟨a,b,hc,_⟩:=o.s1 (qbr hw)
  rw[show h.c.length=1 by rw[hc];rfl]
  rcases hw with hw|hw|hw|hw|hw<;>rw[hw]<;>decide +kernel
 ·obtain ⟨a,b,x,hc,_⟩:=o.sTurns (by rw[hw];exact qen)
  rw[show h.c.length=2 by rw[hc];rfl,hw];decide +kernel
 ·obtain ⟨a,b,x,y,hc,_⟩:=o.sSets (qcc hw)
  rw[show h.c.length=2 by rw[hc];rfl]
  rcases hw with hw|hw<;>rw[hw]<;>decide +kernel
 ·obtain ⟨a,b,hc,_⟩:=o.sOther (by rw[hw];exact qed)
  rw[show h.c.length=2 by rw[hc];rfl,hw];decide +kernel
 ·obtain ⟨a,b,v,hc,_⟩:=o.sBoth (by rw[hw];exact yem)
  rw[show h.c.length=2 by rw[hc];rfl,hw];decide +kernel
theorem ylx{hs:List Hm}(o:Oks hs):(allC hs).length<=2*hs.length:=by
 induction hs with
 |nil=>simp[allC]
 |cons h hs ih=>
  have:=ih λg hg=>o g (mem_cons_of_mem _ hg)
  obtain ⟨ns,oh⟩:=o h (mem_cons_self ..)
  have hc:=oh.cl
  unfold allC at this ⊢
  rw[flatMap_cons,length_append,length_cons]
  omega
def yf4:Sp:=λvs H Q _=>∃L us hs,vs=[.ref L]/\H L=some (.lst us)/\HsV H us hs/\Oks hs/\hs.length<=4/\∀(D:Addr) (ns:List Int) (H':Hp),Same H H'->H D=none->H' D=some (.lst (ns.map V.int))->ns.Perm (uniq (allC hs))->ns.Pairwise (·<=·)->Q (.ref D) H'
abbrev qc5:Stmt:=top 81
theorem qek:FnScope ["_law_harms_here","_law_found","_law_harm_here"] ["_law_harms_here"] (yac qc5):=fsc
theorem qmc(B:Bl mg)(qcz:mg "set"=none)(F:FnAt K mg "_law_cells" qc5 ["_law_harms_here"]):Has P w K mg base 1 "_law_cells" ["_law_harms_here"] yf4:=by
 refine Has.ofQ F qek (λvs H Q E h=>?_) (λ_ _ _ _ _ H vs Q E hr h=>?_)
 ·obtain ⟨L,us,hs,rfl,_⟩:=h
  rfl
 ·obtain ⟨L,us,hs,rfl,hL,hv,ok,h4,k⟩:=h
  have sc:=qek
  refine ⟨_,(yam rfl (qae (qsE 1 sc.nd (qa5 yad))
   (qae (yb2 PassesOwn.never rfl (qf9 (qaa (pv 0))) (pgn 2 sc.nd)
    (qae (qar (ymf PySem.F.plainAttrs_list PySem.F.slot_list_append PySem.F.type_list_append ya1 (qaa (pv 1)) (ycu (qav yal (qaa (pv 2)) (qaa qac)) yad)))
    (qag (qbc (ya9 qbd (qav yal (qaa (pv 2)) (qaa qac)) (qe_tstrs (xs:=["turns","sets","keeps","other","both"]) (by decide +kernel)) (by with_unfolding_all rfl))
     (qag (qar (ymf PySem.F.plainAttrs_list PySem.F.slot_list_append PySem.F.type_list_append ya1 (qaa (pv 1)) (ycu (qav yal (qaa (pv 2)) (qaa qac)) yad))))
     ya3))))
   (qag (qas (qax (qdb rfl) rfl (B.of rfl) yax (qfd (qch (qdc rfl) rfl qcz yci (yah (qaa (pv 1)) yad)) yad))))))),?_⟩
  have z5:5<=sizeLine:=by decide
  have al:∀i,(allC (hs.take i)).length<=8:=λi=>by
   have h1:=ylx (hs:=hs.take i) λh hh=>ok h (mem_of_mem_take hh)
   rw[length_take]at h1
   omega
  refine ⟨zero_le _,λp hp=>?_⟩
  generalize hG1:upd H p _=H1
  have s1:Same H H1:=by rw[<-hG1];exact (smR H).upd hp
  have f1:H1 p=some (.lst []):=by rw[<-hG1];exact qab
  clear hG1
  refine ⟨_,rfl,L,rfl,⟨us,sqlO (s1 _ _ hL)⟩,qa7 (xs:=us) (λi σ H2=>∃(o2:Option V),σ=[some (.ref L),some (.ref p),o2]/\Same H H2/\H2 p=some (.lst ((allC (hs.take i)).map V.int)))
   ⟨none,rfl,s1,f1⟩ (λi σ H2 _ ⟨_,_,h,_⟩=>sqlO (h _ _ hL)) ?_ ?_⟩
  ·rintro i x σ H2 hx ⟨o2,rfl,s2,e2⟩
   obtain ⟨g,hg,hat⟩:=hv.get hx
   obtain ⟨nn,og⟩:=ok g (mem_of_getElem? hg)
   obtain ⟨a,rfl,ha⟩:=HAt.same s2 hat
   have ali:=al i
   refine ⟨_,rfl,.inl ⟨rfl,_,sqlO e2⟩,?_⟩
   refine ⟨_,rfl,a,_,_,_,rfl,rfl,sqtO ha,yaf 1 og.at1,p,_,_,rfl,rfl,e2,qa8 (by rw[length_map];omega),?_⟩
   have nap:a≠p:=λz=>by subst z;rw[e2]at ha;cases ha
   generalize hG3:upd H2 p _=H3
   have s3:Same H H3:=by rw[<-hG3];exact s2.at hp
   have f3:H3 p=some (.lst ((allC (hs.take i)).map V.int++[.int (g.cell 0)])):=by rw[<-hG3];exact qab
   have ha3:H3 a=some (.tup (hV g)):=by rw[<-hG3,yae nap];exact ha
   clear hG3
   refine ⟨_,rfl,a,_,_,_,rfl,rfl,sqtO ha3,yaf 0 rfl,z5,λt ht=>?_⟩
   have s4:Same H3 (upd H3 t (.tup (two5.map V.str))):=(smR H3).upd ht
   refine ⟨t,two5.map V.str,rfl,.inr (sqtO qab),rfl,rfl,_,rfl,?_⟩
   generalize hG4:upd H3 t _=H4
   have s4:Same H3 H4:=by rw[<-hG4];exact s4
   clear hG4
   rcases yb5 og with ⟨c,hc⟩|⟨c,c2,hc⟩
   ·refine iteN (by show inV _ _=false;rw[two_is og,hc];rfl) ?_
    refine ⟨_,rfl,s3.trans s4,?_⟩
    rw[s4 _ _ f3,ycm hg,hc,map_append]
    unfold Hm.cell
    rw[hc]
    rfl
   ·refine iteB (by show inV _ _=true;rw[two_is og,hc];rfl) ?_
    have h2:(hV g)[2]?=some (.int c2):=by unfold hV;rw[hc];rfl
    refine ⟨_,rfl,.inl ⟨rfl,_,sqlO (s4 _ _ f3)⟩,?_⟩
    refine ⟨_,rfl,a,_,_,_,rfl,rfl,sqtO (s4 _ _ ha3),yaf 2 h2,p,_,_,rfl,rfl,s4 _ _ f3,qa8 (by rw[length_append,length_map];simp;omega),?_⟩
    refine ⟨_,rfl,(s3.trans s4).at hp,?_⟩
    rw[qab,ycm hg,hc,map_append]
    unfold Hm.cell
    rw[hc]
    simp
  ·rintro σ H2 ⟨o2,rfl,s2,e2⟩
   rw[hv.len,take_length]at e2
   have a8:=ylx ok
   have u8:=uniq_len (allC hs)
   refine ⟨_,rfl,p,_,rfl,e2,by omega,λq hq=>?_⟩
   have s6:Same H2 (upd H2 q (SetO P w q (uniq (allC hs)))):=(smR H2).upd hq
   refine ⟨q,_,rfl,qab,by omega,λl ns hl hpm hso=>?_⟩
   exact k l ns _ ((s2.trans s6).upd hl) ((s2.trans s6).free hl) qab hpm hso
theorem take5{l:List Int}{a:Nat}(h:a+5<=l.length):(l.drop a).take 5=[l.getD a 0,l.getD (a+1) 0,l.getD (a+2) 0,l.getD (a+3) 0,l.getD (a+4) 0]:=by
 have g:∀k,k<l.length->l.getD k 0=l[k]?.getD 0:=λk _=>getD_eq_getElem?_getD ..
 rw[List.drop_eq_getElem_cons (show a<l.length by omega),List.drop_eq_getElem_cons (show a+1<l.length by omega),List.drop_eq_getElem_cons (show a+1+1<l.length by omega),List.drop_eq_getElem_cons (show a+1+1+1<l.length by omega),List.drop_eq_getElem_cons (show a+1+1+1+1<l.length by omega)]
 simp only[List.take_succ_cons,List.take_zero,getD_eq_getElem?_getD]
 rw[getElem?_eq_getElem (show a<l.length by omega),getElem?_eq_getElem (show a+1<l.length by omega),getElem?_eq_getElem (show a+2<l.length by omega),getElem?_eq_getElem (show a+3<l.length by omega),getElem?_eq_getElem (show a+4<l.length by omega)]
 rfl
theorem qly{xs:List V}{a b:Nat}:cutV xs (some (a:Int)) (some (b:Int))=(xs.drop (min a xs.length)).take (min b xs.length-min a xs.length):=by
 unfold cutV
 rw[HT.sIx_nat,HT.sIx_nat]
def dg16:List Int:=[4,20,64,64,2,2,20,64,64,2,2,20,64,64,2,2]
theorem dg_at{ds:List Int}(h:Dig ds dg16){i:Nat}(hi:i<3):ds.length=16/\0<=ds.getD (1+5*i) 0/\0<=ds.getD (1+5*i+1) 0/\0<=ds.getD (1+5*i+2) 0/\(0<=ds.getD (1+5*i+3) 0/\ds.getD (1+5*i+3) 0<2)/\0<=ds.getD (1+5*i+4) 0/\ds.getD (1+5*i+4) 0<2:=by
 have g:∀{j:Nat}{z:Int},dg16[j]?=some z->0<=ds.getD j 0/\ds.getD j 0<z:=λ{j z} hz=>by
  obtain ⟨d,h1,h2,h3⟩:=h.get hz
  rw[getD_eq_getElem?_getD,h1]
  exact ⟨h2,h3⟩
 refine ⟨h.1,?_⟩
 rcases (by omega:i=0\/i=1\/i=2) with rfl|rfl|rfl
 ·exact ⟨(g (j:=1) rfl).1,(g (j:=2) rfl).1,(g (j:=3) rfl).1,g (j:=4) rfl,(g (j:=5) rfl).1,(g (j:=5) rfl).2⟩
 ·exact ⟨(g (j:=6) rfl).1,(g (j:=7) rfl).1,(g (j:=8) rfl).1,g (j:=9) rfl,(g (j:=10) rfl).1,(g (j:=10) rfl).2⟩
 ·exact ⟨(g (j:=11) rfl).1,(g (j:=12) rfl).1,(g (j:=13) rfl).1,g (j:=14) rfl,(g (j:=15) rfl).1,(g (j:=15) rfl).2⟩
def qhx:Sp:=λvs H Q _=>∃(D:Addr) (ds:List Int) (n:Int),vs=[.ref D,.int n]/\H D=some (.lst (ds.map V.int))/\Dig ds dg16/\1<=n/\n<=64/\∀(p:Addr) (us:List V) (hs:List Hm) (S:List Int) (H':Hp),Same H H'->H p=none->H' p=some (.lst us)->HsV H' us hs->okHs hs S->(∀h∈hs,ykg n h)->Q (.ref p) H'
abbrev ydd:Stmt:=top 82
theorem qee:FnScope ["_law_d","_law_size","_law_harms_here","_law_k","_law_more"] ["_law_d","_law_size"] (yac ydd):=fsc
theorem qlg(B:Bl mg)(qit:Has P w K mg base 1 "_law_harm" ["_law_d","_law_size"] yjn)(yc4:Has P w K mg base 1 "_law_cells" ["_law_harms_here"] yf4)(F:FnAt K mg "_law_harms" ydd ["_law_d","_law_size"]):Has P w K mg base 2 "_law_harms" ["_law_d","_law_size"] qhx:=by
 refine Has.ofQ F qee (λvs H Q E h=>?_) (λ_ _ _ _ _ H vs Q E hr h=>?_)
 ·obtain ⟨D,ds,n,rfl,_⟩:=h
  rfl
 ·obtain ⟨D,ds,n,rfl,hD,hdg,n1,n64,k⟩:=h
  have sc:=qee
  refine ⟨_,(yam rfl (qae (qsE 2 sc.nd (qa5 yad))
   (qae (yb2 PassesOwn.never rfl (ygg (qb0 rfl (B.of rfl) (yaa (qaq yaj (pv 0) qac) qad))) (pgn 3 sc.nd)
    (qae (qsE 4 sc.nd (yat ygr (qaa (pv 2)) (qa5 (qfd (qaj qit hr (ycu (qe_sl yhl (qaa (pv 0)) (qc6 (qb7 ybg qac (qb7 qcb qac (pv 3)))) (qc6 (qb7 ybg qac (qb7 qcb qac (pv 3))))) (yah (qaa (pv 1)) yad))) yad))))
    (qag (qbc (ya9 yi1 (qax qah rfl (B.of rfl) boot_len (qfd (qaj yc4 hr (yah (qaa (pv 4)) yad)) yad)) (qaa qac) (yak _))
     (qag (qsE 2 sc.nd (qaa (pv 4))))
     ya3))))
   (qag (qas (qaa (pv 2))))))),?_⟩
  have z1:1<=sizeLine:=by decide
  obtain ⟨d0,g0,m0,m4⟩:=hdg.get (i:=0) (z:=4) rfl
  obtain ⟨nn,hnn⟩:∃nn:Nat,d0=(nn:Int):=⟨d0.toNat,by omega⟩
  subst hnn
  refine ⟨zero_le _,λp0 hp0=>?_⟩
  generalize hG1:upd H p0 _=H1
  have s1:Same H H1:=by rw[<-hG1];exact (smR H).upd hp0
  have f1:H1 p0=some (.lst []):=by rw[<-hG1];exact qab
  clear hG1
  refine ⟨_,rfl,D,_,_,_,rfl,rfl,sqlO (s1 _ _ hD),yaf 0 (qby g0),nn,rfl,by omega,by omega,ycj (n:=nn) (λi σ H2=>∃(p:Addr) (us:List V) (hs:List Hm) (S:List Int) (o3 o4:Option V),σ=[some (.ref D),some (.int n),some (.ref p),o3,o4]/\Same H H2/\H p=none/\H2 p=some (.lst us)/\HsV H2 us hs/\hs.length<=i/\okHs hs S/\∀h∈hs,ykg n h)
   ⟨p0,[],[],[],_,_,rfl,s1,hp0,f1,⟨rfl,λi v h a b=>by simp at a⟩,by simp,⟨by simp,(λ_ h=>nomatch h),by simp,(λ_ h=>nomatch h)⟩,(λ_ h=>nomatch h)⟩ ?_ ?_⟩
  ·rintro i σ H2 hi ⟨p,us,hs,S,o3,o4,rfl,s2,np,e2,hv,hl,ok,hg⟩
   obtain ⟨dl,q0,q1,q2,q3,q4⟩:=dg_at hdg (i:=i) (by omega)
   have cm5:CMul 5 (0+(i:Int)):=.inl ⟨by decide,by decide⟩
   refine ⟨_,rfl,_,rfl,_,rfl,_,_,rfl,rfl,cm5,_,_,rfl,rfl,((1+5*i:Nat):Int),congrArg V.int (by show (1:Int)+5*(0+(i:Int))=_;omega),_,rfl,_,_,rfl,rfl,cm5,_,_,rfl,rfl,((6+5*i:Nat):Int),congrArg V.int (by show (6:Int)+5*(0+(i:Int))=_;omega),D,_,rfl,sqlO (s2 _ _ hD),λq hq=>?_⟩
   have ecut:cutV (ds.map V.int) (some ((1+5*i:Nat):Int)) (some ((6+5*i:Nat):Int))=[V.int (ds.getD (1+5*i) 0),.int (ds.getD (1+5*i+1) 0),.int (ds.getD (1+5*i+2) 0),.int (ds.getD (1+5*i+3) 0),.int (ds.getD (1+5*i+4) 0)]:=by
    rw[qly,length_map,dl,show min (6+5*i) 16-min (1+5*i) 16=5 by omega,show min (1+5*i) 16=1+5*i by omega,<-map_drop,<-map_take,take5 (by omega)]
    rfl
   rw[ecut]
   generalize hG3:upd H2 q _=H3
   have s3:Same H2 H3:=by rw[<-hG3];exact (smR H2).upd hq
   have f3:H3 q=some (.lst [V.int (ds.getD (1+5*i) 0),.int (ds.getD (1+5*i+1) 0),.int (ds.getD (1+5*i+2) 0),.int (ds.getD (1+5*i+3) 0),.int (ds.getD (1+5*i+4) 0)]):=by rw[<-hG3];exact qab
   clear hG3 ecut
   refine ⟨_,rfl,q,_,_,_,_,_,n,rfl,f3,q0,q1,q2,q3.1,q3.2,q4.1,q4.2,n1,n64,λv h H4 s4 hat hgd=>?_⟩
   refine ⟨z1,λb hb=>?_⟩
   generalize hG5:upd H4 b _=H5
   have s5:Same H4 H5:=by rw[<-hG5];exact (smR H4).upd hb
   have f5:H5 b=some (.lst [v]):=by rw[<-hG5];exact qab
   clear hG5
   have s25:=(s3.trans s4).trans s5
   have hul:=hv.len
   refine ⟨p,b,us,_,rfl,rfl,s25 _ _ e2,f5,qd3 (by simp;omega),λp2 hp2=>?_⟩
   generalize hG6:upd H5 p2 _=H6
   have s6:Same H5 H6:=by rw[<-hG6];exact (smR H5).upd hp2
   have f6:H6 p2=some (.lst (us++[v])):=by rw[<-hG6];exact qab
   clear hG6
   have s26:=s25.trans s6
   have np2:H p2=none:=(s2.trans s25).free hp2
   have hv6:HsV H6 (us++[v]) (hs++[h]):=(hv.same s26).snoc (HAt.same (s5.trans s6) hat)
   have oks6:Oks (hs++[h]):=λg hg'=>by
    rcases mem_append.mp hg' with hg'|hg'
    ·exact ok.ok g hg'
    ·rw[mem_singleton.mp hg'];exact hgd.1
   refine gn ?_
   dsimp only
   refine ⟨_,rfl,p2,_,_,rfl,f6,hv6,oks6,by simp;omega,λDD ns H7 s7 nDD eDD hpm hso=>?_⟩
   refine ⟨DD,_,rfl,.inl (sqlO eDD),_,_,rfl,rfl,_,rfl,?_⟩
   have s27:=s26.trans s7
   by_cases h4:ns.length<4
   ·refine iteB (decide_eq_true (by rw[length_map];omega)) ?_
    refine ⟨_,rfl,p2,us++[v],hs++[h],ns,_,_,rfl,s2.trans s27,np2,s7 _ _ f6,hv6.same s7,by simp;omega,⟨by simp;omega,oks6,by omega,λg hg' c hc=>?_⟩,λg hg'=>?_⟩
    ·exact hpm.mem_iff.mpr ((yhd _ c).mpr (List.mem_flatMap.mpr ⟨g,hg',hc⟩))
    ·rcases mem_append.mp hg' with hg'|hg'
     ·exact hg g hg'
     ·rw[mem_singleton.mp hg'];exact hgd
   ·refine iteN (decide_eq_false (by rw[length_map];omega)) ?_
    exact ⟨p,us,hs,S,_,_,rfl,s2.trans s27,np,s27 _ _ e2,hv.same s27,by omega,ok,hg⟩
  ·rintro σ H2 ⟨p,us,hs,S,o3,o4,rfl,s2,np,e2,hv,hl,ok,hg⟩
   exact ⟨_,rfl,k p us hs S H2 s2 np e2 hv ok hg⟩
def qjy:Sp:=λvs H Q _=>∃(x:Int) (n:Nat),vs=[.int x,.int (n:Int)]/\n<=64/\∀(p:Addr) (cs:List Int) (H':Hp),Same H H'->H p=none->H' p=some (.lst (cs.map V.int))->bits cs->cs.length=n->Q (.ref p) H'
abbrev qdv:Stmt:=top 83
theorem qe0:FnScope ["_law_number","_law_many","_law_found","_law_k"] ["_law_number","_law_many"] (yac qdv):=fsc
theorem ok_lbits(B:Bl mg)(F:FnAt K mg "_law_bits" qdv ["_law_number","_law_many"]):Has P w K mg base 1 "_law_bits" ["_law_number","_law_many"] qjy:=by
 refine Has.ofQ F qe0 (λvs H Q E h=>?_) (λ_ _ _ _ _ H vs Q E hr h=>?_)
 ·obtain ⟨x,n,rfl,_⟩:=h
  rfl
 ·obtain ⟨x,n,rfl,h64,k⟩:=h
  have sc:=qe0
  refine ⟨_,(yam rfl (qae (qsE 2 sc.nd (qa5 yad))
   (qae (yb2 PassesOwn.never rfl (ygg (qb0 rfl (B.of rfl) (yaa (pv 1) qad))) (pgn 3 sc.nd)
    (qae (qar (ymf PySem.F.plainAttrs_list PySem.F.slot_list_append PySem.F.type_list_append ya1 (qaa (pv 2)) (ygz (yat qck (qaa (pv 0)) (qaa qac)) yad)))
    (qag (qsE 0 sc.nd (yat qg3 (qaa (pv 0)) (qaa qac))))))
   (qag (qas (qaa (pv 2))))))),?_⟩
  refine ⟨zero_le _,λp hp=>?_⟩
  generalize hG1:upd H p _=H1
  have s1:Same H H1:=by rw[<-hG1];exact (smR H).upd hp
  have f1:H1 p=some (.lst []):=by rw[<-hG1];exact qab
  clear hG1
  refine ⟨_,rfl,n,rfl,by omega,by omega,ycj (n:=n) (λi σ H2=>∃(x':Int) (cs:List Int) (o3:Option V),σ=[some (.int x'),some (.int n),some (.ref p),o3]/\Same H H2/\H2 p=some (.lst (cs.map V.int))/\bits cs/\cs.length=i) ⟨x,[],_,rfl,s1,f1,(λ_ h=>nomatch h),rfl⟩ ?_ ?_⟩
  ·rintro i σ H2 hi ⟨x',cs,o3,rfl,s2,e2,hb,hl⟩
   refine ⟨_,rfl,.inl ⟨rfl,_,sqlO e2⟩,?_⟩
   refine ⟨_,rfl,_,_,rfl,rfl,(by show (0:Int)<2;decide),p,_,_,rfl,rfl,e2,qa8 (by rw[length_map];omega),?_⟩
   refine ⟨_,rfl,_,_,rfl,rfl,⟨by decide,by decide⟩,?_⟩
   refine ⟨_,cs++[x' % 2],_,rfl,s2.at hp,by rw[qab,map_append];rfl,λc hc=>?_,by simp[hl]⟩
   rcases mem_append.mp hc with hc|hc
   ·exact hb c hc
   ·rw[mem_singleton.mp hc]
    exact qjs (by omega) (by omega)
  ·rintro σ H2 ⟨x',cs,o3,rfl,s2,e2,hb,hl⟩
   exact ⟨_,rfl,k p cs H2 s2 hp e2 hb hl⟩
theorem qil:bootBuiltins "divmod"=some (.builtin "divmod"):=by decide +kernel
def th3(w:Str):Bool:=inV (.str w) (([("turns" : Str),"sets","keeps"]).map V.str)
theorem yk4{w:Str}:th3 w=true↔w="turns"\/w="sets"\/w="keeps":=by
 unfold th3 inV
 simp[eqS]
def ya5(h:Hm):Int:=if th3 h.w then h.cell 1 else h.cell 0
theorem qkw{h:Hm}{ns:List Str}(o:okH h ns)(t:th3 h.w=true):(hV h)[2]?=some (.int (h.cell 1))/\h.cell 1∈h.c:=by
 have:∃a b,h.c=[a,b]:=by
  rcases yk4.mp t with e|e|e
  ·obtain ⟨a,b,x,hc,_⟩:=o.sTurns (by rw[e];exact qen);exact ⟨a,b,hc⟩
  ·obtain ⟨a,b,x,y,hc,_⟩:=o.sSets (qcc (.inl e));exact ⟨a,b,hc⟩
  ·obtain ⟨a,b,x,y,hc,_⟩:=o.sSets (qcc (.inr e));exact ⟨a,b,hc⟩
 obtain ⟨a,b,hc⟩:=this
 unfold hV Hm.cell
 rw[hc]
 exact ⟨rfl,by simp⟩
theorem yib{h:Hm}{ns:List Str}(o:okH h ns):ya5 h∈h.c:=by
 unfold ya5
 split
 ·rename_i t;exact (qkw o t).2
 ·have:=o.cl
  unfold Hm.cell
  cases hc:h.c with
  |nil=>rw[hc]at this;simp at this
  |cons a l=>simp
theorem bcell_rg{h:Hm}{ns:List Str}(o:okH h ns):0<=ya5 h/\ya5 h<64:=o.rg _ (yib o)
def brkP(l:Int)(h:Hm):List Int:=[ya5 h / l,ya5 h % l]
def Due(l:Int)(hs:List Hm)(ks:List (List Int)):Prop:=ks.Nodup/\(∀k,k∈ks↔k∈hs.map (brkP l))/\ks.Pairwise λa b=>numL a<=numL b
theorem brkP_ok{l:Int}{h:Hm}{ns:List Str}(o:okH h ns)(l1:1<=l)(l8:l<=8):(brkP l h).length=2/\Sml (brkP l h):=by
 obtain ⟨b0,b1⟩:=bcell_rg o
 refine ⟨rfl,λx hx=>?_⟩
 unfold brkP at hx
 simp only[mem_cons,not_mem_nil,or_false]at hx
 rcases hx with rfl|rfl
 ·exact ⟨Int.ediv_nonneg b0 (by omega),Int.lt_of_le_of_lt (Int.ediv_le_self _ b0) (by omega)⟩
 ·exact ⟨emod_nonneg _ (by omega),Int.lt_of_lt_of_le (emod_lt_of_pos _ (by omega)) (by omega)⟩
theorem ylo{l m:List (List Int)}(hl:l.Nodup)(h:∀x∈l,x∈m):l.length<=m.length:=by
 induction l generalizing m with
 |nil=>simp
 |cons x l ih=>
  have hn:=nodup_cons.mp hl
  have hx:=h x (by simp)
  have:=ih hn.2 (m:=m.erase x) (λy hy=>(List.mem_erase_of_ne (λz=>by subst z;exact hn.1 hy)).mpr (h y (by simp[hy])))
  rw[List.length_erase_of_mem hx]at this
  have:=List.length_pos_of_mem hx
  simp
  omega
def ydr:Sp:=λvs H Q _=>∃v h ns,vs=[v]/\HAt H v h/\okH h ns/\∀H',Same H H'->Q (.int (ya5 h)) H'
abbrev yco:Stmt:=top 60
theorem qdo:FnScope ["harm"] ["harm"] (yac yco):=fsc
theorem qgf(F:FnAt K mg "broken_cell" yco ["harm"]):Has P w K mg base 1 "broken_cell" ["harm"] ydr:=by
 refine Has.ofQ F qdo (λvs H Q E h=>?_) (λ_ _ _ _ _ H vs Q E hr h=>?_)
 ·obtain ⟨v,h,ns,rfl,_⟩:=h
  rfl
 ·obtain ⟨v,h,ns,rfl,hat,og,k⟩:=h
  obtain ⟨a,rfl,ha⟩:=hat
  have sc:=qdo
  refine ⟨_,(yam rfl (qag (qas (qhj (ya9 qbd (qav yal (qaa (pv 0)) (qaa qac)) (qbl (yas (qaa yan) (yas (qaa yan) (yas (qaa yan) yad)))) (by with_unfolding_all rfl)) (qav yal (qaa (pv 0)) (qaa qac)) (qav yal (qaa (pv 0)) (qaa qac)))))),?_⟩
  refine ⟨_,rfl,a,_,_,_,rfl,rfl,sqtO ha,yaf 0 rfl,zl,λt ht=>?_⟩
  have s1:Same H (upd H t (.tup (([("turns" : Str),"sets","keeps"]).map V.str))):=(smR H).upd ht
  refine ⟨t,([("turns" : Str),"sets","keeps"]).map V.str,rfl,.inr (sqtO qab),rfl,rfl,_,rfl,?_⟩
  have e0:ya5 h=if th3 h.w then h.cell 1 else h.cell 0:=rfl
  cases ht3:th3 h.w with
  |true=>
   rw[ht3,if_pos rfl]at e0
   rw[e0]at k
   exact iteB ht3 ⟨_,rfl,a,_,_,_,rfl,rfl,sqtO (s1 _ _ ha),yaf 2 (qkw og ht3).1,k _ s1⟩
  |false=>
   rw[ht3,if_neg Bool.false_ne_true]at e0
   rw[e0]at k
   exact iteN ht3 ⟨_,rfl,a,_,_,_,rfl,rfl,sqtO (s1 _ _ ha),yaf 1 og.at1,k _ s1⟩
def TupsOf(H:Hp)(l:Int)(hs:List Hm)(ts:List TL):Prop:=ts.map (·.2)=hs.map (brkP l)/\∀t∈ts,H t.1=some (.tup (t.2.map V.int))
def qe1:Sp:=λvs H Q E=>∃l L us hs S,vs=[.ref L,.int l]/\1<=l/\l<=8/\H L=some (.lst us)/\HsV H us hs/\okHs hs S/\∀(D:Addr) (ts:List TL) (H':Hp),Same H H'->H D=none->H' D=some (.lst (ybc ts))->(∀t∈ts,H' t.1=some (.tup (t.2.map V.int))/\t.2.length=2)->Due l hs (ts.map (·.2))->ts.length<=3->Q (.ref D) H'
abbrev ydv:Stmt:=top 61
theorem ye2:FnScope ["harms","lines"] ["harms","lines"] (yac ydv):=fsc
theorem yia(B:Bl mg)(qcz:mg "set"=none)(z_divmod:mg "divmod"=none)(qa9:Has P w K mg base 6 "look_at_harms" ["thing"] ybe)(qhr:Has P w K mg base 1 "broken_cell" ["harm"] ydr)(F:FnAt K mg "broken_of" ydv ["harms","lines"]):Has P w K mg base 7 "broken_of" ["harms","lines"] qe1:=by
 refine Has.ofQ F ye2 (λvs H Q E h=>?_) (λ_ _ _ _ _ H vs Q E hr h=>?_)
 ·obtain ⟨l,L,us,hs,S,rfl,_⟩:=h
  rfl
 ·obtain ⟨l,L,us,hs,S,rfl,l1,l8,hL,hv,ok,k⟩:=h
  have sc:=ye2
  refine ⟨_,(yam rfl (qae (qar (qaj qa9 hr (yah (qaa (pv 0)) yad)))
   (qag (qas (qax (qix rfl) rfl (B.of rfl) yax (qfd (qch (ykc rfl hr.units) rfl qcz yci (qa_lc (qaa (yb4 rfl (qa2 rfl) (M:=["harm","lines"]) (ix:=[none,some 1]) (ya8 (pv 0)) (λ_ _ _ _=>(qa4 (i:=0) (show List.Nodup (["harm","lines"]:List Str) by decide +kernel) rfl (Or.inl rfl))) (λ_ _ _ _=>qcv) (λ_ _ _ _=>(qai qi2 rfl z_divmod qil (yaa (yag (hk:=(by omega)) qhr hr (yaa (pv 0) qad)) (yaa (pv 1) qad)))))) yad)) yad)))))),?_⟩
  refine ⟨_,rfl,L,us,hs,S,rfl,hL,hv,ok,λH1 s1=>?_⟩
  refine ⟨_,rfl,L,rfl,⟨_,sqlO (s1 _ _ hL)⟩,λD hD=>qb4 (n:=us.length) (λi H'=>Same H1 H'/\∃ts,H' D=some (.lst (ybc ts))/\TupsOf H' l (hs.take i) ts) ⟨(smR H1).upd hD,[],qab,rfl,(λ_ h=>nomatch h)⟩ ?_ ?_⟩
  rotate_left
  ·rintro i H3 hi ⟨s3,ts,e3,x3⟩
   refine ⟨⟨_,_,sqlO (s3 _ _ (s1 _ _ hL)),getElem?_eq_getElem hi⟩,?_⟩
   rintro x H4 ⟨rfl,hx⟩
   have hx:=hx _ (sqlO (s3 _ _ (s1 _ _ hL)))
   obtain ⟨g,hg,hat⟩:=hv.get hx
   obtain ⟨nn,og⟩:=ok.ok g (mem_of_getElem? hg)
   refine ⟨qa0.set (qa0.refl _) rfl,yes ?_⟩
   refine ⟨_,rfl,x,g,nn,rfl,HAt.same (s1.trans s3) hat,og,λH5 s5=>⟨_,rfl,_,_,rfl,⟨by show (0:Int)<l;omega,by show l<(1073741824:Int);omega⟩,λt ht=>?_⟩⟩
   have nD:H1 D=none:=hD
   have e5:=s5 _ _ e3
   have ntD:D≠t:=λz=>by rw[<-z,e5]at ht;cases ht
   refine ⟨_,by rw[yae ntD];exact e5,qa8 (by have:=congrArg List.length x3.1;have h3:=ok.len;unfold ybc;simp at this ⊢;omega),(((s3.trans s5).upd ht).at hD),ts++[(t,brkP l g)],?_,?_,λu hu=>?_⟩
   ·rw[qab]
    unfold ybc
    rw[map_append]
    rfl
   ·rw[take_add_one,hg,map_append,map_append,x3.1]
    rfl
   ·rcases mem_append.mp hu with hu|hu
    ·have hu5:=s5 _ _ (x3.2 u hu)
     have n1:u.1≠D:=λz=>by rw[z,e5]at hu5;cases hu5
     have n2:u.1≠t:=λz=>by rw[z,ht]at hu5;cases hu5
     rw[yae n1,yae n2]
     exact hu5
    ·rw[mem_singleton.mp hu,yae (Ne.symm ntD),qab]
     rfl
  rintro H3 ⟨s3,ts,e3,x3⟩
  refine ⟨⟨_,sqlO (s3 _ _ (s1 _ _ hL)),by simp⟩,?_⟩
  rw[hv.len,take_length]at x3
  have h3:=ok.len
  have tl:ts.length=hs.length:=by have:=congrArg List.length x3.1;simpa using this
  refine ⟨D,ts,rfl,e3,x3.2,by omega,λp us' hp hsub nd hall=>?_⟩
  have s4:Same H3 (upd H3 p (SetVO P w p us')):=(smR H3).upd hp
  have mem:∀k,k∈us'.map (·.2)↔k∈hs.map (brkP l):=λk=>by
   rw[<-x3.1]
   constructor
   ·intro hk
    obtain ⟨u,hu,rfl⟩:=mem_map.mp hk
    exact mem_map_of_mem (hsub u hu)
   ·intro hk
    obtain ⟨u,hu,rfl⟩:=mem_map.mp hk
    exact hall u hu
  have oks:∀u∈us',u.2.length=2/\Sml u.2:=λu hu=>by
   have:=(mem u.2).mp (mem_map_of_mem hu)
   obtain ⟨h,hh,e⟩:=mem_map.mp this
   obtain ⟨nn,oh⟩:=ok.ok h hh
   rw[<-e]
   exact brkP_ok oh l1 l8
  have ul:us'.length<=3:=by
   have h1:us'.length=(us'.map (·.2)).length:=by simp
   have h2:=ylo nd λk hk=>(mem k).mp hk
   rw[length_map (as:=hs)]at h2
   omega
  refine ⟨p,us',1,rfl,qab,λt ht=>s4 _ _ (x3.2 t (hsub t ht)),oks,by omega,λq ts' hq pm ri=>?_⟩
  have s5:=s4.upd (o:=.lst (ybc ts')) hq
  refine k q ts' _ ((s1.trans s3).trans s5) ((s1.trans (s3.trans s4)).free hq) qab (λt ht=>⟨s5 _ _ (x3.2 t (hsub t (pm.mem_iff.mp ht))),(oks t (pm.mem_iff.mp ht)).1⟩) ⟨?_,λk=>?_,?_⟩ (by rw[pm.length_eq];exact ul)
  ·exact (pm.map (·.2)).nodup_iff.mpr nd
  ·exact ((pm.map (·.2)).mem_iff).trans (mem k)
  ·exact List.pairwise_map.mpr ri
end
def Fre(hs:List Hm)(a:Nat):Prop:=∀h∈hs,ya5 h≠(a:Int)
theorem qjq{h:Hm}(n1:h.w≠"turns")(n2:h.w≠"sets")(n3:h.w≠"keeps"):ya5 h=h.cell 0:=by
 unfold ya5
 rw[if_neg]
 intro t
 rcases yk4.mp t with e|e|e
 ·exact n1 e
 ·exact n2 e
 ·exact n3 e
theorem qkx{h:Hm}(t:h.w="turns"\/h.w="sets"\/h.w="keeps"):ya5 h=h.cell 1:=by
 unfold ya5
 rw[if_pos (yk4.mpr t)]
theorem none_of{hs:List Hm}{p:Hm->Bool}(h:∀x∈hs,p x=true->False):hs.find? p=none:=List.find?_eq_none.mpr λx hx e=>h x hx e
theorem qh3{hs:List Hm}{a:Nat}(f:Fre hs a):qeg hs a=none:=by
 unfold qeg
 rw[none_of λx hx e=>?_]
 ·rfl
 unfold yeo at e
 rw[Bool.and_eq_true,beq_iff_eq,beq_iff_eq]at e
 exact f x hx (by rw[qjq,e.2]<;>rw[e.1]<;>decide +kernel)
theorem rd_put{hs:List Hm}{cs:List Int}{c b:Int}{a:Nat}(h0:0<=c)(h:c≠a):rd (putM hs cs c b) a=rd cs a:=by
 unfold putM
 split
 ·unfold rd
  rw[getD_eq_getElem?_getD,getD_eq_getElem?_getD,getElem?_set_ne]
  omega
 ·rfl
theorem qmg{hs:List Hm}{cs:List Int}{a:Nat}(f:Fre hs a):∀n,rd (stkN hs cs n) a=rd cs a
 |0=>rfl
 |n+1=>by
  have ih:=qmg (cs:=cs) f n
  unfold stkN
  split
  ·rename_i b e
   rw[<-ih]
   unfold rd
   rw[getD_eq_getElem?_getD,getD_eq_getElem?_getD,getElem?_set_ne]
   intro z
   have:n=a:=by omega
   subst this
   rw[qh3 f]at e
   cases e
  ·exact ih
theorem qjj{h:Hm}{ns:List Str}(o:okH h ns):0<=h.cell 1:=by
 unfold Hm.cell
 rw[getD_eq_getElem?_getD]
 cases e:h.c[1]? with
 |none=>exact Int.le_refl _
 |some x=>exact (o.rg x (mem_of_getElem? e)).1
theorem yjy{hs:List Hm}{a:Nat}(f:Fre hs a)(ok:Oks hs):∀(l:List Hm) (cs:List Int),(∀h∈l,h∈hs)->rd (qha hs l cs) a=rd cs a
 |[],_,_=>rfl
 |h::l,cs,hl=>by
  show rd (qha hs l (yd3 hs cs h)) a=_
  rw[yjy f ok l _ λx hx=>hl x (mem_cons_of_mem _ hx)]
  unfold yd3
  split
  ·rename_i z
   obtain ⟨ns,o⟩:=ok h (hl h (mem_cons_self ..))
   exact rd_put (qjj o) λe=>f h (hl h (mem_cons_self ..)) (by rw[qkx (.inr (.inr z.1)),e])
  ·rfl
theorem ykk{hs:List Hm}{cs:List Int}{a:Nat}(f:Fre hs a)(ok:Oks hs):rd (qdx hs cs) a=rd cs a:=(yjy f ok hs _ λ_ h=>h).trans (qmg f _)
theorem qjo{hs:List Hm}{a:Nat}(f:Fre hs a):qb3 hs a=none:=by
 unfold qb3
 refine none_of λx hx e=>?_
 have z:=of_decide_eq_true e
 refine f x hx ?_
 rw[qjq,z.2]<;>rcases z.1 with e|e|e<;>rw[e]<;>decide +kernel
theorem fre_read{hs:List Hm}{cs:List Int}{a:Nat}(f:Fre hs a):yec hs cs a=(rd cs a,cs):=by
 unfold yec
 rw[qjo f]
 show (_,_)=_
 unfold reach
 have e:ydl hs cs a=(rd cs a,cs):=by
  unfold ydl
  rw[none_of λx hx e=>?_]
  have z:=of_decide_eq_true e
  refine f x hx ?_
  rw[qjq,z.2.1]<;>rcases z.1 with e|e<;>rw[e]<;>decide +kernel
 show (qkp none (ybb hs [(a:Int)] cs).1,(ybb hs [(a:Int)] cs).2)=_
 unfold ybb
 rw[e]
 rfl
theorem ylh{hs:List Hm}{a:Nat}{c:Int}(f:Fre hs a)(ok:Oks hs):∀(l:List Hm) (cs:List Int),(∀h∈l,h∈hs)->rd (actN hs l c cs) a=rd cs a
 |[],_,_=>rfl
 |h::l,cs,hl=>by
  show rd (actN hs l c (yfm hs c cs h)) a=_
  rw[ylh f ok l _ λx hx=>hl x (mem_cons_of_mem _ hx)]
  unfold yfm
  split
  ·rename_i z
   obtain ⟨ns,o⟩:=ok h (hl h (mem_cons_self ..))
   exact rd_put (qjj o) λe=>f h (hl h (mem_cons_self ..)) (by rw[qkx z.1,e])
  ·rfl
theorem ye0{cs:List Int}{a a':Nat}{b:Int}(h:a<cs.length):rd (cs.set a b) a'=if a'=a then b else rd cs a':=by
 unfold rd
 rw[getD_eq_getElem?_getD,getD_eq_getElem?_getD]
 simp only[toNat_natCast]
 by_cases e:a'=a
 ·subst e
  rw[if_pos rfl,List.getElem?_set_self h]
  rfl
 ·rw[if_neg e,getElem?_set_ne (λz=>e z.symm)]
theorem yh1{hs:List Hm}{cs:List Int}{a a':Nat}{b:Int}(f:Fre hs a)(f':Fre hs a')(ok:Oks hs)(h:a<cs.length):rd (yd4 hs cs a b) a'=if a'=a then b else rd cs a':=by
 unfold yd4
 rw[qjo f]
 show rd (qf2 hs cs a b) a'=_
 unfold qf2
 have e1:yj9 hs cs a b=false:=by
  unfold yj9
  rw[Bool.and_eq_false_iff]
  refine .inr (Bool.eq_false_iff.mpr λz=>?_)
  obtain ⟨x,hx,e⟩:=any_eq_true.mp z
  have z:=of_decide_eq_true e
  exact f x hx (by rw[qjq,z.2.1]<;>rw[z.1]<;>decide +kernel)
 have e2:ygd hs cs a b=b:=by
  unfold ygd
  rw[none_of λx hx e=>?_]
  have z:=of_decide_eq_true e
  exact f x hx (by rw[qkx (.inr (.inr z.1)),z.2.1])
 have e3:putM hs cs a b=cs.set a b:=by
  unfold putM
  rw[qh3 f]
  rfl
 rw[e1,e2,e3,if_neg Bool.false_ne_true]
 split
 ·exact ye0 h
 ·rw[ylh f' ok hs _ λ_ h=>h]
  exact ye0 h
end Mh
namespace Mc
open PySem L2 PyProof.Rows Mx
def top(i:Nat):Stmt:=PySem.Challenge.pw_marchmend_k54_whole_covered_is_sound.main.body.getD i (.Pass ⟨0,0,0,0⟩)
abbrev Mt:=List (Int×Int)
def kvM(M:Mt):List (Key×V):=M.map λe=>((Sum.inl e.1:Key),V.int e.2)
def kvT(T:List Int):List (Key×V):=T.map λl=>((Sum.inl l:Key),V.bl true)
def look(M:Mt)(l:Int):Option Int:=(M.find? λe=>decide (e.1=l)).map (·.2)
def putM(M:Mt)(l r:Int):Mt:=if (look M l).isSome=true then M.map (λe=>if e.1=l then (e.1,r) else e) else M++[(l,r)]
def cnt(M:Mt)(x:Int):Nat:=M.countP λe=>decide (e.2=x)
theorem yee(e:Int×Int)(M:Mt)(l:Int):look (e::M) l=if e.1=l then some e.2 else look M l:=by
 unfold look
 rw[find?_cons]
 by_cases h:e.1=l
 ·rw[if_pos h];simp[h]
 ·rw[if_neg h];simp[h]
theorem valM:∀(M:Mt) (l:Int),valV (kvM M) (Sum.inl l)=(look M l).map V.int
 |[],l=>rfl
 |e::M,l=>by
  rw[yee]
  by_cases h:e.1=l
  ·rw[if_pos h];exact yba (p:=((Sum.inl e.1:Key),V.int e.2)) (by rw[h])
  ·rw[if_neg h,<-valM M l];exact qbb (p:=((Sum.inl e.1:Key),V.int e.2)) λz=>h (Sum.inl.inj z)
theorem putKM(M:Mt)(l r:Int):putK (kvM M) (Sum.inl l) (.int r)=kvM (putM M l r):=by
 unfold putK putM
 rw[ycc,valM,Option.isSome_map]
 by_cases h:(look M l).isSome=true
 ·rw[if_pos h,if_pos h]
  unfold kvM
  rw[map_map,map_map]
  refine map_congr_left λe _=>?_
  show (if (Sum.inl e.1:Key)=Sum.inl l then ((Sum.inl e.1:Key),V.int r) else (Sum.inl e.1,V.int e.2))=_
  by_cases z:e.1=l
  ·rw[if_pos (by rw[z])];simp[z]
  ·rw[if_neg λq=>z (Sum.inl.inj q)];simp[z]
 ·rw[if_neg h,if_neg h]
  unfold kvM
  rw[map_append]
  rfl
theorem valT:∀(T:List Int) (l:Int),(valV (kvT T) (Sum.inl l)).isSome=decide (l∈T)
 |[],l=>rfl
 |e::M,l=>by
  by_cases h:e=l
  ·rw[show valV (kvT (e::M)) (Sum.inl l)=some (V.bl true) from yba (p:=((Sum.inl e:Key),V.bl true)) (by rw[h])]
   simp[h]
  ·rw[show valV (kvT (e::M)) (Sum.inl l)=valV (kvT M) (Sum.inl l) from qbb (p:=((Sum.inl e:Key),V.bl true)) λz=>h (Sum.inl.inj z),valT M l]
   refine decide_eq_decide.mpr ?_
   rw[mem_cons]
   exact ⟨.inr,λz=>z.elim (λz=>absurd z.symm h) id⟩
theorem putKT{T:List Int}{l:Int}(h:l∉T):putK (kvT T) (Sum.inl l) (.bl true)=kvT (T++[l]):=by
 have:valV (kvT T) (Sum.inl l)=none:=by
  have:=valT T l
  rw[decide_eq_false h]at this
  exact Option.isNone_iff_eq_none.mp (by simpa using this)
 rw[yjp _ this]
 unfold kvT
 rw[map_append]
 rfl
theorem ydk(M:Mt)(l r l':Int):look (putM M l r) l'=if l'=l then some r else look M l':=by
 have h:=ydj (kvM M) (Sum.inl l) (Sum.inl l') (.int r)
 rw[putKM,valM,valM]at h
 by_cases e:l'=l
 ·subst e
  rw[if_pos rfl]at h ⊢
  cases q:look (putM M l' r) l' with
  |none=>rw[q]at h;cases h
  |some z=>rw[q]at h;cases h;rfl
 ·rw[if_neg λz=>e (Sum.inl.inj z)]at h
  rw[if_neg e]
  cases q:look (putM M l r) l' with
  |none=>
   rw[q]at h
   cases q2:look M l' with
   |none=>rfl
   |some z=>rw[q2]at h;cases h
  |some z=>
   rw[q]at h
   cases q2:look M l' with
   |none=>rw[q2]at h;cases h
   |some y=>rw[q2]at h;cases h;rfl
theorem yhj:∀{M:Mt}{l r:Int},look M l=some r->(l,r)∈M
 |[],_,_,h=>by cases h
 |e::M,l,r,h=>by
  rw[yee]at h
  by_cases z:e.1=l
  ·rw[if_pos z]at h;cases h;subst z;exact mem_cons_self ..
  ·rw[if_neg z]at h;exact mem_cons_of_mem _ (yhj h)
theorem qk5{M:Mt}{l:Int}(h:look M l=none):l∉M.map (·.1):=by
 intro hm
 obtain ⟨e,he,rfl⟩:=mem_map.mp hm
 have:=List.find?_eq_none.mp (Option.map_eq_none_iff.mp h) e he
 simp at this
theorem look_of{M:Mt}(hn:(M.map (·.1)).Nodup):∀{e:Int×Int},e∈M->look M e.1=some e.2:=by
 induction M with
 |nil=>intro e h;simp at h
 |cons x M ih=>
  intro e h
  rw[map_cons,nodup_cons]at hn
  rw[yee]
  rcases mem_cons.mp h with rfl|h
  ·rw[if_pos rfl]
  ·rw[if_neg λz=>hn.1 (by rw[z];exact mem_map_of_mem h)]
   exact ih hn.2 h
theorem keys_put(M:Mt)(l r:Int):(putM M l r).map (·.1)=if (look M l).isSome=true then M.map (·.1) else M.map (·.1)++[l]:=by
 unfold putM
 split
 ·rw[map_map]
  refine map_congr_left λe _=>?_
  show (if e.1=l then (e.1,r) else e).1=e.1
  split<;>rfl
 ·rw[map_append];rfl
theorem ymd{M:Mt}(h:(M.map (·.1)).Nodup)(l r:Int):((putM M l r).map (·.1)).Nodup:=by
 rw[keys_put]
 split
 ·exact h
 ·rename_i z
  exact yhq h (qk5 (by simpa using z))
theorem mem_put{M:Mt}{l r:Int}{e:Int×Int}(h:e∈putM M l r):e∈M\/e=(l,r):=by
 unfold putM at h
 split at h
 ·obtain ⟨x,hx,rfl⟩:=mem_map.mp h
  by_cases z:x.1=l
  ·rw[if_pos z,z];exact .inr rfl
  ·rw[if_neg z];exact .inl hx
 ·rcases mem_append.mp h with h|h
  ·exact .inl h
  ·exact .inr (mem_singleton.mp h)
def ind(a b:Int):Nat:=if a=b then 1 else 0
theorem cnt_new{M:Mt}{l r:Int}(h:look M l=none)(x:Int):cnt (putM M l r) x=cnt M x+ind x r:=by
 unfold putM
 rw[h,if_neg (by simp)]
 unfold cnt ind
 rw[List.countP_append]
 by_cases z:x=r
 ·subst z;simp
 ·rw[if_neg z];simp;exact λq=>z q.symm
theorem map_off{M:Mt}{l r:Int}(h:l∉M.map (·.1)):M.map (λe=>if e.1=l then (e.1,r) else e)=M:=by
 induction M with
 |nil=>rfl
 |cons x M ih=>
  rw[map_cons,mem_cons,not_or]at h
  rw[map_cons,if_neg λz=>h.1 z.symm,ih h.2]
theorem cnt_old{M:Mt}(hn:(M.map (·.1)).Nodup){l r r1:Int}(h:look M l=some r1)(x:Int):cnt (putM M l r) x+ind x r1=cnt M x+ind x r:=by
 unfold putM
 rw[h,if_pos (show (some r1).isSome=true from rfl)]
 induction M with
 |nil=>cases h
 |cons e M ih=>
  rw[map_cons,nodup_cons]at hn
  rw[yee]at h
  rw[map_cons]
  have cc:∀(y:Int×Int) (N:Mt),cnt (y::N) x=cnt N x+ind x y.2:=λy N=>by
   unfold cnt ind
   rw[List.countP_cons]
   by_cases z:x=y.2
   ·rw[if_pos z,if_pos (by simp[z])]
   ·rw[if_neg z,if_neg (by simp;exact λq=>z q.symm)]
  rw[cc,cc]
  by_cases z:e.1=l
  ·rw[if_pos z]at h ⊢
   cases h
   rw[map_off (by rw[<-z];exact hn.1)]
   show cnt M x+ind x r+ind x e.2=cnt M x+ind x e.2+ind x r
   omega
  ·rw[if_neg z]at h ⊢
   have:=ih hn.2 h
   omega
abbrev Bs:=List (Int×Int)
def adj(bs:Bs)(r:Int):List Int:=(bs.filter λp=>decide (p.1=r)).map (·.2)
theorem yfk{bs:Bs}{r l:Int}:l∈adj bs r↔(r,l)∈bs:=by
 unfold adj
 rw[mem_map]
 constructor
 ·rintro ⟨⟨a,b⟩,h,rfl⟩
  obtain ⟨h1,h2⟩:=mem_filter.mp h
  have:a=r:=of_decide_eq_true h2
  subst this
  exact h1
 ·intro h
  exact ⟨(r,l),mem_filter.mpr ⟨h,by simp⟩,rfl⟩
def B12(bs:Bs):Prop:=∀p∈bs,(0<=p.1/\p.1<12)/\0<=p.2/\p.2<12
structure GoodM(bs:Bs)(M:Mt):Prop where
 nd:(M.map (·.1)).Nodup
 ed:∀e∈M,(e.2,e.1)∈bs
structure TOk(T:List Int):Prop where
 nd:T.Nodup
 lt:∀l∈T,0<=l/\l<12
theorem nodup_len{α:Type}[DecidableEq α]:∀{l m:List α},l.Nodup->(∀x∈l,x∈m)->l.length<=m.length
 |[],_,_,_=>zero_le _
 |x::l,m,hn,h=>by
  rw[nodup_cons]at hn
  have hx:=h x (mem_cons_self ..)
  have:=nodup_len (l:=l) (m:=m.erase x) hn.2 λy hy=>(List.mem_erase_of_ne (show y≠x from λz=>hn.1 (z ▸ hy))).mpr (h y (mem_cons_of_mem _ hy))
  rw[List.length_erase_of_mem hx]at this
  have hp:0<m.length:=List.length_pos_of_mem hx
  rw[length_cons]
  omega
def qmi:List Int:=[0,1,2,3,4,5,6,7,8,9,10,11]
theorem in12{l:Int}(h:0<=l/\l<12):l∈qmi:=by
 have:l=0\/l=1\/l=2\/l=3\/l=4\/l=5\/l=6\/l=7\/l=8\/l=9\/l=10\/l=11:=by omega
 unfold qmi
 simp only[mem_cons,not_mem_nil,or_false]
 exact this
theorem len12{l:List Int}(hn:l.Nodup)(h:∀x∈l,0<=x/\x<12):l.length<=12:=nodup_len (m:=qmi) hn λx hx=>in12 (h x hx)
theorem TOk.len{T:List Int}(h:TOk T):T.length<=12:=len12 h.nd h.lt
theorem TOk.snoc{T:List Int}{l:Int}(h:TOk T)(hl:l∉T)(h0:0<=l/\l<12):TOk (T++[l]):=
 ⟨yhq h.nd hl,λx hx=>(mem_append.mp hx).elim (h.lt x) λz=>by rw[mem_singleton.mp z];exact h0⟩
theorem GoodM.len{bs:Bs}{M:Mt}(h:GoodM bs M)(hb:B12 bs):M.length<=12:=by
 have:=len12 h.nd λx hx=>by
  obtain ⟨e,he,rfl⟩:=mem_map.mp hx
  exact (hb _ (h.ed e he)).2
 simpa using this
theorem GoodM.put{bs:Bs}{M:Mt}(h:GoodM bs M){l r:Int}(e:(r,l)∈bs):GoodM bs (putM M l r):=
 ⟨ymd h.nd l r,λx hx=>(mem_put hx).elim (h.ed x) λz=>by rw[z];exact e⟩
def Closed(bs:Bs)(M:Mt)(D:Int->Prop):Prop:=∀l,D l->∃r,look M l=some r/\∀l'∈adj bs r,D l'
structure Fail(bs:Bs)(M:Mt)(T:List Int)(r:Int)(T':List Int):Prop where
 ok:TOk T'
 sub:∀l∈T,l∈T'
 all:∀l∈adj bs r,l∈T'
 cl:∀l∈T',l∈T\/∃r',look M l=some r'/\∀l'∈adj bs r',l'∈T'
structure Gain(bs:Bs)(M:Mt)(T:List Int)(r:Int)(M':Mt):Prop where
 good:GoodM bs M'
 cn:∀x,cnt M' x=cnt M x+ind x r
 old:∀l∈T,look M' l=look M l
 has:∀l,look M l≠none->look M' l≠none
 dead:∀D,Closed bs M D->(∃l∈adj bs r,¬ D l)/\∀l,D l->look M' l=look M l
theorem Gain.free{bs:Bs}{M:Mt}{T:List Int}{r l:Int}(g:GoodM bs M)(hl:(r,l)∈bs)(h:look M l=none)(hT:l∉T):Gain bs M T r (putM M l r) where
 good:=g.put hl
 cn:=cnt_new h
 old:=λl' h'=>by rw[ydk,if_neg (show ¬ l'=l from λz=>hT (z ▸ h'))]
 has:=λl' h'=>by
  rw[ydk]
  split
  ·simp
  ·exact h'
 dead:=λD hD=>by
  have nl:¬ D l:=λz=>by
   obtain ⟨r',e,_⟩:=hD l z
   rw[h]at e;cases e
  exact ⟨⟨l,yfk.mpr hl,nl⟩,λl' h'=>by rw[ydk,if_neg (show ¬ l'=l from λz=>nl (z ▸ h'))]⟩
theorem Gain.next{bs:Bs}{M M1:Mt}{T U:List Int}{r r1 l:Int}(hl:(r,l)∈bs)(h:look M l=some r1)(hT:l∉T)(hU:∀x∈T,x∈U)(hlU:l∈U)(g:Gain bs M U r1 M1):Gain bs M T r (putM M1 l r) where
 good:=g.good.put hl
 cn:=λx=>by
  have h1:=g.cn x
  have h2:=cnt_old g.good.nd (l:=l) (r:=r) (r1:=r1) (by rw[g.old l hlU,h]) x
  omega
 old:=λl' h'=>by rw[ydk,if_neg (show ¬ l'=l from λz=>hT (z ▸ h')),g.old l' (hU l' h')]
 has:=λl' h'=>by
  rw[ydk]
  split
  ·simp
  ·exact g.has l' h'
 dead:=λD hD=>by
  obtain ⟨⟨y,hy,ny⟩,k⟩:=g.dead D hD
  have nl:¬ D l:=λz=>by
   obtain ⟨r',e,q⟩:=hD l z
   rw[h]at e;cases e
   exact ny (q y hy)
  exact ⟨⟨l,yfk.mpr hl,nl⟩,λl' h'=>by rw[ydk,if_neg (show ¬ l'=l from λz=>nl (z ▸ h')),k l' h']⟩
end Mc
namespace Mc
open PySem L2 PyProof.Rows Mx
theorem iteB{b:Bool}{A B:Prop}(hb:b=true)(h:A):if b=true then A else B:=by
 rw[if_pos hb];exact h
theorem iteN{b:Bool}{A B:Prop}(hb:b=false)(h:B):if b=true then A else B:=by
 rw[if_neg (by rw[hb];exact Bool.false_ne_true)];exact h
def Kp2(H H':Hp)(pa tr:Addr):Prop:=∀x u,x≠pa->x≠tr->H x=some u->H' x=some u
theorem Kp2.refl{H:Hp}{pa tr:Addr}:Kp2 H H pa tr:=λ_ _ _ _ h=>h
theorem Kp2.trans{H H1 H2:Hp}{pa tr:Addr}(a:Kp2 H H1 pa tr)(b:Kp2 H1 H2 pa tr):Kp2 H H2 pa tr:=λx u h1 h2 e=>b x u h1 h2 (a x u h1 h2 e)
theorem Kp2.pa{H H1:Hp}{pa tr:Addr}{o:HO}(a:Kp2 H H1 pa tr):Kp2 H (upd H1 pa o) pa tr:=λx u h1 h2 e=>by rw[yae h1];exact a x u h1 h2 e
theorem Kp2.tr{H H1:Hp}{pa tr:Addr}{o:HO}(a:Kp2 H H1 pa tr):Kp2 H (upd H1 tr o) pa tr:=λx u h1 h2 e=>by rw[yae h2];exact a x u h1 h2 e
structure ByR(H:Hp)(b:Addr)(bs:Bs)(kvs:List (Key×V)):Prop where
 at_:∃o,H b=some (.frz o (.dK kvs))
 row:∀r,r∈bs.map (·.1)->∃a,valV kvs (Sum.inl r)=some (.ref a)/\H a=some (.lst ((adj bs r).map V.int))
theorem ByR.kp{H H':Hp}{b pa tr:Addr}{bs:Bs}{kvs k1 k2:List (Key×V)}(h:ByR H b bs kvs)(k:Kp2 H H' pa tr)(hp:H pa=some (.dK k1))(ht:H tr=some (.dK k2)):ByR H' b bs kvs:=by
 obtain ⟨⟨o,e⟩,r⟩:=h
 refine ⟨⟨o,k _ _ (qcg e hp (by intro z;cases z)) (qcg e ht (by intro z;cases z)) e⟩,λx hx=>?_⟩
 obtain ⟨a,e1,e2⟩:=r x hx
 exact ⟨a,e1,k _ _ (qcg e2 hp (by intro z;cases z)) (qcg e2 ht (by intro z;cases z)) e2⟩
section
variable {P:Program}{w:World}{K:W.Frag}{mg:Str->Option Value}{base:Heap}
def yg9(n:Nat):Sp:=λvs H Q _=>∃(b pa tr:Addr) (bs:Bs) (kvs:List (Key×V)) (M:Mt) (T:List Int) (r:Int),vs=[.ref b,.ref pa,.ref tr,.int r]/\ByR H b bs kvs/\H pa=some (.dK (kvM M))/\H tr=some (.dK (kvT T))/\pa≠tr/\
 r∈bs.map (·.1)/\B12 bs/\bs.length<=100/\GoodM bs M/\TOk T/\12<T.length+n/\
 (∀H' T',Kp2 H H' pa tr->H' pa=some (.dK (kvM M))->H' tr=some (.dK (kvT T'))->Fail bs M T r T'->Q (.bl false) H')/\
 ∀H' M' T',Kp2 H H' pa tr->H' pa=some (.dK (kvM M'))->H' tr=some (.dK (kvT T'))->TOk T'->(∀l∈T,l∈T')->Gain bs M T r M'->Q (.bl true) H'
abbrev qca:Stmt:=top 69
theorem yd8:FnScope ["by_row","partners","tried","row","line"] ["by_row","partners","tried","row"] (yac qca):=fsc
theorem ok_finds(F:FnAt K mg "finds_line" qca ["by_row","partners","tried","row"]):∀n,Has P w K mg base n "finds_line" ["by_row","partners","tried","row"] (yg9 n)
 |0=>by
  obtain ⟨f,fd,e1,e2,e3⟩:=F
  have no:∀vs H Q E,¬ yg9 0 vs H Q E:=λvs H Q E h=>by
   obtain ⟨b,pa,tr,bs,kvs,M,T,r,_,_,_,_,_,_,_,_,_,t,l,_⟩:=h
   have:=t.len
   omega
  exact ⟨f,fd,e1,e2.kp,e3,⟨λvs H Q E h=>(no vs H Q E h).elim,λA outer s H args us vs Q E _ _ _ _ h=>(no vs H Q E h).elim⟩⟩
 |n+1=>by
  have qb8:=ok_finds F n
  refine Has.ofQ F yd8 (λvs H Q E h=>?_) (λ_ _ _ _ _ H vs Q E hr h=>?_)
  ·obtain ⟨b,pa,tr,bs,kvs,M,T,r,rfl,_⟩:=h
   rfl
  ·obtain ⟨b,pa,tr,bs,kvs,M,T,r,rfl,hB,hp,ht,hne,hrow,h12,hbl,hM,hT,hn,k0,k1⟩:=h
   have sc:=yd8
   refine ⟨_,(yam rfl (qae (yb2 PassesOwn.never rfl (qf9 (qja (qfa hr) (qaa (pv 0)) (qaa (pv 3)) (λ_ _=>rfl))) (pgn 4 sc.nd)
     (qag (qbc (qt_of (qe6 (yf5 (qfa hr) (QE.of (qaa (pv 4))) (QE.of (qaa (pv 2)))) (by with_unfolding_all rfl)))
      (qae (ygc (yho (qfa hr) (QE.of (qaa (pv 2))) (QE.of (qaa (pv 4))) (QE.of (qaa qfo)) rfl))
      (qag (qbc (QW.pt (yiz (qt_of (qe6 (yf5 (qfa hr) (QE.of (qaa (pv 4))) (QE.of (qaa (pv 1)))) (by with_unfolding_all rfl))) (ygj (ybq (qaj (hk:=le_refl _) qb8 hr (yah (qaa (pv 0)) (yah (qaa (pv 1)) (yah (qaa (pv 2)) (ycu (qja (qfa hr) (qaa (pv 1)) (qaa (pv 4)) (λ_ _=>rfl)) yad)))))))))
       (qae (ygc (yho (qfa hr) (QE.of (qaa (pv 1))) (QE.of (qaa (pv 4))) (QE.of (qaa (pv 3))) rfl))
       (qag (qas (qaa qfo))))
       ya3)))
      ya3)))
    (qag (qas (qaa qfo))))),?_⟩
   obtain ⟨⟨o,hb⟩,hrows⟩:=id hB
   obtain ⟨a,e1,ea⟩:=hrows r hrow
   have nap:a≠pa:=qcg ea hp (by intro z;cases z)
   have nat:a≠tr:=qcg ea ht (by intro z;cases z)
   refine ⟨_,rfl,_,rfl,b,.ref a,rfl,.inl ⟨kvs,.inl r,.inr ⟨o,hb⟩,rfl,e1.symm⟩,a,rfl,⟨_,sqlO ea⟩,qa7 (xs:=(adj bs r).map V.int) (λi σ H2=>∃(o4:Option V) (T2:List Int),σ=[some (.ref b),some (.ref pa),some (.ref tr),some (.int r),o4]/\
    Kp2 H H2 pa tr/\H2 pa=some (.dK (kvM M))/\H2 tr=some (.dK (kvT T2))/\TOk T2/\(∀l∈T,l∈T2)/\(∀l∈(adj bs r).take i,l∈T2)/\∀l∈T2,l∈T\/∃r',look M l=some r'/\∀l'∈adj bs r',l'∈T2)
    ⟨none,T,rfl,Kp2.refl,hp,ht,hT,λ_ h=>h,λl h=>by simp at h,λl h=>.inl h⟩ (λi σ H2 _ ⟨_,_,_,k2,_⟩=>sqlO (k2 _ _ nap nat ea)) ?_ ?_⟩
   ·rintro i x σ H2 hx ⟨o4,T2,rfl,k2,hp2,ht2,hT2,s2,d2,c2⟩
    rw[getElem?_map]at hx
    cases hl:(adj bs r)[i]? with
    |none=>rw[hl]at hx;cases hx
    |some l=>
    rw[hl]at hx
    cases hx
    have hlm:l∈adj bs r:=mem_of_getElem? hl
    have hlb:=yfk.mp hlm
    have hl12:=(h12 _ hlb).2
    have tk:(adj bs r).take (i+1)=(adj bs r).take i++[l]:=by rw[take_add_one,hl];rfl
    have tl2:=hT2.len
    have ml:=hM.len h12
    refine ⟨_,rfl,_,rfl,tr,_,rfl,DGet.k (k:=.inl l) ht2,_,rfl,?_⟩
    by_cases hin:l∈T2
    ·refine iteN (by rw[valT,decide_eq_true hin];rfl) ?_
     refine ⟨_,T2,rfl,k2,hp2,ht2,hT2,s2,λl' h=>?_,c2⟩
     rw[tk]at h
     rcases mem_append.mp h with h|h
     ·exact d2 l' h
     ·rw[mem_singleton.mp h];exact hin
    ·refine iteB (by rw[valT,decide_eq_false hin];rfl) ?_
     refine ⟨_,rfl,_,rfl,tr,_,rfl,DPut.k (k:=.inl l) ht2 (qa8 (by unfold kvT;rw[length_map];omega)),?_⟩
     rw[putKT hin]
     have hp3:upd H2 tr (.dK (kvT (T2++[l]))) pa=some (.dK (kvM M)):=by rw[yae hne];exact hp2
     have ht3:=@qab H2 tr (.dK (kvT (T2++[l])))
     have k3:Kp2 H (upd H2 tr (.dK (kvT (T2++[l])))) pa tr:=k2.tr
     revert hp3 ht3 k3
     generalize upd H2 tr _=H3
     intro hp3 ht3 k3
     have hT3:TOk (T2++[l]):=hT2.snoc hin hl12
     have s3:∀x∈T,x∈T2++[l]:=λx h=>mem_append_left _ (s2 x h)
     have hlT:l∉T:=λz=>hin (s2 l z)
     refine ⟨_,rfl,_,rfl,pa,_,rfl,DGet.k (k:=.inl l) hp3,_,rfl,?_⟩
     rw[valM]
     cases hlk:look M l with
     |none=>
      refine iteB rfl (iteT ?_)
      refine ⟨_,rfl,_,rfl,_,rfl,pa,_,rfl,DPut.k (k:=.inl l) hp3 (qa8 (by unfold kvM;rw[length_map];omega)),?_⟩
      rw[putKM]
      exact k1 _ (putM M l r) (T2++[l]) k3.pa qab (by rw[yae hne.symm];exact ht3) hT3 s3 (Gain.free hM hlb hlk hlT)
     |some r1=>
      refine iteN rfl ?_
      have hr1:r1∈bs.map (·.1):=mem_map.mpr ⟨_,hM.ed _ (yhj hlk),rfl⟩
      refine ⟨_,rfl,_,rfl,_,rfl,_,rfl,_,rfl,pa,.int r1,rfl,.inl ⟨_,.inl l,.inl hp3,rfl,by rw[valM,hlk];rfl⟩,?_⟩
      refine ⟨b,pa,tr,bs,kvs,M,T2++[l],r1,rfl,hB.kp k3 hp ht,hp3,ht3,hne,hr1,h12,hbl,hM,hT3,by have z:T.length<=T2.length:=nodup_len hT.nd s2;rw[length_append,List.length_singleton];omega,λH4 T4 k4 hp4 ht4 fl=>⟨_,rfl,iteF ?_⟩,λH4 M4 T4 k4 hp4 ht4 hT4 s4 gn=>⟨_,rfl,iteT ?_⟩⟩
      ·refine ⟨_,T4,rfl,k3.trans k4,hp4,ht4,fl.ok,λx h=>fl.sub _ (s3 x h),λl' h=>?_,λl' h=>?_⟩
       ·rw[tk]at h
        rcases mem_append.mp h with h|h
        ·exact fl.sub _ (mem_append_left _ (d2 l' h))
        ·exact fl.sub _ (mem_append_right _ h)
       ·rcases fl.cl l' h with h|h
        ·rcases mem_append.mp h with h|h
         ·rcases c2 l' h with h|⟨r',h1,h2⟩
          ·exact .inl h
          ·exact .inr ⟨r',h1,λy hy=>fl.sub _ (mem_append_left _ (h2 y hy))⟩
         ·rw[mem_singleton.mp h]
          exact .inr ⟨r1,hlk,fl.all⟩
        ·exact .inr h
      ·have ml4:=gn.good.len h12
       refine ⟨_,rfl,_,rfl,_,rfl,pa,_,rfl,DPut.k (k:=.inl l) hp4 (qa8 (by unfold kvM;rw[length_map];omega)),?_⟩
       rw[putKM]
       exact k1 _ (putM M4 l r) T4 (k3.trans k4).pa qab (by rw[yae hne.symm];exact ht4) hT4 (λx h=>s4 x (s3 x h)) (Gain.next hlb hlk hlT s3 (by simp) gn)
   ·rintro σ H2 ⟨o4,T2,rfl,k2,hp2,ht2,hT2,s2,d2,c2⟩
    rw[length_map,take_length]at d2
    exact k0 H2 T2 k2 hp2 ht2 ⟨hT2,s2,d2,c2⟩
end
end Mc
namespace Mc
open PySem L2 PyProof.Rows Mx
def pr2(p:Int×Int):List Int:=[p.1,p.2]
structure PT(H:Hp)(ts:List TL)(bs:Bs):Prop where
 eq:ts.map (·.2)=bs.map pr2
 at_:∀t∈ts,H t.1=some (.tup (t.2.map V.int))
theorem PT.len{H:Hp}{ts:List TL}{bs:Bs}(h:PT H ts bs):ts.length=bs.length:=by have:=congrArg List.length h.eq;simpa using this
theorem PT.get{H:Hp}{ts:List TL}{bs:Bs}(h:PT H ts bs){i:Nat}{v:V}(hv:(ybc ts)[i]?=some v):∃a r l,v=.ref a/\bs[i]?=some (r,l)/\H a=some (.tup [.int r,.int l]):=by
 unfold ybc at hv
 rw[getElem?_map]at hv
 cases e:ts[i]? with
 |none=>rw[e]at hv;cases hv
 |some t=>
  rw[e]at hv
  cases hv
  have hm:=mem_of_getElem? e
  have h2:=congrArg (·[i]?) h.eq
  simp only[getElem?_map,e,Option.map_some]at h2
  cases eb:bs[i]? with
  |none=>rw[eb]at h2;cases h2
  |some p=>
   rw[eb]at h2
   have h3:t.2=pr2 p:=Option.some.inj h2
   refine ⟨t.1,p.1,p.2,rfl,rfl,?_⟩
   rw[h.at_ t hm,h3]
   rfl
theorem yjs(bs:Bs)(r l x:Int):adj (bs++[(r,l)]) x=adj bs x++if r=x then [l] else []:=by
 unfold adj
 rw[List.filter_append,map_append]
 by_cases h:r=x
 ·simp[h]
 ·simp[h]
section
variable {P:Program}{w:World}{K:W.Frag}{mg:Str->Option Value}{base:Heap}
def sp_lbr:Sp:=λvs H Q _=>∃(l:Addr) (ts:List TL) (bs:Bs),vs=[.ref l]/\H l=some (.lst (ybc ts))/\PT H ts bs/\bs.length<=100/\
 ∀(p:Addr) (kvs:List (Key×V)) (rs:List Int) (H':Hp),Same H H'->H p=none->H' p=some (.dK kvs)->kvs.map (·.1)=rs.map Sum.inl->rs.Nodup->(∀r,r∈rs↔r∈bs.map (·.1))->(∀r,r∈bs.map (·.1)->∃a,valV kvs (Sum.inl r)=some (.ref a)/\H' a=some (.lst ((adj bs r).map V.int)))->Q (.ref p) H'
abbrev ybr:Stmt:=top 68
theorem ycz:FnScope ["broken","found","row","line"] ["broken"] (yac ybr):=fsc
theorem ok_lbr(F:FnAt K mg "lines_by_row" ybr ["broken"]):Has P w K mg base 1 "lines_by_row" ["broken"] sp_lbr:=by
 refine Has.ofQ F ycz (λvs H Q E h=>?_) (λ_ _ _ _ _ H vs Q E hr h=>?_)
 ·obtain ⟨l,ts,bs,rfl,_⟩:=h
  rfl
 ·obtain ⟨l,ts,bs,rfl,hl,hP,hbl,k⟩:=h
  have sc:=ycz
  refine ⟨_,(yam rfl (qae (qsE 1 sc.nd (qaa yek))
   (qae (yb2 PassesOwn.never rfl (qf9 (qaa (pv 0))) (ydo rfl (qan (pgn 2 sc.nd) (qan (pgn 3 sc.nd) qbj)))
    (qag (qar (qaa (yga PySem.F.plainAttrs_list PySem.F.slot_list_append PySem.F.type_list_append ya1 (yga PySem.F.plainAttrs_dict PySem.F.slot_dict_setdefault PySem.F.type_dict_setdefault ylm (pv 1) (yaa (pv 2) (yaa (ycw qad) qad))) (yaa (pv 3) qad))))))
   (qag (qas (qaa (pv 1))))))),?_⟩
  have hlen:=hP.len
  refine λp hp=>?_
  refine ⟨_,rfl,l,rfl,⟨_,sqlO (by rw[yae (yab hl hp)];exact hl)⟩,qa7 (xs:=ybc ts) (λi σ H2=>∃(o1 o2:Option V) (kvs:List (Key×V)) (rs:List Int),σ=[some (.ref l),some (.ref p),o1,o2]/\Same H H2/\H2 p=some (.dK kvs)/\
   kvs.map (·.1)=rs.map Sum.inl/\rs.Nodup/\rs.length<=i/\(∀r,r∈rs↔r∈(bs.take i).map (·.1))/\(∀r,r∈rs->∃a,valV kvs (Sum.inl r)=some (.ref a)/\H2 a=some (.lst ((adj (bs.take i) r).map V.int))/\H a=none)/\
   ∀r r' a,valV kvs (Sum.inl r)=some (.ref a)->valV kvs (Sum.inl r')=some (.ref a)->r=r')
   ⟨none,none,[],[],rfl,(smR H).upd hp,qab,rfl,nodup_nil,zero_le _,λr=>by simp,λr h=>by simp at h,λr r' a h=>by cases h⟩ (λi σ H2 _ ⟨_,_,_,_,_,s2,_⟩=>sqlO (s2 _ _ hl)) ?_ ?_⟩
  ·rintro i x σ H2 hx ⟨o1,o2,kvs,rs,rfl,s2,hp2,hk,hnd,hrl,hmem,hrow,hinj⟩
   obtain ⟨a,r,ln,rfl,hb,ha⟩:=hP.get hx
   have hi:i<bs.length:=(List.getElem?_eq_some_iff.mp hb).1
   have tk:bs.take (i+1)=bs.take i++[(r,ln)]:=by rw[take_add_one,hb];rfl
   have kl:kvs.length<=i:=by have:=congrArg List.length hk;rw[length_map,length_map]at this;omega
   refine ⟨a,_,rfl,sqtO (s2 _ _ ha),rfl,_,_,rfl,_,_,rfl,rfl,?_⟩
   refine ⟨_,rfl,.inr (.inr (.inl ⟨rfl,.inl ⟨_,hp2⟩⟩)),_,rfl,zero_le _,λq hq=>?_⟩
   have hpq:p≠q:=yab hp2 hq
   have hqH:H q=none:=s2.free hq
   refine ⟨p,kvs,.inl r,.ref q,rfl,rfl,by rw[yae hpq];exact hp2,qa8 (by omega),λy hy=>?_,λhn=>?_⟩
   ·have hrs:r∈rs:=by
     have:=qlr hy
     rw[hk]at this
     obtain ⟨z,hz,e⟩:=mem_map.mp this
     cases e;exact hz
    obtain ⟨c,e1,e2,e3⟩:=hrow r hrs
    rw[e1]at hy;cases hy
    have hcq:c≠q:=yab e2 hq
    have hc':upd H2 q (.lst []) c=some (.lst ((adj (bs.take i) r).map V.int)):=by rw[yae hcq];exact e2
    have hll:(adj (bs.take i) r).length<=i:=by
     unfold adj
     rw[length_map]
     exact le_trans (List.length_filter_le _ _) (by rw[length_take];omega)
    refine ⟨.inl ⟨rfl,_,sqlO hc'⟩,_,rfl,c,_,_,rfl,rfl,hc',qa8 (by rw[length_map];omega),?_⟩
    have hpc:p≠c:=λz=>by rw[z,e2]at hp2;cases hp2
    refine ⟨_,_,kvs,rs,rfl,(s2.upd hq).at e3,by rw[yae hpc,yae hpq];exact hp2,hk,hnd,by omega,λr'=>?_,λr' hr'=>?_,hinj⟩
    ·rw[hmem,tk,map_append,mem_append]
     constructor
     ·exact .inl
     ·rintro (z|z)
      ·exact z
      ·have:r'=r:=by simpa using z
       rw[this];exact (hmem r).mp hrs
    ·obtain ⟨d,f1,f2,f3⟩:=hrow r' hr'
     rw[tk,yjs]
     by_cases hrr:r=r'
     ·subst hrr
      rw[e1]at f1;cases f1
      refine ⟨c,e1,?_,e3⟩
      rw[qab,if_pos rfl,map_append]
      rfl
     ·have hdc:d≠c:=λz=>hrr (hinj r r' c e1 (by rw[f1,z]))
      refine ⟨d,f1,?_,f3⟩
      rw[yae hdc,yae (yab f2 hq),if_neg hrr,List.append_nil]
      exact f2
   ·have hrs:r∉rs:=λz=>by
     obtain ⟨c,e1,_⟩:=hrow r z
     rw[e1]at hn;cases hn
    have hq':upd (upd H2 q (.lst [])) p (.dK (putK kvs (.inl r) (.ref q))) q=some (.lst []):=by rw[yae hpq.symm];exact qab
    refine ⟨.inl ⟨rfl,_,sqlO hq'⟩,_,rfl,q,_,_,rfl,rfl,hq',qa8 (by simp),?_⟩
    have em:adj (bs.take i) r=[]:=by
     cases ea:adj (bs.take i) r with
     |nil=>rfl
     |cons z zs=>
      have:z∈adj (bs.take i) r:=by rw[ea];exact mem_cons_self ..
      exact absurd ((hmem r).mpr (mem_map.mpr ⟨_,yfk.mp this,rfl⟩)) hrs
    refine ⟨_,_,putK kvs (.inl r) (.ref q),rs++[r],rfl,((s2.upd hq).at hp).at hqH,by rw[yae hpq];exact qab,?_,yhq hnd hrs,by rw[length_append,List.length_singleton];omega,λr'=>?_,λr' hr'=>?_,λr1 r2 c=>?_⟩
    ·rw[yjp _ hn,map_append,hk,map_append]
     rfl
    ·rw[mem_append,hmem,tk,map_append,mem_append]
     rfl
    ·rw[ydj,tk,yjs]
     by_cases hrr:r=r'
     ·subst hrr
      refine ⟨q,by rw[if_pos rfl],?_,hqH⟩
      rw[qab,if_pos rfl,em]
      rfl
     ·have hr2:r'∈rs:=(mem_append.mp hr').elim id λz=>absurd (mem_singleton.mp z).symm hrr
      obtain ⟨d,f1,f2,f3⟩:=hrow r' hr2
      have hdq:d≠q:=yab f2 hq
      have hdp:d≠p:=λz=>by rw[z,hp2]at f2;cases f2
      refine ⟨d,by rw[if_neg λz=>hrr (Sum.inl.inj z).symm];exact f1,?_,f3⟩
      rw[yae hdq,yae hdp,yae hdq,if_neg hrr,List.append_nil]
      exact f2
    ·rw[ydj,ydj]
     have old:∀x,valV kvs (Sum.inl x)=some (.ref q)->False:=λx hx=>by
      have:x∈rs:=by
       have:=qlr hx
       rw[hk]at this
       obtain ⟨z,hz,e⟩:=mem_map.mp this
       cases e;exact hz
      obtain ⟨d,f1,f2,f3⟩:=hrow x this
      rw[hx]at f1;cases f1
      rw[hq]at f2;cases f2
     by_cases z1:r1=r
     ·by_cases z2:r2=r
      ·intro _ _;rw[z1,z2]
      ·rw[if_pos (by rw[z1]),if_neg λz=>z2 (Sum.inl.inj z)]
       intro e f
       cases e
       exact (old _ f).elim
     ·rw[if_neg λz=>z1 (Sum.inl.inj z)]
      by_cases z2:r2=r
      ·rw[if_pos (by rw[z2])]
       intro e f
       cases f
       exact (old _ e).elim
      ·rw[if_neg λz=>z2 (Sum.inl.inj z)]
       exact hinj r1 r2 c
  ·rintro σ H2 ⟨o1,o2,kvs,rs,rfl,s2,hp2,hk,hnd,hrl,hmem,hrow,hinj⟩
   have ez:bs.take (ybc ts).length=bs:=take_of_length_le (by unfold ybc;rw[length_map];omega)
   rw[ez]at hmem hrow
   refine ⟨_,rfl,k p kvs rs H2 s2 hp hp2 hk hnd hmem λr h=>?_⟩
   obtain ⟨a,e1,e2,_⟩:=hrow r ((hmem r).mpr h)
   exact ⟨a,e1,e2⟩
end
end Mc
namespace Mc
open PySem L2 PyProof.Rows Mx
structure Ph1(bs:Bs)(dn:List Int)(M:Mt)(al:List Int):Prop where
 good:GoodM bs M
 one:∀x,cnt M x<=1
 only:∀x,cnt M x≠0->x∈dn
 each:∀x∈dn,cnt M x=1\/x∈al
 sub:∀x∈al,x∈dn
 len:al.length<=dn.length
 dead:∃D,Closed bs M D/\∀x∈al,∀l∈adj bs x,D l
theorem Ph1.start(bs:Bs):Ph1 bs [] [] []:=⟨⟨nodup_nil,λe h=>by simp at h⟩,λx=>zero_le _,λx h=>(h rfl).elim,λx h=>by simp at h,λx h=>h,le_refl _,λ_=>False,λl h=>h.elim,λx h=>by simp at h⟩
theorem qhl(x:Int):ind x x=1:=by unfold ind;rw[if_pos rfl]
theorem qln{x y:Int}(h:x≠y):ind x y=0:=by unfold ind;rw[if_neg h]
theorem Ph1.fail{bs:Bs}{dn al T':List Int}{M:Mt}{r:Int}(h:Ph1 bs dn M al)(f:Fail bs M [] r T'):Ph1 bs (dn++[r]) M (al++[r]):=by
 obtain ⟨D,d1,d2⟩:=h.dead
 have ct:∀l∈T',∃r',look M l=some r'/\∀l'∈adj bs r',l'∈T':=λl hl=>(f.cl l hl).elim (λz=>by simp at z) id
 refine ⟨h.good,h.one,λx hx=>mem_append_left _ (h.only x hx),λx hx=>?_,λx hx=>?_,by simp[h.len],λl=>D l\/l∈T',λl hl=>?_,λx hx l hl=>?_⟩
 ·rcases mem_append.mp hx with z|z
  ·exact (h.each x z).imp id λq=>mem_append_left _ q
  ·exact .inr (mem_append_right _ z)
 ·rcases mem_append.mp hx with z|z
  ·exact mem_append_left _ (h.sub x z)
  ·exact mem_append_right _ z
 ·rcases hl with z|z
  ·obtain ⟨r',e,q⟩:=d1 l z
   exact ⟨r',e,λl' h'=>.inl (q l' h')⟩
  ·obtain ⟨r',e,q⟩:=ct l z
   exact ⟨r',e,λl' h'=>.inr (q l' h')⟩
 ·rcases mem_append.mp hx with z|z
  ·exact .inl (d2 x z l hl)
  ·rw[mem_singleton.mp z]at hl
   exact .inr (f.all l hl)
theorem Ph1.gain{bs:Bs}{dn al:List Int}{M M':Mt}{r:Int}(h:Ph1 bs dn M al)(hr:r∉dn)(g:Gain bs M [] r M'):Ph1 bs (dn++[r]) M' al:=by
 obtain ⟨D,d1,d2⟩:=h.dead
 obtain ⟨_,gk⟩:=g.dead D d1
 have c0:cnt M r=0:=by
  by_cases z:cnt M r=0
  ·exact z
  ·exact absurd (h.only r z) hr
 refine ⟨g.good,λx=>?_,λx hx=>?_,λx hx=>?_,λx hx=>mem_append_left _ (h.sub x hx),by simp;have:=h.len;omega,D,λl hl=>?_,d2⟩
 ·have e:=g.cn x
  have o:=h.one x
  by_cases z:x=r
  ·subst z;rw[qhl]at e;omega
  ·rw[qln z]at e;omega
 ·have e:=g.cn x
  by_cases z:x=r
  ·rw[z];exact mem_append_right _ (mem_singleton.mpr rfl)
  ·rw[qln z]at e
   exact mem_append_left _ (h.only x (by omega))
 ·have e:=g.cn x
  rcases mem_append.mp hx with z|z
  ·have zr:x≠r:=λq=>hr (q ▸ z)
   rw[qln zr]at e
   exact (h.each x z).imp (λq=>by omega) id
  ·have:=mem_singleton.mp z
   subst this
   rw[qhl]at e
   exact .inl (by omega)
 ·obtain ⟨r',e,q⟩:=d1 l hl
  exact ⟨r',by rw[gk l hl];exact e,q⟩
structure Ph2(bs:Bs)(M:Mt)(dn T:List Int):Prop where
 ok:TOk T
 cl:∀l∈T,∃r',look M l=some r'/\∀l'∈adj bs r',l'∈T
 all:∀x∈dn,∀l∈adj bs x,l∈T
theorem Ph2.start(bs:Bs)(M:Mt):Ph2 bs M [] []:=⟨⟨nodup_nil,λl h=>by simp at h⟩,λl h=>by simp at h,λx h=>by simp at h⟩
theorem Ph2.fail{bs:Bs}{M:Mt}{dn T T':List Int}{r:Int}(h:Ph2 bs M dn T)(f:Fail bs M T r T'):Ph2 bs M (dn++[r]) T':=by
 refine ⟨f.ok,λl hl=>?_,λx hx l hl=>?_⟩
 ·rcases f.cl l hl with z|z
  ·obtain ⟨r',e,q⟩:=h.cl l z
   exact ⟨r',e,λl' h'=>f.sub _ (q l' h')⟩
  ·exact z
 ·rcases mem_append.mp hx with z|z
  ·exact f.sub _ (h.all x z l hl)
  ·rw[mem_singleton.mp z]at hl
   exact f.all l hl
structure Cov(bs:Bs)(R L:List Int)(C:Bs):Prop where
 r:R.Pairwise (· < ·)
 l:L.Pairwise (· < ·)
 r12:∀x∈R,0<=x/\x<12
 l12:∀x∈L,0<=x/\x<12
 cov:∀p∈bs,p.1∈R\/p.2∈L
 sub:∀p∈C,p∈bs
 cr:C.Pairwise λp q=>p.1<q.1
 cl:(C.map (·.2)).Nodup
 len:C.length=R.length+L.length
 rb:∀x∈R,x∈bs.map (·.1)
 lb:∀x∈L,x∈bs.map (·.2)
def qdz(M:Mt)(T:List Int):List Int:=(M.filter λe=>!decide (e.1∈T)).map (·.2)
theorem strict{l:List Int}(h:l.Pairwise (·<=·))(n:l.Nodup):l.Pairwise (· < ·):=(h.and n).imp λ⟨a,b⟩=>by omega
theorem yig:∀{M:Mt},(∀x,cnt M x<=1)->(M.map (·.2)).Nodup
 |[],_=>nodup_nil
 |e::M,h=>by
  have cc:∀x,cnt (e::M) x=cnt M x+ind x e.2:=λx=>by
   unfold cnt ind
   rw[List.countP_cons]
   by_cases z:x=e.2
   ·rw[if_pos z,if_pos (by simp[z])]
   ·rw[if_neg z,if_neg (by simp;exact λq=>z q.symm)]
  rw[map_cons,nodup_cons]
  refine ⟨λz=>?_,yig λx=>by have:=h x;rw[cc]at this;omega⟩
  obtain ⟨y,hy,e2⟩:=mem_map.mp z
  have h1:=h e.2
  rw[cc,qhl]at h1
  have:0<cnt M e.2:=List.countP_pos_iff.mpr ⟨y,hy,by simp[e2]⟩
  omega
theorem cnt_pos{M:Mt}{x:Int}(h:cnt M x≠0):∃e∈M,e.2=x:=by
 obtain ⟨e,he,z⟩:=List.countP_pos_iff.mp (Nat.pos_of_ne_zero h)
 exact ⟨e,he,of_decide_eq_true z⟩
theorem qj9{α:Type}(p:α->Bool)(l:List α):(l.filter p).length+(l.filter λx=>!p x).length=l.length:=by
 induction l with
 |nil=>rfl
 |cons x l ih=>
  cases h:p x
  ·rw[List.filter_cons_of_neg (by simp[h]),List.filter_cons_of_pos (by simp[h])];simp;omega
  ·rw[List.filter_cons_of_pos h,List.filter_cons_of_neg (by simp[h])];simp;omega
theorem len_M{bs:Bs}{M:Mt}{dn T:List Int}(g:GoodM bs M)(h:Ph2 bs M dn T):M.length=(qdz M T).length+T.length:=by
 have e:=qj9 (λe:Int×Int=>decide (e.1∈T)) M
 have e1:((M.filter λe=>decide (e.1∈T)).map (·.1)).length=T.length:=by
  refine Nat.le_antisymm (nodup_len ((List.filter_sublist.map _).nodup g.nd) λx hx=>?_) (nodup_len h.ok.nd λx hx=>?_)
  ·obtain ⟨y,hy,rfl⟩:=mem_map.mp hx
   exact of_decide_eq_true (mem_filter.mp hy).2
  ·obtain ⟨r,q,_⟩:=h.cl x hx
   exact mem_map.mpr ⟨(x,r),mem_filter.mpr ⟨yhj q,decide_eq_true hx⟩,rfl⟩
 rw[length_map]at e1
 unfold qdz
 rw[length_map]
 omega
theorem cov_of{bs C:Bs}{M:Mt}{dn al T R L:List Int}(h12:B12 bs)(hd:∀p∈bs,p.1∈dn)(h1:Ph1 bs dn M al)(h2:Ph2 bs M al T)(pR:R.Perm (qdz M T))(sR:R.Pairwise (·<=·))(pL:L.Perm T)(sL:L.Pairwise (·<=·))
  (pC:C.Perm (M.map λe=>(e.2,e.1))) (sC:C.Pairwise λp q=>numL (pr2 p)<=numL (pr2 q)):Cov bs R L C:=by
 have nM:=yig h1.one
 have nR:(qdz M T).Nodup:=(List.filter_sublist.map _).nodup nM
 have mC:∀p∈C,p∈bs:=λp hp=>by
  obtain ⟨e,he,rfl⟩:=mem_map.mp (pC.mem_iff.mp hp)
  exact h1.good.ed e he
 refine ⟨strict sR (pR.nodup_iff.mpr nR),strict sL (pL.nodup_iff.mpr h2.ok.nd),λx hx=>?_,λx hx=>h2.ok.lt x (pL.mem_iff.mp hx),λp hp=>?_,mC,?_,?_,?_,λx hx=>?_,λx hx=>?_⟩
 rotate_right 2
 ·obtain ⟨e,he,rfl⟩:=mem_map.mp (pR.mem_iff.mp hx)
  exact mem_map_of_mem (f:=Prod.fst) (h1.good.ed e (mem_filter.mp he).1)
 ·obtain ⟨r,q,_⟩:=h2.cl x (pL.mem_iff.mp hx)
  exact mem_map_of_mem (f:=Prod.snd) (h1.good.ed _ (yhj q))
 ·obtain ⟨e,he,rfl⟩:=mem_map.mp (pR.mem_iff.mp hx)
  exact (h12 _ (h1.good.ed e (mem_filter.mp he).1)).1
 ·rw[pR.mem_iff,pL.mem_iff]
  have hadj:p.2∈adj bs p.1:=yfk.mpr hp
  rcases h1.each p.1 (hd p hp) with z|z
  ·obtain ⟨e,he,ee⟩:=cnt_pos (show cnt M p.1≠0 by omega)
   by_cases q:e.1∈T
   ·obtain ⟨r',e1,e2⟩:=h2.cl e.1 q
    rw[look_of h1.good.nd he]at e1
    cases e1
    exact .inr (e2 _ (by rw[ee];exact hadj))
   ·exact .inl (mem_map.mpr ⟨e,mem_filter.mpr ⟨he,by simp[q]⟩,ee⟩)
  ·exact .inr (h2.all p.1 z p.2 hadj)
 ·have nC:(C.map (·.1)).Nodup:=by
   refine (pC.map _).nodup_iff.mpr ?_
   rw[map_map]
   exact nM
  have nd:C.Pairwise λp q=>p.1≠q.1:=List.pairwise_map.mp nC
  refine ((List.Pairwise.and_mem.mp (sC.and nd)).imp ?_)
  rintro p q ⟨hp,hq,a,b⟩
  have p1:=(h12 p (mC p hp))
  have q1:=(h12 q (mC q hq))
  have e1:numL (pr2 p)=p.1*4096+p.2:=by unfold pr2 numL numL numL;simp
  have e2:numL (pr2 q)=q.1*4096+q.2:=by unfold pr2 numL numL numL;simp
  rw[e1,e2]at a
  omega
 ·refine (pC.map _).nodup_iff.mpr ?_
  rw[map_map]
  exact h1.good.nd
 ·rw[pC.length_eq,length_map,len_M h1.good h2,pR.length_eq,pL.length_eq]
end Mc
namespace Mc
open PySem L2 PyProof.Rows Mx
theorem Kp2.same{H H1 H2:Hp}{pa tr:Addr}(k:Kp2 H1 H2 pa tr)(s:Same H H1)(hp:H pa=none)(ht:H tr=none):Same H H2:=λx u e=>k x u (yab e hp) (yab e ht) (s x u e)
structure Few(H:Hp)(p:Addr)(R L:List Int)(C:Bs)(cs:List TL)(pr pl pc:Addr):Prop where
 t:H p=some (.tup [.ref pr,.ref pl,.ref pc])
 r:H pr=some (.lst (R.map V.int))
 l:H pl=some (.lst (L.map V.int))
 c:H pc=some (.lst (ybc cs))
 pt:PT H cs C
section
variable {P:Program}{w:World}{K:W.Frag}{mg:Str->Option Value}{base:Heap}
def sp_fewest:Sp:=λvs H Q _=>∃(l:Addr) (ts:List TL) (bs:Bs),vs=[.ref l]/\H l=some (.lst (ybc ts))/\PT H ts bs/\bs.length<=63/\B12 bs/\
 ∀(p pr pl pc:Addr) (R L:List Int) (C:Bs) (cs:List TL) (H':Hp),Same H H'->H pr=none->H pl=none->H pc=none->pr≠pl->pr≠pc->pl≠pc->Few H' p R L C cs pr pl pc->Cov bs R L C->Q (.ref p) H'
abbrev qff:Stmt:=top 70
theorem yik:FnScope ["broken","by_row","partners","alone","row","tried","rows","cells"] ["broken"] (yac qff):=fsc
theorem ok_fewest(B:Bl mg)(qgh:Has P w K mg base 1 "lines_by_row" ["broken"] sp_lbr)(qb8:Has P w K mg base 13 "finds_line" ["by_row","partners","tried","row"] (yg9 13))(F:FnAt K mg "fewest" qff ["broken"]):Has P w K mg base 14 "fewest" ["broken"] sp_fewest:=by
 refine Has.ofQ F yik (λvs H Q E h=>?_) (λ_ _ _ _ _ H vs Q E hr h=>?_)
 ·obtain ⟨l,ts,bs,rfl,_⟩:=h
  rfl
 ·obtain ⟨l,ts,bs,rfl,hl,hP,hbl,h12,k⟩:=h
  have sc:=yik
  refine ⟨_,(yam rfl (qae (qsE 1 sc.nd (qaj qgh hr (yah (qaa (pv 0)) yad)))
   (qae (qsE 2 sc.nd (qaa yek))
   (qae (qsE 3 sc.nd (qa5 yad))
   (qae (yb2 PassesOwn.never rfl (ygg (pi_dictR (pv 1))) (pgn 4 sc.nd)
    (qag (qbc (qcx (ybq (qaj qb8 hr (yah (qaa (pv 1)) (yah (qaa (pv 2)) (qa_cons (qaa yek) (yah (qaa (pv 4)) yad)))))))
     (qag (qar (qaa (yga PySem.F.plainAttrs_list PySem.F.slot_list_append PySem.F.type_list_append ya1 (pv 3) (yaa (pv 4) qad)))))
     ya3)))
   (qae (qgz (i:=5) sc.nd rfl (Or.inr rfl) (qaa yek))
   (qae (yb2 PassesOwn.never rfl (qf9 (qaa (pv 3))) (pgn 4 sc.nd)
    (qag (qar (qaj qb8 hr (yah (qaa (pv 1)) (yah (qaa (pv 2)) (yah (qaa (pv 5)) (yah (qaa (pv 4)) yad))))))))
   (qae (ygc (yll (i:=6) rfl sc.nd rfl (Or.inl rfl) rfl (qa2 rfl) (M:=["line","row","tried"]) (ix:=[none,none,some 5]) (qir (qjk (pv 2))) (λ_ _ _ _=>(qfw (K:=K) (n:=2) rfl rfl (qan (qa4 (i:=0) (show List.Nodup (["line","row","tried"]:List Str) by decide +kernel) rfl (Or.inl rfl)) (qan (qa4 (i:=1) (show List.Nodup (["line","row","tried"]:List Str) by decide +kernel) rfl (Or.inl rfl)) qbj)))) (λ_ _ _ _=>(qhm (qe6 (yf5 (qfa hr) (pv 0) (pv 2)) (by with_unfolding_all rfl)))) (λ_ _ _ _=>(pv 1))))
   (qae (ygc (yll (i:=7) rfl sc.nd rfl (Or.inl rfl) rfl (qa2 rfl) (M:=["line","row"]) (ix:=[none,none]) (qir (qjk (pv 2))) (λ_ _ _ _=>(qfw (K:=K) (n:=2) rfl rfl (qan (qa4 (i:=0) (show List.Nodup (["line","row"]:List Str) by decide +kernel) rfl (Or.inl rfl)) (qan (qa4 (i:=1) (show List.Nodup (["line","row"]:List Str) by decide +kernel) rfl (Or.inl rfl)) qbj)))) (λ_ _ _ _=>qcv) (λ_ _ _ _=>(yda (yaa (pv 1) (yaa (pv 0) qad))))))
   (qag (qas (qbl (qfd (qax qde rfl (B.of rfl) yax (yah (qaa (pv 6)) yad)) (qfd (qaa (qai (qje rfl) rfl (B.of rfl) yax (yaa (pv 5) qad))) (qfd (qaa (qai qka rfl (B.of rfl) yax (yaa (pv 7) qad))) yad))))))))))))))),?_⟩
  refine ⟨_,rfl,l,ts,bs,rfl,hl,hP,by omega,λb kvs rs H1 s1 nb hb hk hnd hmem hrow=>?_⟩
  refine λpa npa=>⟨zero_le _,λaa naa=>?_⟩
  have s2:Same H (upd (upd H1 pa (.dK [])) aa (.lst [])):=(s1.upd npa).upd naa
  have hpa2:upd (upd H1 pa (.dK [])) aa (.lst []) pa=some (.dK []):=by rw[yae (yab qab naa)];exact qab
  have haa2:upd (upd H1 pa (.dK [])) aa (.lst []) aa=some (.lst []):=qab
  have k2:Same H1 (upd (upd H1 pa (.dK [])) aa (.lst [])):=((smR H1).upd npa).upd naa
  have hpaH:H pa=none:=s1.free npa
  have haaH:H aa=none:=s1.free ((smR H1 |>.upd npa).free naa)
  have nra:∀r a,r∈bs.map (·.1)->valV kvs (Sum.inl r)=some (.ref a)->a≠aa:=λr a hr e=>by
   obtain ⟨a',e1,e2⟩:=hrow r hr
   rw[e1]at e;cases e
   exact yab ((smR H1).upd npa _ _ e2) naa
  revert s2 hpa2 haa2 k2
  generalize upd (upd H1 pa (.dK [])) aa (.lst [])=H2
  intro s2 hpa2 haa2 k2
  have hb2:=k2 _ _ hb
  have hnbp:pa≠b:=yab hb npa |>.symm
  refine ⟨_,rfl,b,kvs,rfl,.inl hb2,λo H3 fz=>?_⟩
  have s3:Same H H3:=λx u e=>by rw[fz.st x (yab e nb)];exact s2 x u e
  have hB3:ByR H3 b bs kvs:=⟨⟨o,fz.at_⟩,λr hr=>by
   obtain ⟨a,e1,e2⟩:=hrow r hr
   have e3:=k2 _ _ e2
   exact ⟨a,e1,by rw[fz.st a (qcg e3 hb2 (by intro z;cases z))];exact e3⟩⟩
  have hpa3:H3 pa=some (.dK []):=by rw[fz.st pa hnbp];exact hpa2
  have haa3:H3 aa=some (.lst []):=by rw[fz.st aa (qcg haa2 hb2 (by intro z;cases z))];exact haa2
  have hkl:kvs.length=rs.length:=by have:=congrArg List.length hk;rw[length_map,length_map]at this;exact this
  have hrs:rs.length<=12:=len12 hnd λx hx=>by
   obtain ⟨p,hp,rfl⟩:=mem_map.mp ((hmem x).mp hx)
   exact (h12 p hp).1
  refine for_by (n:=kvs.length) (λi σ H4=>∃(o4:Option V) (M:Mt) (al:List Int),σ=[some (.ref l),some (.ref b),some (.ref pa),some (.ref aa),o4,none,none,none]/\Same H H4/\ByR H4 b bs kvs/\H4 b=some (.frz o (.dK kvs))/\
   H4 pa=some (.dK (kvM M))/\H4 aa=some (.lst (al.map V.int))/\Ph1 bs (rs.take i) M al) ⟨none,[],[],rfl,s3,hB3,fz.at_,hpa3,haa3,by rw[List.take_zero];exact Ph1.start bs⟩ ?_ ?_
  rotate_left
  ·rintro i σ H4 hi ⟨o4,M,al,rfl,s4,hB4,hb4,hpa4,haa4,ph⟩
   refine ⟨⟨hb4,hi⟩,?_⟩
   rintro x H5 ⟨e5,kk,vv,hkv,rfl⟩
   have e5':=e5.symm
   subst e5'
   obtain ⟨r,hr,rfl⟩:∃r,rs[i]?=some r/\kk=Sum.inl r:=by
    have:=congrArg (·[i]?) hk
    simp only[getElem?_map,hkv,Option.map_some]at this
    cases e:rs[i]? with
    |none=>rw[e]at this;cases this
    |some r=>rw[e]at this;exact ⟨r,rfl,Option.some.inj this⟩
   have hrb:r∈bs.map (·.1):=(hmem r).mp (mem_of_getElem? hr)
   have tk:rs.take (i+1)=rs.take i++[r]:=by rw[take_add_one,hr];rfl
   have hrn:r∉rs.take i:=λz=>by
    obtain ⟨j,hj,e⟩:=getElem_of_mem z
    rw[length_take]at hj
    rw[List.getElem_take]at e
    have h1:rs[j]?=some r:=by rw[getElem?_eq_getElem (by omega),e]
    have:=(List.getElem?_inj (show j<rs.length by omega) hnd).mp (h1.trans hr.symm)
    omega
   have hall:al.length<=12:=by have:=ph.len;rw[length_take]at this;omega
   refine ⟨_,rfl,_,rfl,λtr ntr=>⟨_,rfl,?_⟩⟩
   have htrH:H tr=none:=s4.free ntr
   have hpt:pa≠tr:=yab hpa4 ntr
   have hat:aa≠tr:=yab haa4 ntr
   have hap:aa≠pa:=qcg haa4 hpa4 (by intro z;cases z)
   have hbp:b≠pa:=qcg hb4 hpa4 (by intro z;cases z)
   have hbt:b≠tr:=yab hb4 ntr
   have s5:Same H4 (upd H4 tr (.dK [])):=(smR H4).upd ntr
   have hB5:ByR (upd H4 tr (.dK [])) b bs kvs:=⟨⟨o,s5 _ _ hb4⟩,λr hr=>by obtain ⟨a,e1,e2⟩:=hB4.row r hr;exact ⟨a,e1,s5 _ _ e2⟩⟩
   refine ⟨b,pa,tr,bs,kvs,M,[],r,rfl,hB5,s5 _ _ hpa4,qab,hpt,hrb,h12,by omega,ph.good,⟨nodup_nil,λl h=>by simp at h⟩,by decide,λH6 T6 k6 hp6 ht6 fl=>⟨_,rfl,iteB rfl ?_⟩,λH6 M6 T6 k6 hp6 ht6 hT6 _ gn=>⟨_,rfl,iteN rfl ?_⟩⟩
   ·have ha6:=k6 _ _ hap hat (s5 _ _ haa4)
    refine ⟨_,rfl,.inl ⟨rfl,_,sqlO ha6⟩,_,rfl,aa,_,_,rfl,rfl,ha6,qa8 (by rw[length_map];omega),?_⟩
    have hB6:=hB5.kp k6 (s5 _ _ hpa4) qab
    refine ⟨_,M,al++[r],rfl,(k6.same (s4.trans s5) hpaH htrH).at haaH,⟨⟨o,by rw[yae (qcg hb4 haa4 (by intro z;cases z))];exact k6 _ _ hbp hbt (s5 _ _ hb4)⟩,λx hx=>?_⟩,by rw[yae (qcg hb4 haa4 (by intro z;cases z))];exact k6 _ _ hbp hbt (s5 _ _ hb4),by rw[yae hap.symm];exact hp6,by rw[qab,map_append];rfl,by rw[tk];exact ph.fail fl⟩
    obtain ⟨a,e1,e2⟩:=hB6.row x hx
    exact ⟨a,e1,by rw[yae (nra x a hx e1)];exact e2⟩
   ·refine ⟨_,M6,al,rfl,k6.same (s4.trans s5) hpaH htrH,hB5.kp k6 (s5 _ _ hpa4) qab,k6 _ _ hbp hbt (s5 _ _ hb4),hp6,k6 _ _ hap hat (s5 _ _ haa4),by rw[tk];exact ph.gain hrn gn⟩
  rintro σ H4 ⟨o4,M,al,rfl,s4,hB4,hb4,hpa4,haa4,ph⟩
  refine ⟨⟨hb4,le_refl _⟩,?_⟩
  have hdone:∀p∈bs,p.1∈rs.take kvs.length:=λp hp=>by
   rw[hkl,take_length]
   exact (hmem p.1).mpr (mem_map_of_mem hp)
  have hall:al.length<=12:=by have:=ph.len;rw[length_take]at this;omega
  have hml:=ph.good.len h12
  obtain ⟨Dd,dc,dal⟩:=ph.dead
  refine λtr ntr=>?_
  have htrH:H tr=none:=s4.free ntr
  have hpt:pa≠tr:=yab hpa4 ntr
  have hat:aa≠tr:=yab haa4 ntr
  have hap:aa≠pa:=qcg haa4 hpa4 (by intro z;cases z)
  have s5:Same H4 (upd H4 tr (.dK [])):=(smR H4).upd ntr
  have hB5:ByR (upd H4 tr (.dK [])) b bs kvs:=⟨⟨o,s5 _ _ hb4⟩,λr hr=>by obtain ⟨a,e1,e2⟩:=hB4.row r hr;exact ⟨a,e1,s5 _ _ e2⟩⟩
  refine ⟨_,rfl,aa,rfl,⟨_,sqlO (s5 _ _ haa4)⟩,qa7 (xs:=al.map V.int) (λi σ H6=>∃(o4:Option V) (T:List Int),σ=[some (.ref l),some (.ref b),some (.ref pa),some (.ref aa),o4,some (.ref tr),none,none]/\Same H H6/\ByR H6 b bs kvs/\
   H6 pa=some (.dK (kvM M))/\H6 tr=some (.dK (kvT T))/\H6 aa=some (.lst (al.map V.int))/\Ph2 bs M (al.take i) T) ⟨_,[],rfl,s4.trans s5,hB5,s5 _ _ hpa4,qab,s5 _ _ haa4,by rw[List.take_zero];exact Ph2.start bs M⟩ (λi σ H6 _ ⟨_,_,_,_,_,_,_,h,_⟩=>sqlO h) ?_ ?_⟩
  ·rintro i x σ H6 hx ⟨o4',T,rfl,s6,hB6,hpa6,htr6,haa6,p2⟩
   rw[getElem?_map]at hx
   cases hr:al[i]? with
   |none=>rw[hr]at hx;cases hx
   |some r=>
   rw[hr]at hx
   cases hx
   have hrm:=mem_of_getElem? hr
   have tk:al.take (i+1)=al.take i++[r]:=by rw[take_add_one,hr];rfl
   have hrb:r∈bs.map (·.1):=(hmem r).mp (mem_of_mem_take (ph.sub r hrm))
   refine ⟨_,rfl,_,rfl,_,rfl,_,rfl,?_⟩
   refine ⟨b,pa,tr,bs,kvs,M,T,r,rfl,hB6,hpa6,htr6,hpt,hrb,h12,by omega,ph.good,p2.ok,by omega,λH7 T7 k7 hp7 ht7 fl=>?_,λH7 M7 T7 k7 hp7 ht7 hT7 _ gn=>?_⟩
   ·exact ⟨_,T7,rfl,k7.same s6 hpaH htrH,hB6.kp k7 hpa6 htr6,hp7,ht7,k7 _ _ hap hat haa6,by rw[tk];exact p2.fail fl⟩
   ·obtain ⟨⟨y,hy,ny⟩,_⟩:=gn.dead Dd dc
    exact absurd (dal r hrm y hy) ny
  rintro σ H6 ⟨o4',T,rfl,s6,hB6,hpa6,htr6,haa6,p2⟩
  rw[length_map,take_length]at p2
  have hTl:=p2.ok.len
  -- the rows
  refine ⟨_,rfl,pa,kvM M,rfl,.inl hpa6,λv nv=>⟨v,pa,kvM M,rfl,qab,.inl (by rw[yae (yab hpa6 nv)];exact hpa6),λo2 H7 fz2=>?_⟩⟩
  have hvH:H v=none:=s6.free nv
  have s7:Same H H7:=λx u e=>by
   rw[fz2.st x (yab e hpaH),yae (yab e hvH)]
   exact s6 x u e
  have htr7:H7 tr=some (.dK (kvT T)):=by rw[fz2.st tr hpt.symm,yae (yab htr6 nv)];exact htr6
  have hpa7:=fz2.at_
  clear fz2 hB6 haa6 hpa6 htr6 s6 hvH nv
  refine λD nD=>?_
  have hDH:H D=none:=s7.free nD
  have frame:∀{H8:Hp}{D':Addr}{z:List V},H8 D'=some (.lst z)->∀{y:HO},H8 pa=some (.frz o2 (.dK (kvM M)))->H8 tr=some (.dK (kvT T))->upd H8 D' y pa=some (.frz o2 (.dK (kvM M)))/\upd H8 D' y tr=some (.dK (kvT T)):=λh y h1 h2=>
   ⟨by rw[yae (qcg h1 h (by intro z;cases z))];exact h1,by rw[yae (qcg h2 h (by intro z;cases z))];exact h2⟩
  have item:∀{i:Nat}{kk:Key}{vv:V},i<M.length->(kvM M)[i]?=some (kk,vv)->∃e,M[i]?=some e/\kk=Sum.inl e.1/\vv=.int e.2:=λ{i kk vv} hi hkv=>by
   have hM:M[i]?=some M[i]:=getElem?_eq_getElem hi
   have hkv':(kvM M)[i]?=some (Sum.inl M[i].1,V.int M[i].2):=by unfold kvM;rw[getElem?_map,hM];rfl
   rw[hkv']at hkv
   cases hkv
   exact ⟨_,hM,rfl,rfl⟩
  refine qb4 (n:=M.length) (λi H8=>Same H H8/\H8 pa=some (.frz o2 (.dK (kvM M)))/\H8 tr=some (.dK (kvT T))/\H8 D=some (.lst ((qdz (M.take i) T).map V.int))) ?_ ?_ ?_
  ·exact ⟨s7.upd nD,by rw[yae (yab hpa7 nD)];exact hpa7,by rw[yae (yab htr7 nD)];exact htr7,qab⟩
  rotate_left
  ·rintro i H8 hi ⟨s8,hpa8,htr8,hD8⟩
   refine ⟨⟨hpa8,by unfold kvM;rw[length_map];exact hi⟩,?_⟩
   rintro x _ ⟨q,kk,vv,nq,rfl,rfl,hkv⟩
   obtain ⟨e,hM,rfl,rfl⟩:=item hi hkv
   have tk:M.take (i+1)=M.take i++[e]:=by rw[take_add_one,hM];rfl
   have s9:Same H8 (upd H8 q (.tup [kV (Sum.inl e.1),.int e.2])):=(smR H8).upd nq
   refine ⟨q,_,rfl,sqtO qab,rfl,_,_,rfl,_,_,rfl,rfl,qa0.set (qa0.set (qa0.refl _) rfl) rfl,?_⟩
   refine ⟨_,rfl,_,rfl,tr,_,rfl,DGet.k (k:=.inl e.1) (s9 _ _ htr8),_,rfl,?_⟩
   have rl:(qdz (M.take i) T).length<=12:=by
    unfold qdz
    rw[length_map]
    exact le_trans (List.length_filter_le _ _) (by rw[length_take];omega)
   by_cases hin:e.1∈T
   ·refine iteN (by rw[valT,decide_eq_true hin];rfl) ⟨s8.trans s9,s9 _ _ hpa8,s9 _ _ htr8,?_⟩
    rw[s9 _ _ hD8]
    unfold qdz
    rw[tk,List.filter_append,List.filter_cons_of_neg (by simp[hin])]
    simp
   ·refine iteB (by rw[valT,decide_eq_false hin];rfl) ⟨_,rfl,_,s9 _ _ hD8,qa8 (by rw[length_map];omega),?_⟩
    obtain ⟨f1,f2⟩:=frame (s9 _ _ hD8) (y:=.lst ((qdz (M.take i) T).map V.int++[.int e.2])) (s9 _ _ hpa8) (s9 _ _ htr8)
    refine ⟨(s8.trans s9).at hDH,f1,f2,?_⟩
    rw[qab]
    unfold qdz
    rw[tk,List.filter_append,List.filter_cons_of_pos (by simp[hin])]
    simp
  rintro H8 ⟨s8,hpa8,htr8,hD8⟩
  rw[take_length]at hD8
  refine ⟨⟨hpa8,by unfold kvM;rw[length_map];exact le_refl _⟩,?_⟩
  -- the cells
  refine ⟨_,rfl,pa,kvM M,rfl,.inr ⟨_,hpa8⟩,λv nv=>⟨v,pa,kvM M,rfl,qab,.inr ⟨o2,by rw[yae (yab hpa8 nv)];exact hpa8⟩,λo3 H9 fz3=>?_⟩⟩
  have hvH:H v=none:=s8.free nv
  have eo:o3=o2\/True:=.inr trivial
  have s9:Same H H9:=λx u e=>by
   rw[fz3.st x (yab e hpaH),yae (yab e hvH)]
   exact s8 x u e
  have htr9:H9 tr=some (.dK (kvT T)):=by rw[fz3.st tr hpt.symm,yae (yab htr8 nv)];exact htr8
  have hD9:H9 D=some (.lst ((qdz M T).map V.int)):=by rw[fz3.st D (qcg hD8 hpa8 (by intro z;cases z)),yae (yab hD8 nv)];exact hD8
  have hpa9:=fz3.at_
  clear fz3 hpa8 htr8 hD8 s8 hvH nv hpa7 htr7 s7 nD
  refine λD2 nD2=>?_
  have hD2H:H D2=none:=s9.free nD2
  have hDD:D≠D2:=yab hD9 nD2
  refine qb4 (n:=M.length) (λi Hx=>∃cs:List TL,Same H Hx/\Hx pa=some (.frz o3 (.dK (kvM M)))/\Hx tr=some (.dK (kvT T))/\Hx D=some (.lst ((qdz M T).map V.int))/\Hx D2=some (.lst (ybc cs))/\
   cs.map (·.2)=(M.take i).map (λe=>[e.2,e.1])/\∀t∈cs,Hx t.1=some (.tup (t.2.map V.int))) ?_ ?_ ?_
  ·exact ⟨[],s9.upd nD2,by rw[yae (yab hpa9 nD2)];exact hpa9,by rw[yae (yab htr9 nD2)];exact htr9,by rw[yae hDD];exact hD9,qab,rfl,λt h=>by simp at h⟩
  rotate_left
  ·rintro i Hx hi ⟨cs,sx,hpx,htx,hDx,hD2x,hcs,hct⟩
   refine ⟨⟨hpx,by unfold kvM;rw[length_map];exact hi⟩,?_⟩
   rintro x _ ⟨q,kk,vv,nq,rfl,rfl,hkv⟩
   obtain ⟨e,hM,rfl,rfl⟩:=item hi hkv
   have tk:M.take (i+1)=M.take i++[e]:=by rw[take_add_one,hM];rfl
   have sy:Same Hx (upd Hx q (.tup [kV (Sum.inl e.1),.int e.2])):=(smR Hx).upd nq
   have cl:cs.length<=12:=by have:=congrArg List.length hcs;rw[length_map,length_map,length_take]at this;omega
   refine ⟨q,_,rfl,sqtO qab,rfl,_,_,rfl,_,_,rfl,rfl,qa0.set (qa0.set (qa0.refl _) rfl) rfl,yes ?_⟩
   refine ⟨_,rfl,_,rfl,zl,λq2 nq2=>?_⟩
   have sz:=sy.upd (o:=.tup [V.int e.2,kV (Sum.inl e.1)]) nq2
   have hz:=sz _ _ hD2x
   refine ⟨_,hz,qa8 (by unfold ybc;rw[length_map];omega),cs++[(q2,[e.2,e.1])],(sx.trans sz).at hD2H,?_,?_,?_,?_,?_,λt ht=>?_⟩
   ·rw[yae (qcg (sz _ _ hpx) hz (by intro z;cases z))];exact sz _ _ hpx
   ·rw[yae (qcg (sz _ _ htx) hz (by intro z;cases z))];exact sz _ _ htx
   ·rw[yae hDD];exact sz _ _ hDx
   ·rw[qab];unfold ybc;rw[map_append];rfl
   ·rw[map_append,hcs,tk,map_append];rfl
   ·have hq:upd (upd Hx q (.tup [kV (Sum.inl e.1),.int e.2])) q2 (.tup [V.int e.2,kV (Sum.inl e.1)]) t.1=some (.tup (t.2.map V.int)):=by
     rcases mem_append.mp ht with z|z
     ·exact sz _ _ (hct t z)
     ·rw[mem_singleton.mp z];exact qab
    rw[yae (qcg hq hz (by intro z;cases z))]
    exact hq
  rintro Hx ⟨cs,sx,hpx,htx,hDx,hD2x,hcs,hct⟩
  rw[take_length]at hcs
  have cl:cs.length=M.length:=by have:=congrArg List.length hcs;rw[length_map,length_map]at this;exact this
  refine ⟨⟨hpx,by unfold kvM;rw[length_map];exact le_refl _⟩,?_⟩
  have rl:(qdz M T).length<=12:=by
   unfold qdz
   rw[length_map]
   exact le_trans (List.length_filter_le _ _) hml
  have okc:∀t∈cs,∃e∈M,t.2=[e.2,e.1]:=λt ht=>by
   have:t.2∈M.map (λe=>[e.2,e.1]):=by rw[<-hcs];exact mem_map_of_mem ht
   obtain ⟨e,he,z⟩:=mem_map.mp this
   exact ⟨e,he,z.symm⟩
  refine ⟨_,rfl,D,qdz M T,rfl,hDx,by omega,λpr R npr pR sR=>?_⟩
  have sa:Same Hx (upd Hx pr (.lst (R.map V.int))):=(smR Hx).upd npr
  have ea:=@qab Hx pr (.lst (R.map V.int))
  revert sa ea
  generalize upd Hx pr _=Ha
  intro sa ea
  refine ⟨_,rfl,tr,kvT T,T,rfl,.inl (sa _ _ htx),by unfold kvT;rw[map_map];rfl,by omega,λpl L npl pL sL=>?_⟩
  have sb:Same Ha (upd Ha pl (.lst (L.map V.int))):=(smR Ha).upd npl
  have eb:=@qab Ha pl (.lst (L.map V.int))
  have nlr:pr≠pl:=yab ea npl
  revert sb eb
  generalize upd Ha pl _=Hb
  intro sb eb
  have sxb:=sa.trans sb
  refine ⟨_,rfl,D2,cs,1,rfl,sxb _ _ hD2x,λt ht=>sxb _ _ (hct t ht),λt ht=>?_,by omega,λpc cs' npc pC rC=>?_⟩
  ·obtain ⟨e,he,z⟩:=okc t ht
   have h:=h12 _ (ph.good.ed e he)
   rw[z]
   refine ⟨rfl,λx hx=>?_⟩
   rcases mem_cons.mp hx with rfl|hx
   ·have:=h.1;omega
   ·rw[mem_singleton.mp hx];have:=h.2;omega
  have sc:Same Hb (upd Hb pc (.lst (ybc cs'))):=(smR Hb).upd npc
  have ec:=@qab Hb pc (.lst (ybc cs'))
  have nrc:pr≠pc:=yab (sb _ _ ea) npc
  have nlc:pl≠pc:=yab eb npc
  revert sc ec
  generalize upd Hb pc _=Hc
  intro sc ec
  refine ⟨zl,λp np=>?_⟩
  have sd:Same Hc (upd Hc p (.tup [.ref pr,.ref pl,.ref pc])):=(smR Hc).upd np
  have sxd:=(sxb.trans sc).trans sd
  have okc':∀t∈cs',∃e∈M,t.2=[e.2,e.1]:=λt ht=>okc t (pC.mem_iff.mp ht)
  have hpc:(cs'.map λt:TL=>(t.2.getD 0 0,t.2.getD 1 0)).map pr2=cs'.map (·.2):=by
   rw[map_map]
   refine map_congr_left λt ht=>?_
   obtain ⟨e,_,z⟩:=okc' t ht
   show pr2 (t.2.getD 0 0,t.2.getD 1 0)=t.2
   rw[z]
   rfl
  have ppC:(cs'.map λt:TL=>(t.2.getD 0 0,t.2.getD 1 0)).Perm (M.map λe=>(e.2,e.1)):=by
   have h1:=(pC.map (·.2)).map (λz:List Int=>(z.getD 0 0,z.getD 1 0))
   rw[hcs,map_map,map_map]at h1
   exact h1
  refine k p pr pl pc R L (cs'.map λt:TL=>(t.2.getD 0 0,t.2.getD 1 0)) cs' _ (sx.trans sxd) (sx.free npr) ((sx.trans sa).free npl) ((sx.trans sxb).free npc) nlr nrc nlc
   ⟨qab,sd _ _ (sc _ _ (sb _ _ ea)),sd _ _ (sc _ _ eb),sd _ _ ec,hpc.symm,λt ht=>sxd _ _ (hct t (pC.mem_iff.mp ht))⟩
   (cov_of h12 hdone ph p2 pR sR pL sL ppC ?_)
  rw[List.pairwise_map]
  refine (List.Pairwise.and_mem.mp rC).imp ?_
  rintro t u ⟨ht,hu,z⟩
  obtain ⟨e,_,z1⟩:=okc' t ht
  obtain ⟨e',_,z2⟩:=okc' u hu
  rw[z1,z2]at z ⊢
  exact z
end
end Mc
namespace Mh
open PySem L2 PyProof.Rows Mx
open Mc (Kp2)
theorem lk_m{L Cc:Addr}{f:Str}(h1:(f == ("harmed" : Str))=false:=by decide +kernel)(h2:(f == ("spare" : Str))=false:=by decide +kernel):(fsN L Cc).lookup f=none:=by
 unfold fsN
 rw[lookup_cons,h1,lookup_cons,h2]
 rfl
theorem put_len{kvs:List (Key×V)}{k:Key}{v:V}(h:(valV kvs k).isSome=true):(putK kvs k v).length=kvs.length:=by
 unfold putK
 rw[ycc,if_pos h,length_map]
theorem SpD.put{kvs:List (Key×V)}{sp:Nat->Bool}{ws:List Int}(h:SpD kvs sp ws){a:Nat}{b:Int}(ha:a<ws.length)(hs:sp a=true):SpD (putK kvs (.inl (a:Int)) (.int b)) sp (ws.set a b):=λi hi=>by
 rw[length_set]at hi
 rw[ydj]
 by_cases e:i=a
 ·subst e
  rw[if_pos rfl,if_pos hs,getD_eq_getElem?_getD,List.getElem?_set_self ha]
  rfl
 ·rw[if_neg (λz=>e (by have:=Sum.inl.inj z;omega)),h i hi,getD_eq_getElem?_getD,getD_eq_getElem?_getD,getElem?_set_ne (λz=>e z.symm)]
structure Snd(H:Hp)(C N e L Cc d:Addr)(hd:List Int):Prop where
 ex:∃m us hs cs kvs sp ws,MenO H C N e m L Cc us hs cs d kvs/\InR hs cs.length/\SpD kvs sp ws/\ws.length=cs.length/\kvs.length<=64/\hd.length=cs.length/\(∀a:Nat,a<cs.length->rd hd a=if sp a=true then rd ws a else rd cs a)/\∀a:Nat,a<cs.length->sp a=false->Fre hs a
theorem MenO.same{H H':Hp}{C N e m L Cc d:Addr}{us:List V}{hs:List Hm}{cs:List Int}{kvs:List (Key×V)}(h:MenO H C N e m L Cc us hs cs d kvs)(s:Same H H'):MenO H' C N e m L Cc us hs cs d kvs:=by
 obtain ⟨⟨dx,ho⟩,mm,hd⟩:=h
 exact ⟨⟨dx,s _ _ ho⟩,mm.same s,s _ _ hd⟩
section
variable {H H':Hp}{C N e L Cc d:Addr}{hd:List Int}
theorem Snd.same(x:Snd H C N e L Cc d hd)(s:Same H H'):Snd H' C N e L Cc d hd:=by
 obtain ⟨m,us,hs,cs,kvs,sp,ws,mo,r⟩:=x.ex
 exact ⟨m,us,hs,cs,kvs,sp,ws,mo.same s,r⟩
theorem Snd.at3(x:Snd H C N e L Cc d hd):(∃cs:List Int,H Cc=some (.lst (cs.map V.int))/\cs.length=hd.length)/\(∃k,H d=some (.dK k))/\(∃us,H L=some (.lst us))/\∃dx m,H e=some (.ins N dx (fsN m d)):=by
 obtain ⟨m,us,hs,cs,kvs,sp,ws,⟨⟨dx,ho⟩,⟨_,mm⟩,hd'⟩,_,_,_,_,hl,_⟩:=x.ex
 exact ⟨⟨cs,mm.hc,hl.symm⟩,⟨_,hd'⟩,⟨_,mm.hl⟩,dx,m,ho⟩
theorem yfh{m:Addr}{us:List V}{hs:List Hm}{cs ds:List Int}{kvs kvs':List (Key×V)}(h:MenO H C N e m L Cc us hs cs d kvs)(k:∀b u,H b=some u->b≠Cc->b≠d->(∀t,u=.lst t->b=L)->H' b=some u)(h1:H' Cc=some (.lst (ds.map V.int)))(h2:H' d=some (.dK kvs')):MenO H' C N e m L Cc us hs ds d kvs':=by
 obtain ⟨⟨dx,ho⟩,⟨⟨dy,hm⟩,mm⟩,hd'⟩:=h
 have go:∀{b:Addr}{u:HO},H b=some u->(∀t,u≠.lst t)->(∀t,u≠.dK t)->H' b=some u:=λ{b u} q n1 n2=>k b u q (λz=>by subst z;rw[mm.hc]at q;exact n1 _ (Option.some.inj q).symm) (λz=>by subst z;rw[hd']at q;exact n2 _ (Option.some.inj q).symm) λt z=>(n1 t z).elim
 refine ⟨⟨dx,go ho (λ_ z=>by cases z) (λ_ z=>by cases z)⟩,⟨⟨dy,go hm (λ_ z=>by cases z) (λ_ z=>by cases z)⟩,⟨mm.ne,k _ _ mm.hl mm.ne (λz=>by have:=mm.hl;rw[z,hd']at this;cases this) (λ_ _=>rfl),⟨mm.hv.len,λi v h a b=>?_⟩,mm.ok,h1⟩⟩,h2⟩
 obtain ⟨z,q,hz⟩:=mm.hv.at_ i v h a b
 exact ⟨z,q,go hz (λ_ z=>by cases z) (λ_ z=>by cases z)⟩
theorem Snd.put{D:Addr}{xs:List V}{o:HO}(x:Snd H C N e L Cc d hd)(hD:H D=some (.lst xs))(n1:D≠Cc)(n2:D≠L):Snd (upd H D o) C N e L Cc d hd:=by
 obtain ⟨m,us,hs,cs,kvs,sp,ws,mo,r⟩:=x.ex
 have nd:d≠D:=λz=>by have:=mo.d;rw[z,hD]at this;cases this
 refine ⟨m,us,hs,cs,kvs,sp,ws,yfh mo (λb u q _ _ hl=>?_) (by rw[yae n1.symm];exact mo.m.m.hc) (by rw[yae nd];exact mo.d),r⟩
 rw[yae]
 ·exact q
 ·rintro rfl
  rw[hD]at q
  exact n2 (hl xs (Option.some.inj q).symm)
theorem Snd.read{Q:V->Hp->Prop}{E:XK}{a:Nat}(x:Snd H C N e L Cc d hd)(ha:a<hd.length)(k:∀H',Kp2 H H' Cc d->Snd H' C N e L Cc d hd->Q (.int (rd hd a)) H'):yej C N [.ref e,.int (a:Int)] H Q E:=by
 obtain ⟨m,us,hs,cs,kvs,sp,ws,mo,ir,sd,wl,kl,hl,hv,fr⟩:=id x.ex
 refine ⟨e,m,L,Cc,us,hs,cs,d,kvs,sp,ws,a,rfl,mo,ir,sd,wl,by omega,λs=>?_,λs H' u=>?_⟩
 ·have:=hv a (by omega)
  rw[s,if_pos rfl]at this
  have k:=k H Kp2.refl x
  rw[this]at k
  exact k
 ·have:=hv a (by omega)
  rw[s,if_neg Bool.false_ne_true]at this
  rw[fre_read (fr a (by omega) s)]at u ⊢
  have k:=k H' (λb u' n1 _ q=>u.st b u' n1 q) ⟨m,us,hs,cs,kvs,sp,ws,yfh mo (λb u' q n1 _ _=>u.st b u' n1 q) u.at_ (u.st _ _ (λz=>by have:=mo.d;rw[z,mo.m.m.hc]at this;cases this) mo.d),ir,sd,wl,kl,hl,hv,fr⟩
  rw[this]at k
  exact k
theorem Snd.write{Q:V->Hp->Prop}{E:XK}{a:Nat}{b:Bool}(x:Snd H C N e L Cc d hd)(ha:a<hd.length)(k:∀H',Kp2 H H' Cc d->Snd H' C N e L Cc d (hd.set a (b2i b))->Q .non H'):qdj C N [.ref e,.int (a:Int),.int (b2i b)] H Q E:=by
 obtain ⟨m,us,hs,cs,kvs,sp,ws,mo,ir,sd,wl,kl,hl,hv,fr⟩:=id x.ex
 have ndC:d≠Cc:=λz=>by have:=mo.d;rw[z,mo.m.m.hc]at this;cases this
 refine ⟨e,m,L,Cc,us,hs,cs,d,kvs,sp,ws,a,b,rfl,mo,ir,sd,wl,by omega,kl,λs H1 s1=>?_,λs H' u=>?_⟩
 ·refine k _ (λy u' n1 n2 q=>by rw[yae n2];exact s1 _ _ q) ⟨m,us,hs,cs,putK kvs (.inl (a:Int)) (.int (b2i b)),sp,ws.set a (b2i b),yfh mo (λy u' q n1 n2 _=>by rw[yae n2];exact s1 _ _ q) (by rw[yae ndC.symm];exact s1 _ _ mo.m.m.hc) qab,ir,sd.put (by omega) s,by simpa using wl,?_,by simpa using hl,λi hi=>?_,fr⟩
  ·rw[put_len]
   ·exact kl
   ·rw[sd a (by omega),if_pos s]
    rfl
  ·rw[ye0 ha,ye0 (by omega),hv i hi]
   by_cases z:i=a
   ·rw[if_pos z,if_pos z,z,s,if_pos rfl]
   ·rw[if_neg z,if_neg z]
 ·have fa:=fr a (by omega) s
  have wl':(yd4 hs cs (a:Int) (b2i b)).length=cs.length:=yfp _ _ _ _
  refine k H' (λy u' n1 _ q=>u.st y u' n1 q) ⟨m,us,hs,_,kvs,sp,ws,yfh mo (λy u' q n1 _ _=>u.st y u' n1 q) u.at_ (u.st _ _ ndC mo.d),by rw[wl'];exact ir,sd,by rw[wl'];exact wl,kl,by rw[wl'];simpa using hl,λi hi=>?_,λi hi=>fr i (by omega)⟩
  rw[wl']at hi
  rw[ye0 ha,hv i hi]
  by_cases z:i=a
  ·rw[if_pos z,z,s,if_neg Bool.false_ne_true,yh1 fa fa mo.m.m.ok (by omega),if_pos rfl]
  ·rw[if_neg z]
   cases si:sp i with
   |true=>rw[if_pos rfl,if_pos rfl]
   |false=>rw[if_neg Bool.false_ne_true,if_neg Bool.false_ne_true,yh1 fa (fr i hi si) mo.m.m.ok (by omega),if_neg z]
theorem Snd.size{Q:V->Hp->Prop}{E:XK}(x:Snd H C N e L Cc d hd)(k:Q (.int (hd.length:Nat)) H):yfn C N [.ref e] H Q E:=by
 obtain ⟨m,us,hs,cs,kvs,sp,ws,mo,ir,sd,wl,kl,hl,hv,fr⟩:=id x.ex
 rw[hl]at k
 exact ⟨e,m,L,Cc,us,hs,cs,d,kvs,rfl,mo,k⟩
end
abbrev Stp:=Bool×Bool
abbrev Elm:=Str×List Stp
def ykv(w:Bool):Str:=if w then "w" else "r"
def qlt(s:Stp):PyData:=.tuple [.str (ykv s.1),.int (b2i s.2)]
def qkc(e:Elm):PyData:=.tuple [.str e.1,.list (e.2.map qlt)]
def yit(T:List Elm):PyData:=.list (T.map qkc)
def okO(o:Str):Prop:=o="up"\/o="down"\/o="any"
def okE(e:Elm):Prop:=okO e.1/\1<=e.2.length/\e.2.length<=6
def okT(T:List Elm):Prop:=1<=T.length/\T.length<=8/\∀e∈T,okE e
theorem ylv{H:Hp}{v:V}{s:Stp}(h:At H v (qlt s)):∃a,v=.ref a/\H a=some (.tup [.str (ykv s.1),.int (b2i s.2)]):=by
 obtain ⟨a,vs,rfl,h1,h2⟩:=h.tupEq
 cases h2 with
 |cons x r=>
  cases r with
  |cons y r=>
   cases r
   rw[x.strEq,y.intEq]at h1
   exact ⟨a,rfl,h1⟩
theorem yg4{H:Hp}{v:V}{e:Elm}(h:At H v (qkc e)):∃a l ws,v=.ref a/\H a=some (.tup [.str e.1,.ref l])/\H l=some (.lst ws)/\AtAll H ws (e.2.map qlt):=by
 obtain ⟨a,vs,rfl,h1,h2⟩:=h.tupEq
 cases h2 with
 |cons x r=>
  cases r with
  |cons y r=>
   cases r
   obtain ⟨l,ws,rfl,h3,h4⟩:=y.lstEq
   rw[x.strEq]at h1
   exact ⟨a,l,ws,rfl,h1,h3,h4⟩
theorem yix(b:Bool):inV (.str (ykv b)) [.str "r",.str "w"]=true:=by cases b<;>decide +kernel
theorem qkq{o:Str}(h:okO o):inV (.str o) [.str "up",.str "down",.str "any"]=true:=by
 rcases h with rfl|rfl|rfl<;>decide +kernel
section
variable {P:Program}{w:World}{K:W.Frag}{mg:Str->Option Value}{base:Heap}
def yep:Sp:=λvs H Q _=>∃a u v,vs=[.ref a]/\H a=some (.tup [u,v])/\Q (.bl true) H
abbrev qf4:Stmt:=top 18
theorem qgw:FnScope ["thing"] ["thing"] (yac qf4):=fsc
theorem yke(B:Bl mg)(F:FnAt K mg "is_pair" qf4 ["thing"]):Has P w K mg base 1 "is_pair" ["thing"] yep:=by
 refine Has.of F qgw (λvs H Q E h=>?_) (λ_ _ _ _ _ H vs Q E hr h=>?_)
 ·obtain ⟨a,u,v,rfl,_⟩:=h
  rfl
 ·obtain ⟨a,u,v,rfl,ha,k⟩:=h
  have sc:=qgw
  refine ⟨_,(qaf (yap (qa3 (qai ybi rfl (B.of rfl) boot_isinstance (yaa (pv 0) (yaa (yb3 (v:=.ty "tuple") rfl (B.of rfl) boot_tuple rfl) qad))) (qbt (qat ybm (qai qah rfl (B.of rfl) boot_len (yaa (pv 0) qad)) qac (yak _)))))),?_⟩
  refine ⟨_,rfl,_,_,_,_,rfl,.tup ha,rfl,_,rfl,iteT ?_⟩
  exact ⟨_,rfl,a,_,rfl,.inr (sqtO ha),rfl,k⟩
def ydc:Sp:=λvs H Q _=>∃a xs n,vs=[.ref a,.int n]/\H a=some (.lst xs)/\0<xs.length/\(xs.length:Int)<=n/\Q (.bl true) H
abbrev qdu:Stmt:=top 19
theorem qez:FnScope ["thing","most"] ["thing","most"] (yac qdu):=fsc
theorem qh1(B:Bl mg)(F:FnAt K mg "is_filled" qdu ["thing","most"]):Has P w K mg base 1 "is_filled" ["thing","most"] ydc:=by
 refine Has.of F qez (λvs H Q E h=>?_) (λ_ _ _ _ _ H vs Q E hr h=>?_)
 ·obtain ⟨a,xs,n,rfl,_⟩:=h
  rfl
 ·obtain ⟨a,xs,n,rfl,ha,h1,h2,k⟩:=h
  have sc:=qez
  refine ⟨_,(qaf (yap (qa3 (qai ybi rfl (B.of rfl) boot_isinstance (yaa (pv 0) (yaa (yb3 (v:=.ty "list") rfl (B.of rfl) boot_list rfl) qad))) (qa3 (qat qis (qai qah rfl (B.of rfl) boot_len (yaa (pv 0) qad)) qac (yak _)) (qbt (qat op_le (qai qah rfl (B.of rfl) boot_len (yaa (pv 0) qad)) (pv 1) (yak _))))))),?_⟩
  refine ⟨_,rfl,_,_,_,_,rfl,.lst ha,rfl,_,rfl,iteT ?_⟩
  refine ⟨_,rfl,a,_,rfl,.inl (sqlO ha),_,_,rfl,rfl,_,rfl,iteD (by omega) ?_⟩
  refine ⟨_,rfl,a,_,rfl,.inl (sqlO ha),_,rfl,_,_,rfl,rfl,?_⟩
  show Q (.bl (decide ((xs.length:Int)<=n))) H
  rw[decide_eq_true h2]
  exact k
def ygu:Sp:=λvs H Q _=>∃v s,vs=[v]/\At H v (qlt s)/\∀H',Same H H'->Q (.bl true) H'
abbrev qf6:Stmt:=top 20
theorem qgt:FnScope ["thing"] ["thing"] (yac qf6):=fsc
theorem qj3(qgd:GTup K mg "LETTERS" [.str "r",.str "w"])(yf8:Has P w K mg base 1 "is_pair" ["thing"] yep)(qbf:Has P w K mg base 1 "is_one_of" ["thing","words"] (qbs K))
  (qco:Has P w K mg base 2 "is_bit" ["thing"] yc9) (F:FnAt K mg "is_step" qf6 ["thing"]):Has P w K mg base 3 "is_step" ["thing"] ygu:=by
 refine Has.of F qgt (λvs H Q E h=>?_) (λ_ _ _ _ _ H vs Q E hr h=>?_)
 ·obtain ⟨v,s,rfl,_⟩:=h
  rfl
 ·obtain ⟨v,⟨sw,sb⟩,rfl,hv,k⟩:=h
  obtain ⟨a,rfl,ha⟩:=ylv hv
  have sc:=qgt
  refine ⟨_,(qaf (yap (qa3 (yag yf8 hr (yaa (pv 0) qad)) (qa3 (yag qbf hr (yaa (qaq yal (pv 0) qac) (yaa (yhc qgd) qad))) (qbt (yag qco hr (yaa (qaq yal (pv 0) qac) qad))))))),?_⟩
  refine ⟨_,rfl,a,_,_,rfl,ha,_,rfl,iteT ?_⟩
  refine ⟨_,rfl,a,_,_,_,rfl,rfl,sqtO ha,rfl,λaL hL=>⟨ykv sw,aL,_,rfl,hL,rfl,_,rfl,iteB (yix sw) ?_⟩⟩
  exact ⟨_,rfl,a,_,_,_,rfl,rfl,sqtO ha,rfl,sb,rfl,k⟩
def ye1:Sp:=λvs H Q _=>∃v e,vs=[v]/\At H v (qkc e)/\okE e/\Q (.bl true) H
abbrev yd2:Stmt:=top 21
theorem qe5:FnScope ["thing"] ["thing"] (yac yd2):=fsc
theorem qh2(yhg:GTup K mg "ORDERS" [.str "up",.str "down",.str "any"])(qes:∃t,mg "MOST_IN_ELEMENT"=some (.int 6 t))(yf8:Has P w K mg base 1 "is_pair" ["thing"] yep)
  (qbf:Has P w K mg base 1 "is_one_of" ["thing","words"] (qbs K)) (ydw:Has P w K mg base 1 "is_filled" ["thing","most"] ydc) (F:FnAt K mg "is_framed" yd2 ["thing"]):Has P w K mg base 2 "is_framed" ["thing"] ye1:=by
 refine Has.of F qe5 (λvs H Q E h=>?_) (λ_ _ _ _ _ H vs Q E hr h=>?_)
 ·obtain ⟨v,s,rfl,_⟩:=h
  rfl
 ·obtain ⟨v,e,rfl,hv,⟨h1,h2,h3⟩,k⟩:=h
  obtain ⟨a,l,ws,rfl,ha,hl,hw⟩:=yg4 hv
  have hlen:=hw.length
  rw[length_map]at hlen
  have sc:=qe5
  refine ⟨_,(qaf (yap (qa3 (yag yf8 hr (yaa (pv 0) qad)) (qa3 (yag qbf hr (yaa (qaq yal (pv 0) qac) (yaa (yhc yhg) qad))) (qbt (yag ydw hr (yaa (qaq yal (pv 0) qac) (yaa (yd1 qes) qad)))))))),?_⟩
  refine ⟨_,rfl,a,_,_,rfl,ha,_,rfl,iteT ?_⟩
  refine ⟨_,rfl,a,_,_,_,rfl,rfl,sqtO ha,rfl,λaL hL=>⟨e.1,aL,_,rfl,hL,rfl,_,rfl,iteB (qkq h1) ?_⟩⟩
  exact ⟨_,rfl,a,_,_,_,rfl,rfl,sqtO ha,rfl,l,ws,6,rfl,hl,by omega,by omega,k⟩
def qcd:Sp:=λvs H Q _=>∃n v e,vs=[.int n,v]/\At H v (qkc e)/\okE e/\∀H',Same H H'->Q .non H'
abbrev qbq:Stmt:=top 22
theorem ycb:FnScope ["number","thing","place","step"] ["number","thing"] (yac qbq):=fsc
theorem qel(B:Bl mg)(yjg:Has P w K mg base 2 "is_framed" ["thing"] ye1)(ylq:Has P w K mg base 3 "is_step" ["thing"] ygu)(F:FnAt K mg "look_at_element" qbq ["number","thing"]) :
  Has P w K mg base 4 "look_at_element" ["number","thing"] qcd:=by
 refine Has.of F ycb (λvs H Q E h=>?_) (λ_ _ _ _ _ H vs Q E hr h=>?_)
 ·obtain ⟨n,v,s,rfl,_⟩:=h
  rfl
 ·obtain ⟨n,v,e,rfl,hv,he,k⟩:=h
  obtain ⟨a,l,ws,rfl,ha,hl,hw⟩:=yg4 hv
  have sc:=ycb
  refine ⟨_,(yai (qbh (qc2 (qcl (yag yjg hr (yaa (pv 1) qad))))
    (qaf ya6)
    yaq)
   (qaf (qb5 PassesOwn.never rfl (qdy rfl (B.of rfl) (yaa (qaq yal (pv 1) qac) qad)) (ydo rfl (qan (pgn 2 sc.nd) (qan (pgn 3 sc.nd) qbj)))
    (qaf (qbh (qc2 (qcl (yag ylq hr (yaa (pv 3) qad))))
     (qaf ya6)
     yaq))))),?_⟩
  refine ⟨_,rfl,_,e,rfl,hv,he,true,rfl,iteF ?_⟩
  refine ⟨_,rfl,a,_,_,_,rfl,rfl,sqtO ha,rfl,l,ws,rfl,sqlO hl,ycq (xs:=ws) (λi σ H2=>∃p q,σ=[some (.int n),some (.ref a),p,q]/\Same H H2) ⟨none,none,rfl,smR _⟩
   (λi σ H2 _ ⟨_,_,_,s2⟩=>sqlO (s2 _ _ hl)) ?_ (λσ H2 ⟨_,_,_,s2⟩=>k H2 s2)⟩
  rintro i x p σ H2 hx ⟨_,_,rfl,s2⟩ hp
  obtain ⟨d,hd,hat⟩:=hw.get hx
  rw[getElem?_map]at hd
  cases es:e.2[i]? with
  |none=>rw[es]at hd;cases hd
  |some st=>
   rw[es]at hd
   cases hd
   have s3:Same H (upd H2 p (.tup [.int i,x])):=s2.upd hp
   refine ⟨p,_,rfl,sqtO qab,rfl,_,_,rfl,_,_,rfl,rfl,?_⟩
   refine ⟨_,rfl,x,st,rfl,hat.same s3,λH3 s4=>⟨true,rfl,iteF ⟨_,_,rfl,s3.trans s4⟩⟩⟩
def qc0:Sp:=λvs H Q _=>∃v T,vs=[v]/\At H v (yit T)/\okT T/\∀H',Same H H'->Q .non H'
abbrev yce:Stmt:=top 23
theorem qdh:FnScope ["thing","number","element"] ["thing"] (yac yce):=fsc
theorem yfj(B:Bl mg)(ygh:∃t,mg "MOST_IN_TEST"=some (.int 8 t))(ydw:Has P w K mg base 1 "is_filled" ["thing","most"] ydc)(yer:Has P w K mg base 4 "look_at_element" ["number","thing"] qcd)
  (F:FnAt K mg "look_at_test" yce ["thing"]):Has P w K mg base 5 "look_at_test" ["thing"] qc0:=by
 refine Has.of F qdh (λvs H Q E h=>?_) (λ_ _ _ _ _ H vs Q E hr h=>?_)
 ·obtain ⟨v,s,rfl,_⟩:=h
  rfl
 ·obtain ⟨v,T,rfl,hv,⟨h1,h2,h3⟩,k⟩:=h
  obtain ⟨l,ws,rfl,hl,hw⟩:=hv.lstEq
  have hlen:=hw.length
  rw[length_map]at hlen
  have sc:=qdh
  refine ⟨_,(yai (qbh (qc2 (qcl (yag ydw hr (yaa (pv 0) (yaa (yd1 ygh) qad)))))
    (qaf ya6)
    yaq)
   (qaf (qb5 PassesOwn.never rfl (qdy rfl (B.of rfl) (yaa (pv 0) qad)) (ydo rfl (qan (pgn 1 sc.nd) (qan (pgn 2 sc.nd) qbj)))
    (qaf (qbk (yag yer hr (yaa (pv 1) (yaa (pv 2) qad)))))))),?_⟩
  refine ⟨_,rfl,l,ws,8,rfl,hl,by omega,by omega,true,rfl,iteF ?_⟩
  refine ⟨_,rfl,l,ws,rfl,sqlO hl,ycq (xs:=ws) (λi σ H2=>∃p q,σ=[some (.ref l),p,q]/\Same H H2) ⟨none,none,rfl,smR _⟩
   (λi σ H2 _ ⟨_,_,_,s2⟩=>sqlO (s2 _ _ hl)) ?_ (λσ H2 ⟨_,_,_,s2⟩=>k H2 s2)⟩
  rintro i x p σ H2 hx ⟨_,_,rfl,s2⟩ hp
  obtain ⟨d,hd,hat⟩:=hw.get hx
  rw[getElem?_map]at hd
  cases es:T[i]? with
  |none=>rw[es]at hd;cases hd
  |some e=>
   rw[es]at hd
   cases hd
   have s3:Same H (upd H2 p (.tup [.int i,x])):=s2.upd hp
   refine ⟨p,_,rfl,sqtO qab,rfl,_,_,rfl,_,_,rfl,rfl,?_⟩
   exact ⟨_,rfl,_,rfl,_,x,e,rfl,hat.same s3,h3 e (mem_of_getElem? es),λH3 s4=>⟨_,_,rfl,s3.trans s4⟩⟩
def okU(o:Str):Prop:=o="up"\/o="down"
structure OrdOk(T:List Elm)(os:List Str):Prop where
 len:os.length=T.length
 at_:∀(i:Nat) e o,T[i]?=some e->os[i]?=some o->okU o/\(e.1="any"\/e.1=o)
theorem qlj{o:Str}(h:okU o):inV (.str o) [.str "up",.str "down"]=true:=by
 rcases h with rfl|rfl<;>decide +kernel
theorem in_any{a o:Str}(h:a="any"\/a=o):inV (.str a) [.str "any",.str o]=true:=by
 rw[in2]
 exact decide_eq_true h
def yc0:Sp:=λvs H Q _=>∃v e o,vs=[v,.str o]/\At H v (qkc e)/\okU o/\(e.1="any"\/e.1=o)/\∀H',Same H H'->Q (.bl true) H'
abbrev qce:Stmt:=top 73
theorem yc2:FnScope ["element","thing"] ["element","thing"] (yac qce):=fsc
theorem qfp(yjb:GTup K mg "TAKEN" [.str "up",.str "down"])(qbf:Has P w K mg base 1 "is_one_of" ["thing","words"] (qbs K))(F:FnAt K mg "is_order_for" qce ["element","thing"]):Has P w K mg base 2 "is_order_for" ["element","thing"] yc0:=by
 refine Has.of F yc2 (λvs H Q E h=>?_) (λ_ _ _ _ _ H vs Q E hr h=>?_)
 ·obtain ⟨v,e,o,rfl,_⟩:=h
  rfl
 ·obtain ⟨v,e,o,rfl,hv,ho,he,k⟩:=h
  obtain ⟨a,l,ws,rfl,ha,hl,hw⟩:=yg4 hv
  have sc:=yc2
  refine ⟨_,(qaf (yap (qa3 (yag qbf hr (yaa (pv 1) (yaa (yhc yjb) qad))) (qbt (qat qbd (qaq yal (pv 0) qac) (yda (yaa yan (yaa (pv 1) qad))) (by with_unfolding_all rfl)))))),?_⟩
  refine ⟨_,rfl,λaT hT=>⟨o,aT,_,rfl,hT,rfl,_,rfl,iteB (qlj ho) ?_⟩⟩
  refine ⟨_,rfl,a,_,_,_,rfl,rfl,sqtO ha,yaf 0 rfl,_,rfl,zl,λp hp=>⟨p,_,rfl,.inr (sqtO qab),rfl,rfl,?_⟩⟩
  show Q (.bl (inV (.str e.1) [.str "any",.str o])) _
  rw[in_any he]
  exact k _ ((smR H).upd hp)
def yeg:Sp:=λvs H Q _=>∃t O T os,vs=[.ref t,.ref O]/\At H (.ref t) (yit T)/\okT T/\H O=some (.lst (os.map V.str))/\OrdOk T os/\∀H',Same H H'->Q (.bl true) H'
abbrev qdd:Stmt:=top 74
theorem qeb:FnScope ["test","thing"] ["test","thing"] (yac qdd):=fsc
theorem qho(B:Bl mg)(qhb:mg "zip"=none)(qeq:mg "all"=none)(ygi:Has P w K mg base 2 "is_order_for" ["element","thing"] yc0)(F:FnAt K mg "are_orders" qdd ["test","thing"]):Has P w K mg base 3 "are_orders" ["test","thing"] yeg:=by
 refine Has.of F qeb (λvs H Q E h=>?_) (λ_ _ _ _ _ H vs Q E hr h=>?_)
 ·obtain ⟨t,O,T,os,rfl,_⟩:=h
  rfl
 ·obtain ⟨t,O,T,os,rfl,ht,okt,hO,oo,k⟩:=h
  obtain ⟨l,ws,hre,hl,hw⟩:=ht.lstEq
  cases hre
  have hwl:ws.length=T.length:=by have:=hw.length;rw[length_map]at this;exact this
  have hT8:=okt.2.1
  have sc:=qeb
  refine ⟨_,(yai (qbh (PW.pt (pw_or (qc2 (qcl (qai ybi rfl (B.of rfl) boot_isinstance (yaa (pv 1) (yaa (yb3 (v:=.ty "list") rfl (B.of rfl) boot_list rfl) qad))))) (qjn (qao op_ne (qai qah rfl (B.of rfl) boot_len (yaa (pv 1) qad)) (qai qah rfl (B.of rfl) boot_len (yaa (pv 0) qad)) (yak _)))))
    (qaf (yap qfo))
    yaq)
   (qaf (yap (qai (qc1 rfl) rfl qeq ydh (yaa (yb4 rfl (qa2 rfl) (M:=["element","order"]) (ix:=[none,none]) (ykt rfl qhb (yaa (pv 0) (yaa (pv 1) qad))) (λ_ _ _ _=>(qfw (K:=K) (n:=2) rfl rfl (qan (qa4 (i:=0) (show List.Nodup (["element","order"]:List Str) by decide +kernel) rfl (Or.inl rfl)) (qan (qa4 (i:=1) (show List.Nodup (["element","order"]:List Str) by decide +kernel) rfl (Or.inl rfl)) qbj)))) (λ_ _ _ _=>qcv) (λ_ _ _ _=>(yag ygi hr (yaa (pv 0) (yaa (pv 1) qad))))) qad))))),?_⟩
  refine ⟨_,rfl,_,_,_,_,rfl,.lst hO,rfl,_,rfl,iteF ?_⟩
  refine ⟨_,rfl,O,_,rfl,.inl (sqlO hO),_,rfl,t,_,rfl,.inl (sqlO hl),rfl,_,rfl,iteN (by rw[length_map,oo.len,hwl];simp) ?_⟩
  refine ⟨_,rfl,_,rfl,false,false,t,O,ws,os.map V.str,rfl,sqlO hl,sqlO hO,λD hD=>?_⟩
  refine qhe (K:=K) (xs:=ws) (ys:=os.map V.str) (by rw[length_map,oo.len];exact hwl) (λi H'=>Same H H'/\H' D=some (.lst ((List.replicate i true).map V.bl))) ⟨(smR H).upd hD,qab⟩ ?_ ?_ ?_
  ·rintro i H2 ⟨s2,e2⟩
   exact ⟨sqlO (s2 _ _ hl),sqlO (s2 _ _ hO)⟩
  ·rintro H2 ⟨s2,e2⟩
   refine ⟨D,_,rfl,e2,?_⟩
   rw[show (List.replicate ws.length true).all id=true by simp]
   exact k _ s2
  ·rintro i x y p H2 hx hy ⟨s2,e2⟩ hp
   obtain ⟨d,hd,hat⟩:=hw.get hx
   obtain ⟨e,he,rfl⟩:=qbv hd
   obtain ⟨o,ho,rfl⟩:=qbv hy
   obtain ⟨ou,oe⟩:=oo.at_ i e o he ho
   refine ⟨p,_,rfl,sqtO qab,rfl,?_⟩
   refine ⟨_,_,rfl,_,_,rfl,rfl,qa0.set (qa0.set (qa0.refl _) rfl) rfl,yes ?_⟩
   have s3:=s2.upd (o:=.tup [x,.str o]) hp
   refine ⟨_,rfl,_,rfl,x,e,o,rfl,hat.same s3,ou,oe,λH3 s4=>?_⟩
   have s23:Same H2 H3:=((smR H2).upd hp).trans s4
   have hi:=(List.getElem?_eq_some_iff.mp hx).1
   refine ⟨_,s23 _ _ e2,qa8 (by rw[length_map,length_replicate];omega),(s2.trans s23).at hD,?_⟩
   rw[qab,replicate_succ',map_append];rfl
def qcm:Sp:=λvs H Q _=>∃t O T os,vs=[.ref t,.ref O]/\At H (.ref t) (yit T)/\okT T/\H O=some (.lst (os.map V.str))/\OrdOk T os/\∀H',Same H H'->Q .non H'
abbrev ybu:Stmt:=top 75
theorem ych:FnScope ["test","thing"] ["test","thing"] (yac ybu):=fsc
theorem qew(qht:Has P w K mg base 3 "are_orders" ["test","thing"] yeg)(F:FnAt K mg "look_at_orders" ybu ["test","thing"]):Has P w K mg base 4 "look_at_orders" ["test","thing"] qcm:=by
 refine Has.ofQ F ych (λvs H Q E h=>?_) (λ_ _ _ _ _ H vs Q E hr h=>?_)
 ·obtain ⟨t,O,T,os,rfl,_⟩:=h
  rfl
 ·obtain ⟨t,O,T,os,rfl,ht,okt,hO,oo,k⟩:=h
  have sc:=ych
  refine ⟨_,(yam rfl (qag (qbc (qcx (ybq (qaj qht hr (yah (qaa (pv 0)) (yah (qaa (pv 1)) yad)))))
    (qag (ygc ya6))
    ya3))),?_⟩
  exact ⟨_,rfl,_,rfl,t,O,T,os,rfl,ht,okt,hO,oo,λH' s'=>⟨_,rfl,iteN rfl (k H' s')⟩⟩
structure FT(H:Hp)(vs:List V)(xs:List (List V)):Prop where
 len:vs.length=xs.length
 at_:∀(i:Nat) v x,vs[i]?=some v->xs[i]?=some x->∃a,v=.ref a/\H a=some (.tup x)
theorem FT.nil{H:Hp}:FT H [] []:=⟨rfl,λi v x h=>by simp at h⟩
theorem FT.same{H H':Hp}{vs:List V}{xs:List (List V)}(s:Same H H')(f:FT H vs xs):FT H' vs xs:=⟨f.len,λi v x a b=>by obtain ⟨c,e,hc⟩:=f.at_ i v x a b;exact ⟨c,e,s _ _ hc⟩⟩
theorem FT.put{H:Hp}{D:Addr}{ys:List V}{o:HO}{vs:List V}{xs:List (List V)}(f:FT H vs xs)(hd:H D=some (.lst ys)):FT (upd H D o) vs xs:=⟨f.len,λi v x a b=>by
 obtain ⟨c,e,hc⟩:=f.at_ i v x a b
 exact ⟨c,e,by rw[yae (λz=>by subst z;rw[hd]at hc;cases hc)];exact hc⟩⟩
theorem FT.snoc{H:Hp}{vs:List V}{xs:List (List V)}{a:Addr}{x:List V}(f:FT H vs xs)(h:H a=some (.tup x)):FT H (vs++[.ref a]) (xs++[x]):=by
 refine ⟨by simp[f.len],λi v y h1 h2=>?_⟩
 by_cases hi:i<vs.length
 ·rw[getElem?_append_left hi]at h1
  rw[getElem?_append_left (by rw[<-f.len];exact hi)]at h2
  exact f.at_ i v y h1 h2
 ·rw[getElem?_append_right (by omega)]at h1
  rw[getElem?_append_right (by rw[<-f.len];omega),<-f.len]at h2
  cases hj:i-vs.length with
  |zero=>rw[hj]at h1 h2;cases h1;cases h2;exact ⟨a,rfl,h⟩
  |succ n=>rw[hj]at h1;simp at h1
theorem FT.get{H:Hp}{vs:List V}{xs:List (List V)}(f:FT H vs xs){i:Nat}{v:V}(h:vs[i]?=some v):∃x a,xs[i]?=some x/\v=.ref a/\H a=some (.tup x):=by
 have hi:=(List.getElem?_eq_some_iff.mp h).1
 have e:xs[i]?=some (xs[i]'(by rw[<-f.len];exact hi)):=getElem?_eq_getElem _
 obtain ⟨a,h1,h2⟩:=f.at_ i v _ h e
 exact ⟨_,a,e,h1,h2⟩
def ybp(up:Bool)(n:Nat):List Int:=(List.range n).map λt:Nat=>if up then (t:Int) else (n:Int)-1-t
def rowD(ws:List V)(a:Int):List (List V):=(List.range ws.length).map λp:Nat=>[.int a,.int p,ws.getD p .non]
def qlf(up:Bool)(ws:List V)(n:Nat):List (List V):=(ybp up n).flatMap (rowD ws)
theorem addrs_at(up:Bool)(n:Nat){i:Nat}(h:i<n):(ybp up n)[i]?=some (if up then (i:Int) else (n:Int)-1-i):=by
 unfold ybp
 rw[getElem?_map,List.getElem?_range h]
 rfl
theorem yj1(up:Bool)(ws:List V)(n:Nat){i:Nat}{a:Int}(h:(ybp up n)[i]?=some a):((ybp up n).take (i+1)).flatMap (rowD ws)=((ybp up n).take i).flatMap (rowD ws)++rowD ws a:=by
 rw[take_add_one,h]
 simp
theorem yl5(ws:List V)(a:Int){j:Nat}{w:V}(h:ws[j]?=some w):(rowD ws a).take (j+1)=(rowD ws a).take j++[[.int a,.int j,w]]:=by
 have hj:=(List.getElem?_eq_some_iff.mp h).1
 rw[take_add_one]
 congr 1
 unfold rowD
 rw[getElem?_map,List.getElem?_range hj]
 simp[getD_eq_getElem?_getD,h]
theorem yg8(ws:List V)(a:Int):(rowD ws a).length=ws.length:=by simp[rowD]
theorem qg1(ws:List V):∀(l:List Int),(l.flatMap (rowD ws)).length=l.length*ws.length
 |[]=>by simp
 |a::l=>by
  rw[flatMap_cons,length_append,yg8,qg1 ws l,length_cons,Nat.succ_mul]
  omega
def qjm:Sp:=λvs H Q _=>∃(o:Str) (S:Addr) (ws:List V) (n:Nat),vs=[.str o,.ref S,.int n]/\okU o/\H S=some (.lst ws)/\ws.length<=6/\n<=64/\
 ∀(D:Addr) (us:List V) (H':Hp),Same H H'->H D=none->H' D=some (.lst us)->FT H' us (qlf (decide (o="up")) ws n)->Q (.ref D) H'
abbrev qiy:Stmt:=top 51
theorem qju:FnScope ["order","steps","size","found","turn","address","place","step"] ["order","steps","size"] (yac qiy):=fsc
theorem ok_deeds(B:Bl mg)(F:FnAt K mg "deeds" qiy ["order","steps","size"]):Has P w K mg base 1 "deeds" ["order","steps","size"] qjm:=by
 refine Has.ofQ F qju (λvs H Q E h=>?_) (λ_ _ _ _ _ H vs Q E hr h=>?_)
 ·obtain ⟨o,S,ws,n,rfl,_⟩:=h
  rfl
 ·obtain ⟨o,S,ws,n,rfl,ho,hS,hw6,hn,k⟩:=h
  have sc:=qju
  refine ⟨_,(yam rfl (qae (qsE 3 sc.nd (qa5 yad))
   (qae (yb2 PassesOwn.never rfl (ygg (qb0 rfl (B.of rfl) (yaa (pv 2) qad))) (pgn 4 sc.nd)
    (qae (qsE 5 sc.nd (qe_mid (qhj (ya9 ybm (qaa (pv 0)) (qaa yan) (yak _)) (qaa (pv 4)) (yat yhx (yat yhx (qaa (pv 2)) (qaa qac)) (qaa (pv 4))))))
    (qag (yb2 PassesOwn.never rfl (ygg (qdy rfl (B.of rfl) (yaa (pv 1) qad))) (ydo rfl (qan (pgn 6 sc.nd) (qan (pgn 7 sc.nd) qbj)))
     (qag (qar (qaa (yga PySem.F.plainAttrs_list PySem.F.slot_list_append PySem.F.type_list_append ya1 (pv 3) (yaa (yda (yaa (pv 5) (yaa (pv 6) (yaa (pv 7) qad)))) qad)))))))))
   (qag (qas (qaa (pv 3))))))),?_⟩
  refine ⟨zero_le _,λD hD=>?_⟩
  have s0:=(smR H).upd (o:=.lst []) hD
  refine ⟨_,rfl,_,rfl,by omega,by omega,?_⟩
  rw[toNat_natCast]
  refine ycj (n:=n) (λi σ H2=>∃(us:List V) (o4 o5 o6 o7:Option V),σ=[some (.str o),some (.ref S),some (.int n),some (.ref D),o4,o5,o6,o7]/\Same H H2/\H2 D=some (.lst us)/\FT H2 us (((ybp (decide (o="up")) n).take i).flatMap (rowD ws))) ⟨[],none,none,none,none,rfl,s0,qab,FT.nil⟩ ?_ ?_
  ·rintro i σ H2 hi ⟨us,o4,o5,o6,o7,rfl,s2,e2,ft⟩
   have hadr:=addrs_at (decide (o="up")) n hi
   obtain ⟨ad,had⟩:∃ad:Int,ad=(if decide (o="up")=true then (i:Int) else (n:Int)-1-i):=⟨_,rfl⟩
   rw[<-had]at hadr
   refine ⟨λv H'=>v=.int ad/\H'=H2,?_,?_⟩
   ·refine ⟨_,rfl,rfl,_,rfl,?_⟩
    rw[dS]
    by_cases hu:o="up"
    ·refine iteD hu ⟨_,rfl,?_,rfl⟩
     rw[had,if_pos (decide_eq_true hu),zero_add]
    ·refine yby hu ⟨_,rfl,_,_,rfl,rfl,_,rfl,_,_,rfl,rfl,?_,rfl⟩
     rw[had,if_neg (by simp[hu])]
     show V.int ((n:Int)-1-(0+(i:Int)))=_
     rw[zero_add]
   ·rintro v H3 ⟨rfl,rfl⟩
    have hlen:=ft.len
    rw[qg1]at hlen
    have htl:((ybp (decide (o="up")) n).take i).length<=64:=by rw[length_take];omega
    have hmul:((ybp (decide (o="up")) n).take i).length*ws.length<=64*6:=Nat.mul_le_mul htl hw6
    refine ⟨_,rfl,S,_,rfl,sqlO (s2 _ _ hS),ycq (xs:=ws) (λj σ H4=>∃(us:List V) (o6 o7:Option V),σ=[some (.str o),some (.ref S),some (.int n),some (.ref D),some (.int ((0:Int)+(i:Int))),some (.int ad),o6,o7]/\Same H H4/\H4 D=some (.lst us)/\FT H4 us (((ybp (decide (o="up")) n).take i).flatMap (rowD ws)++(rowD ws ad).take j)) ⟨us,_,_,rfl,s2,e2,by simpa using ft⟩ (λj σ H4 _ ⟨_,_,_,_,s4,_⟩=>sqlO (s4 _ _ hS)) ?_ ?_⟩
    ·rintro j x pp σ H4 hx ⟨us,o6,o7,rfl,s4,e4,ft4⟩ hpp
     have hj:=(List.getElem?_eq_some_iff.mp hx).1
     refine ⟨pp,_,rfl,sqtO qab,rfl,_,_,rfl,_,_,rfl,rfl,?_⟩
     have s5:=(smR H4).upd (o:=.tup [V.int j,x]) hpp
     revert s5
     generalize upd H4 pp _=H5
     intro s5
     have e5:=s5 _ _ e4
     refine ⟨_,rfl,.inl ⟨rfl,_,sqlO e5⟩,_,rfl,_,rfl,_,rfl,zl,λq hq=>?_⟩
     have s6:=(smR H5).upd (o:=.tup [V.int ad,.int j,x]) hq
     have q6:=@qab H5 q (.tup [V.int ad,.int j,x])
     revert s6 q6
     generalize upd H5 q _=H6
     intro s6 q6
     have l4:=ft4.len
     rw[length_append,qg1]at l4
     have hr6:((rowD ws ad).take j).length<=6:=by rw[length_take,yg8];omega
     have e6:=s6 _ _ e5
     refine ⟨D,us,_,rfl,rfl,e6,qa8 (by omega),?_⟩
     refine ⟨us++[.ref q],_,_,rfl,((s4.trans s5).trans s6).at hD,qab,?_⟩
     rw[yl5 ws ad hx,<-List.append_assoc]
     exact ((ft4.same (s5.trans s6)).snoc q6).put e6
    ·rintro σ H4 ⟨us,o6,o7,rfl,s4,e4,ft4⟩
     refine ⟨us,_,_,_,_,rfl,s4,e4,?_⟩
     rw[yj1 _ ws n hadr]
     rw[show (rowD ws ad).take ws.length=rowD ws ad by rw[<-yg8 ws ad,take_length]]at ft4
     exact ft4
  ·rintro σ H2 ⟨us,o4,o5,o6,o7,rfl,s2,e2,ft⟩
   refine ⟨_,rfl,k D us H2 s2 hD e2 ?_⟩
   have:(ybp (decide (o="up")) n).take n=ybp (decide (o="up")) n:=by
    rw[take_of_length_le];simp[ybp]
   rw[this]at ft
   exact ft
end
structure TestAt(H:Hp)(t:Addr)(ws:List V)(T:List Elm):Prop where
 l:H t=some (.lst ws)
 a:AtAll H ws (T.map qkc)
theorem TestAt.of{H:Hp}{t:Addr}{T:List Elm}(h:At H (.ref t) (yit T)):∃ws,TestAt H t ws T:=by
 obtain ⟨l,ws,e,h1,h2⟩:=h.lstEq
 cases e
 exact ⟨ws,h1,h2⟩
theorem TestAt.same{H H':Hp}{t:Addr}{ws:List V}{T:List Elm}(x:TestAt H t ws T)(s:Same H H'):TestAt H' t ws T:=⟨s _ _ x.l,x.a.same s⟩
def ixP(up:Bool)(k n:Nat):List (Int×Nat):=(ybp up n).flatMap λa=>(List.range k).map λp=>(a,p)
theorem deeds_ix(up:Bool)(ws:List V)(n:Nat):qlf up ws n=(ixP up ws.length n).map λx=>[V.int x.1,.int x.2,ws.getD x.2 .non]:=by
 unfold qlf ixP rowD
 rw[List.map_flatMap]
 simp[Function.comp_def]
theorem ix_mem{up:Bool}{k n:Nat}{x:Int×Nat}(h:x∈ixP up k n):0<=x.1/\x.1<n/\x.2<k:=by
 obtain ⟨a,ha,hx⟩:=List.mem_flatMap.mp h
 obtain ⟨p,hp,rfl⟩:=mem_map.mp hx
 obtain ⟨t,ht,rfl⟩:=mem_map.mp ha
 have h1:=mem_range.mp ht
 have h2:=mem_range.mp hp
 refine ⟨?_,?_,h2⟩<;>dsimp only<;>split<;>omega
theorem qk3(up:Bool)(k n:Nat):(ixP up k n).length=n*k:=by
 unfold ixP
 rw[List.length_flatMap]
 simp only[ybp,map_map,Function.comp_def,length_map,length_range]
 induction n with
 |zero=>simp
 |succ m ih=>
  rw[List.range_succ,map_append,List.sum_append,ih,Nat.succ_mul]
  simp
theorem yki{α β:Type}(f:β->α->β)(b:β){l:List α}{i:Nat}{x:α}(h:l[i]?=some x):(l.take (i+1)).foldl f b=f ((l.take i).foldl f b) x:=yei f b h
def stepV(s:Stp):List V:=[.str (ykv s.1),.int (b2i s.2)]
theorem yjm{H:Hp}:∀{ws:List V}{ss:List Stp},AtAll H ws (ss.map qlt)->FT H ws (ss.map stepV)
 |[],[],_=>FT.nil
 |w::ws,s::ss,.cons a r=>by
  obtain ⟨b,rfl,hb⟩:=ylv a
  have f:=yjm r
  refine ⟨by simpa using f.len,λi v x h1 h2=>?_⟩
  cases i with
  |zero=>simp at h1 h2;subst h1;subst h2;exact ⟨b,rfl,hb⟩
  |succ i=>exact f.at_ i v x (by simpa using h1) (by simpa using h2)
open Mc (Kp2)
theorem qgv{σ:L2.St}{H:Hp}{Q:List V->Hp->Prop}(h:Q [] H):tNil σ H Q:=h
abbrev RV:=List (List V)×List Int
def ybz(ss:List Stp)(i:Nat)(st:RV)(x:Int×Nat):RV:=
 if (ss.getD x.2 (false,false)).1=true then (st.1,st.2.set x.1.toNat (b2i (ss.getD x.2 (false,false)).2))
 else (st.1++[[.int i,.int x.1,.int x.2,.int (rd st.2 x.1)]],st.2)
def yg5(n:Nat)(T:List Elm)(os:List Str)(st:RV)(i:Nat):RV:=(ixP (decide (os.getD i ""="up")) (T.getD i ("",[])).2.length n).foldl (ybz (T.getD i ("",[])).2 i) st
def runS(n:Nat)(T:List Elm)(os:List Str)(st:RV)(k:Nat):RV:=(List.range k).foldl (yg5 n T os) st
theorem yf7(n:Nat)(T:List Elm)(os:List Str)(st:RV)(k:Nat):runS n T os st (k+1)=yg5 n T os (runS n T os st k) k:=by
 unfold runS
 rw[List.range_succ,List.foldl_append]
 rfl
theorem yfl(ss:List Stp)(i:Nat):∀(l:List (Int×Nat)) (st:RV),(l.foldl (ybz ss i) st).2.length=st.2.length/\(l.foldl (ybz ss i) st).1.length<=st.1.length+l.length
 |[],st=>⟨rfl,by simp⟩
 |x::l,st=>by
  have h1:(ybz ss i st x).2.length=st.2.length/\(ybz ss i st x).1.length<=st.1.length+1:=by
   unfold ybz
   split<;>simp
  obtain ⟨g1,g2⟩:=yfl ss i l (ybz ss i st x)
  rw[foldl_cons]
  exact ⟨g1.trans h1.1,by rw[length_cons];omega⟩
theorem yha{n:Nat}{T:List Elm}(ok:okT T)(hn:n<=64)(os:List Str)(st:RV):∀k,(runS n T os st k).2.length=st.2.length/\(runS n T os st k).1.length<=st.1.length+384*k
 |0=>⟨rfl,by simp[runS]⟩
 |k+1=>by
  obtain ⟨h1,h2⟩:=yha ok hn os st k
  rw[yf7]
  unfold yg5
  obtain ⟨g1,g2⟩:=yfl (T.getD k ("",[])).2 k (ixP (decide (os.getD k ""="up")) (T.getD k ("",[])).2.length n) (runS n T os st k)
  refine ⟨g1.trans h1,?_⟩
  rw[qk3]at g2
  have h6:(T.getD k ("",[])).2.length<=6:=by
   rw[getD_eq_getElem?_getD]
   cases e:T[k]? with
   |none=>simp
   |some x=>exact (ok.2.2 x (mem_of_getElem? e)).2.2
  have:n*(T.getD k ("",[])).2.length<=64*6:=Nat.mul_le_mul hn h6
  omega
theorem _root_.Mc.Kp2.hide{H H':Hp}{a b:Addr}(k:Kp2 H H' a b):Same (yb7 H [a,b]) H':=λx u e=>by
 unfold yb7 at e
 split at e
 ·cases e
 ·rename_i h
  simp at h
  exact k x u h.1 h.2 e
theorem _root_.Mc.Kp2.ins{H H' H2:Hp}{a b:Addr}(k:Kp2 H H' a b)(s:Same H' H2):Kp2 H H2 a b:=λx u h1 h2 e=>s _ _ (k x u h1 h2 e)
theorem _root_.Mc.Kp2.new{H H':Hp}{a b D:Addr}{o:HO}(k:Kp2 H H' a b)(hD:H D=none):Kp2 H (upd H' D o) a b:=λx u h1 h2 e=>by
 rw[yae (yab e hD)]
 exact k x u h1 h2 e
section
variable {H H':Hp}{C N e L Cc d:Addr}{hd:List Int}
theorem Snd.up{b:Addr}{u:HO}(x:Snd H C N e L Cc d hd)(k:Kp2 H H' Cc d)(q:H b=some u)(h1:b≠Cc)(h2:∀k,u≠.dK k):H' b=some u:=by
 obtain ⟨_,⟨kv,hk⟩,_⟩:=x.at3
 exact k b u h1 (λz=>by subst z;rw[hk]at q;exact h2 _ (Option.some.inj q).symm) q
theorem Snd.ft{vs:List V}{xs:List (List V)}(x:Snd H C N e L Cc d hd)(k:Kp2 H H' Cc d)(f:FT H vs xs):FT H' vs xs:=⟨f.len,λi v y a b=>by
 obtain ⟨c,q,hc⟩:=f.at_ i v y a b
 obtain ⟨⟨cs,h1,_⟩,_⟩:=x.at3
 exact ⟨c,q,x.up k hc (λz=>by subst z;rw[h1]at hc;cases hc) λk z=>by cases z⟩⟩
theorem Snd.fresh{D:Addr}(x:Snd H C N e L Cc d hd)(hD:H D=none):D≠Cc/\D≠L/\D≠d:=by
 obtain ⟨⟨cs,h1,_⟩,⟨kv,h2⟩,⟨us,h3⟩,_⟩:=x.at3
 exact ⟨(yab h1 hD).symm,(yab h3 hD).symm,(yab h2 hD).symm⟩
end
section
variable {P:Program}{w:World}{K:W.Frag}{mg:Str->Option Value}{base:Heap}{C N:Addr}
def yd9(C N:Addr):Sp:=λvs H Q _=>∃(t e O L Cc d:Addr) (T:List Elm) (os:List Str) (hd:List Int),vs=[.ref t,.ref e,.ref O]/\At (yb7 H [Cc,d]) (.ref t) (yit T)/\okT T/\Snd H C N e L Cc d hd/\hd.length<=64/\yb7 H [Cc,d] O=some (.lst (os.map V.str))/\OrdOk T os/\
 ∀(D:Addr) (tv:List V) (H':Hp),Kp2 H H' Cc d->H D=none->H' D=some (.lst tv)->FT H' tv (runS hd.length T os ([],hd) T.length).1->Snd H' C N e L Cc d (runS hd.length T os ([],hd) T.length).2->Q (.ref D) H'
abbrev qd2:Stmt:=top 76
theorem ye5:FnScope ["test","memory","orders","told","number","element","address","place","step"] ["test","memory","orders"] (yac qd2):=fsc
theorem qhg(B:Bl mg)(cn:CN K N)(h_deeds:Has P w K mg base 1 "deeds" ["order","steps","size"] qjm)(hn_read:HasM P w K mg base N 6 "read" ["self","address"] (yej C N))(hn_write:HasM P w K mg base N 7 "write" ["self","address","bit"] (qdj C N))(hn_size:HasM P w K mg base N 2 "size" ["self"] (yfn C N))(F:FnAt K mg "all_reads" qd2 ["test","memory","orders"]):Has P w K mg base 8 "all_reads" ["test","memory","orders"] (yd9 C N):=by
 refine Has.ofQ F ye5 (λvs H Q E h=>?_) (λ_ _ _ _ _ H vs Q E hr h=>?_)
 ·obtain ⟨t,e,O,L,Cc,d,T,os,hd,rfl,_⟩:=h
  rfl
 ·obtain ⟨t,m,O,L,Cc,d,T,os,cs,rfl,ht,okt,sn,hn,hO,oo,k⟩:=h
  have sc:=ye5
  refine ⟨_,(yam rfl (qae (qsE 3 sc.nd (qa5 yad))
   (qae (yb2 PassesOwn.never rfl (ygg (qdy rfl (B.of rfl) (yaa (pv 0) qad))) (ydo rfl (qan (pgn 4 sc.nd) (qan (pgn 5 sc.nd) qbj)))
    (qag (yb2 PassesOwn.never rfl (qf9 (qaj h_deeds hr (ycu (qav yaj (qaa (pv 2)) (qaa (pv 4))) (ycu (qav yal (qaa (pv 5)) (qaa qac)) (qfd (qiq cn.c hn_size hr (qaa (pv 1))) yad))))) (ydo rfl (qan (pgn 6 sc.nd) (qan (pgn 7 sc.nd) (qan (pgn 8 sc.nd) qbj))))
     (qag (qbc (ya9 ybm (qav yal (qaa (pv 8)) (qaa qac)) (qaa yan) (yak _))
      (qag (qar (ybk cn.c hn_write hr (qaa (pv 1)) (yah (qaa (pv 6)) (ycu (qav yal (qaa (pv 8)) (qaa qac)) yad)))))
      (qag (qar (qaa (yga PySem.F.plainAttrs_list PySem.F.slot_list_append PySem.F.type_list_append ya1 (pv 3) (yaa (yda (ybt (pv 4) (ybt (pv 6) (ybt (pv 7) (pa_cl (QE.of (ybk cn.c hn_read hr (qaa (pv 1)) (yah (qaa (pv 6)) yad))) qad))))) qad))))))))))
   (qag (qas (qaa (pv 3))))))),?_⟩
  obtain ⟨ws,tx⟩:=TestAt.of ht
  have hwl:ws.length=T.length:=by have:=tx.a.length;rw[length_map]at this;exact this
  have hT8:=okt.2.1
  refine ⟨zero_le _,λD hD=>?_⟩
  obtain ⟨nDC,nDL,nDd⟩:=sn.fresh hD
  have k0:Kp2 H (upd H D (.lst [])) Cc d:=Kp2.new Kp2.refl hD
  have sn0:=sn.same ((smR H).upd (o:=.lst []) hD)
  have f0:=@qab H D (.lst [])
  revert k0 sn0 f0
  generalize upd H D _=H0
  intro k0 sn0 f0
  have hlen:=yha okt hn os ([],cs)
  refine ⟨_,rfl,t,_,rfl,sqlO (tx.same k0.hide).l,ycq (xs:=ws) (λi σ H2=>∃(tv:List V) (o4 o5 o6 o7 o8:Option V),σ=[some (.ref t),some (.ref m),some (.ref O),some (.ref D),o4,o5,o6,o7,o8]/\Kp2 H H2 Cc d/\Snd H2 C N m L Cc d (runS cs.length T os ([],cs) i).2/\H2 D=some (.lst tv)/\FT H2 tv (runS cs.length T os ([],cs) i).1)
   ⟨[],none,none,none,none,none,rfl,k0,sn0,f0,FT.nil⟩ (λi σ H2 _ ⟨_,_,_,_,_,_,_,h,_⟩=>sqlO (tx.same h.hide).l) ?_ ?_⟩
  ·rintro i x pp σ H2 hx ⟨tv,o4,o5,o6,o7,o8,rfl,k2,sn2,e2,ft2⟩ hpp
   have tx2:=tx.same k2.hide
   obtain ⟨dd,hd,hat⟩:=tx2.a.get hx
   obtain ⟨e,he,rfl⟩:=qbv hd
   have hiT:=(List.getElem?_eq_some_iff.mp he).1
   obtain ⟨ea,el,sw,rfl,hea,hel,hsw⟩:=yg4 hat
   have oke:=okt.2.2 e (mem_of_getElem? he)
   have hswl:sw.length=e.2.length:=by have:=hsw.length;rw[length_map]at this;exact this
   obtain ⟨o,ho⟩:∃o,os[i]?=some o:=⟨os[i]'(by rw[oo.len];exact hiT),getElem?_eq_getElem _⟩
   obtain ⟨ou,_⟩:=oo.at_ i e o he ho
   refine ⟨pp,_,rfl,sqtO qab,rfl,_,_,rfl,_,_,rfl,rfl,?_⟩
   have s3:=(smR H2).upd (o:=.tup [V.int i,.ref ea]) hpp
   revert s3
   generalize upd H2 pp _=H3
   intro s3
   have sn3:=sn2.same s3
   obtain ⟨_,_,_,dx3,m3,ho3⟩:=sn3.at3
   have hl2:=(hlen i).1
   refine ⟨_,rfl,_,rfl,O,_,_,_,rfl,rfl,sqlO (s3 _ _ (k2.hide _ _ hO)),qb2 (by rw[getElem?_map,ho];rfl),_,rfl,ea,_,_,_,rfl,rfl,sqtO (s3 _ _ hea),yaf 1 rfl,_,rfl,m,dx3,_,rfl,ho3,lk_m,qgv (sn3.size ?_)⟩
   refine ⟨o,el,sw,cs.length,by show [V.str o,.ref el,.int ((runS cs.length T os ([],cs) i).2.length:Nat)]=_;rw[hl2],ou,s3 _ _ hel,by have:=oke.2.2;omega,hn,λDD uu H4 s4 nDD hDD ftd=>?_⟩
   have hgo:os.getD i ""=o:=by rw[getD_eq_getElem?_getD,ho];rfl
   have hge:(T.getD i ("",[]))=e:=by rw[getD_eq_getElem?_getD,he];rfl
   rw[deeds_ix,hswl]at ftd
   obtain ⟨nDDC,nDDL,nDDd⟩:=sn3.fresh nDD
   have nDD0:D≠DD:=yab (s3 _ _ e2) nDD
   have s24:=s3.trans s4
   have stf:=(yjm hsw).same s24
   have hstep:runS cs.length T os ([],cs) (i+1)=(ixP (decide (o="up")) e.2.length cs.length).foldl (ybz e.2 i) (runS cs.length T os ([],cs) i):=by
    rw[yf7];unfold yg5;rw[hgo,hge]
   have hlen2:=(hlen i).2
   revert sn2 sn3 ft2 hstep hl2 hlen2
   generalize runS cs.length T os ([],cs) i=st0
   intro sn2 ft2 sn3 hl2 hstep hlen2
   have hstl:∀j,(((ixP (decide (o="up")) e.2.length cs.length).take j).foldl (ybz e.2 i) st0).2.length=cs.length/\(((ixP (decide (o="up")) e.2.length cs.length).take j).foldl (ybz e.2 i) st0).1.length<=4000:=λj=>by
    obtain ⟨g1,g2⟩:=yfl e.2 i ((ixP (decide (o="up")) e.2.length cs.length).take j) st0
    refine ⟨g1.trans hl2,?_⟩
    have g3:((ixP (decide (o="up")) e.2.length cs.length).take j).length<=384:=by
     rw[length_take,qk3]
     have:cs.length*e.2.length<=64*6:=Nat.mul_le_mul hn oke.2.2
     omega
    simp at hlen2
    omega
   refine ⟨DD,rfl,⟨_,sqlO hDD⟩,qa7 (xs:=uu) (λj σ H5=>∃(tv:List V) (o6 o7 o8:Option V),σ=[some (.ref t),some (.ref m),some (.ref O),some (.ref D),some (.int i),some (.ref ea),o6,o7,o8]/\Kp2 H H5 Cc d/\Snd H5 C N m L Cc d (((ixP (decide (o="up")) e.2.length cs.length).take j).foldl (ybz e.2 i) st0).2/\H5 D=some (.lst tv)/\FT H5 tv (((ixP (decide (o="up")) e.2.length cs.length).take j).foldl (ybz e.2 i) st0).1/\H5 DD=some (.lst uu)/\FT H5 uu ((ixP (decide (o="up")) e.2.length cs.length).map λx=>[V.int x.1,.int x.2,sw.getD x.2 .non])/\FT H5 sw (e.2.map stepV))
    ⟨tv,_,_,_,rfl,k2.ins s24,sn2.same s24,s24 _ _ e2,ft2.same s24,hDD,ftd,stf⟩ (λj σ H5 _ ⟨_,_,_,_,_,_,_,_,_,d5,_⟩=>sqlO d5) ?_ ?_⟩
   ·rintro j y σ H5 hy ⟨tv5,o6,o7,o8,rfl,k5,sn5,e5,ft5,d5,fr5,fs5⟩
    obtain ⟨row,ra,hrow,rfl,hra⟩:=fr5.get hy
    obtain ⟨ap,hap,rfl⟩:=qbv hrow
    obtain ⟨a0,a1,a2⟩:=ix_mem (mem_of_getElem? hap)
    obtain ⟨_,_,_,dx5,m5,ho5⟩:=sn5.at3
    have ⟨l5,l5'⟩:=hstl j
    obtain ⟨s,hs'⟩:∃s,e.2[ap.2]?=some s:=⟨e.2[ap.2],getElem?_eq_getElem _⟩
    obtain ⟨sv,hsv⟩:∃v,sw[ap.2]?=some v:=⟨sw[ap.2]'(by omega),getElem?_eq_getElem _⟩
    obtain ⟨sa,rfl,hsa⟩:=fs5.at_ ap.2 sv (stepV s) hsv (by rw[getElem?_map,hs'];rfl)
    have hgs:e.2.getD ap.2 (false,false)=s:=by rw[getD_eq_getElem?_getD,hs'];rfl
    have hgv:sw.getD ap.2 .non=.ref sa:=by rw[getD_eq_getElem?_getD,hsv];rfl
    rw[hgv]at hra
    have hnext:=yki (ybz e.2 i) st0 hap
    revert sn5 ft5 hnext l5 l5'
    generalize ((ixP (decide (o="up")) e.2.length cs.length).take j).foldl (ybz e.2 i) st0=st5
    intro sn5 ft5 l5 l5' hnext
    refine ⟨ra,_,rfl,sqtO hra,rfl,_,_,rfl,_,_,rfl,_,_,rfl,rfl,?_⟩
    have hst:ybz e.2 i st5 ap=if s.1=true then (st5.1,st5.2.set ap.1.toNat (b2i s.2)) else (st5.1++[[.int i,.int ap.1,.int ap.2,.int (rd st5.2 ap.1)]],st5.2):=by
     unfold ybz;rw[hgs]
    rw[hst]at hnext
    unfold stepV at hsa
    obtain ⟨an,han⟩:∃n:Nat,ap.1=n:=⟨ap.1.toNat,by omega⟩
    have han2:an<st5.2.length:=by omega
    refine ⟨_,rfl,sa,_,_,_,rfl,rfl,sqtO hsa,yaf 0 rfl,rfl,_,rfl,?_⟩
    cases hw:s.1 with
    |true=>
     rw[hw,if_pos rfl]at hnext
     refine iteB (by decide +kernel) ?_
     refine ⟨_,rfl,m,dx5,_,rfl,ho5,lk_m,_,rfl,_,rfl,sa,_,_,_,rfl,rfl,sqtO hsa,yaf 1 rfl,?_⟩
     rw[han]
     refine qgv (sn5.write han2 λH6 k6 sn6=>?_)
     refine ⟨tv5,_,_,_,rfl,?_⟩
     rw[hnext,han]
     exact ⟨k5.trans k6,sn6,sn5.up k6 e5 nDC (λk z=>by cases z),sn5.ft k6 ft5,sn5.up k6 d5 nDDC (λk z=>by cases z),sn5.ft k6 fr5,sn5.ft k6 fs5⟩
    |false=>
     rw[hw,if_neg (by simp)]at hnext
     refine iteN (by decide +kernel) ?_
     refine ⟨_,rfl,.inl ⟨rfl,_,sqlO e5⟩,_,rfl,_,rfl,_,rfl,_,rfl,m,dx5,_,rfl,ho5,lk_m,_,rfl,?_⟩
     rw[han]
     refine qgv (sn5.read han2 λH6 k6 sn6=>?_)
     have e6:=sn5.up k6 e5 nDC (λk z=>by cases z)
     have d6:=sn5.up k6 d5 nDDC (λk z=>by cases z)
     refine ⟨zl,λq hq=>?_⟩
     have s7:=(smR H6).upd (o:=.tup [V.int i,.int (an:Int),.int ap.2,.int (rd st5.2 (an:Int))]) hq
     have q7:=@qab H6 q (.tup [V.int i,.int (an:Int),.int ap.2,.int (rd st5.2 (an:Int))])
     revert s7 q7
     generalize upd H6 q _=H7
     intro s7 q7
     have e7:=s7 _ _ e6
     have l6:=ft5.len
     refine ⟨D,tv5,_,rfl,rfl,e7,qa8 (by omega),?_⟩
     refine ⟨tv5++[.ref q],_,_,_,rfl,?_⟩
     rw[hnext,han]
     exact ⟨((k5.trans k6).ins s7).new hD,(sn6.same s7).put e7 nDC nDL,qab,(((sn5.ft k6 ft5).same s7).snoc q7).put e7,by rw[yae nDD0.symm];exact s7 _ _ d6,((sn5.ft k6 fr5).same s7).put e7,((sn5.ft k6 fs5).same s7).put e7⟩
   ·rintro σ H5 ⟨tv5,o6,o7,o8,rfl,k5,sn5,e5,ft5,d5,fr5,fs5⟩
    have huu:uu.length=(ixP (decide (o="up")) e.2.length cs.length).length:=by have:=ftd.len;rw[length_map]at this;exact this
    rw[huu,take_length,<-hstep]at sn5 ft5
    exact ⟨tv5,_,_,_,_,_,rfl,k5,sn5,e5,ft5⟩
  ·rintro σ H2 ⟨tv,o4,o5,o6,o7,o8,rfl,k2,sn2,e2,ft2⟩
   rw[hwl]at sn2 ft2
   exact ⟨_,rfl,k D tv H2 k2 hD e2 ft2 sn2⟩
end
open Mc (Kp2)
def bitR(x:List V):V:=x.getD 3 .non
def T3l:List Elm:=[("any",[(true,false)]),("up",[(false,false),(true,true)]),("down",[(false,true)])]
def O3l:List Str:=["down","up","down"]
theorem okT3:okT T3l:=⟨by decide,by decide,λe he=>by
 simp only[T3l,mem_cons,not_mem_nil,or_false]at he
 rcases he with rfl|rfl|rfl
 ·exact ⟨.inr (.inr rfl),by decide,by decide⟩
 ·exact ⟨.inl rfl,by decide,by decide⟩
 ·exact ⟨.inr (.inl rfl),by decide,by decide⟩⟩
theorem ordT3:OrdOk T3l O3l:=⟨rfl,λi e o h1 h2=>by
 match i,h1,h2 with
 |0,h1,h2=>cases h1;cases h2;exact ⟨.inr rfl,.inl rfl⟩
 |1,h1,h2=>cases h1;cases h2;exact ⟨.inl rfl,.inr rfl⟩
 |2,h1,h2=>cases h1;cases h2;exact ⟨.inr rfl,.inr rfl⟩⟩
theorem ix1(up:Bool)(n:Nat):ixP up 1 n=(ybp up n).map λa=>(a,0):=by
 unfold ixP
 rw[show (List.range 1)=[0] from rfl]
 induction ybp up n with
 |nil=>rfl
 |cons a l ih=>rw[flatMap_cons,ih];rfl
theorem ix2(up:Bool)(n:Nat):ixP up 2 n=(ybp up n).flatMap λa=>[(a,0),(a,1)]:=rfl
theorem ylt{up:Bool}{n:Nat}{a:Int}(h:a∈ybp up n):0<=a/\a<n:=by
 obtain ⟨t,ht,rfl⟩:=mem_map.mp h
 have:=mem_range.mp ht
 split<;>omega
theorem qme{up:Bool}{n a:Nat}(h:a<n):(a:Int)∈ybp up n:=by
 cases up with
 |true=>exact mem_map.mpr ⟨a,mem_range.mpr h,by simp⟩
 |false=>exact mem_map.mpr ⟨n-1-a,mem_range.mpr (by omega),by simp;omega⟩
theorem adr_nd(up:Bool)(n:Nat):(ybp up n).Nodup:=by
 unfold ybp
 refine List.Pairwise.map _ (λa b h=>?_) List.nodup_range
 split<;>omega
theorem qma(up:Bool)(n:Nat):(ybp up n).length=n:=by unfold ybp;simp
theorem fold_w(i:Nat)(b:Bool):∀(l:List Int) (st:RV),(∀a∈l,0<=a/\a<st.2.length)->∃hd,((l.map λa=>(a,0)).foldl (ybz [(true,b)] i) st)=(st.1,hd)/\hd.length=st.2.length/\∀a:Nat,(a:Int)∈l\/rd st.2 a=b2i b->rd hd a=b2i b
 |[],st,_=>⟨st.2,rfl,rfl,λa h=>h.elim (λz=>by simp at z) id⟩
 |x::l,st,h=>by
  have hx:=h x (by simp)
  obtain ⟨hd,e,hl,hv⟩:=fold_w i b l (st.1,st.2.set x.toNat (b2i b)) λa ha=>by rw[length_set];exact h a (by simp[ha])
  refine ⟨hd,?_,by rw[hl,length_set],λa ha=>hv a ?_⟩
  ·rw[map_cons,foldl_cons,<-e]
   rfl
  ·by_cases z:(a:Int)∈l
   ·exact .inl z
   ·refine .inr ?_
    rw[ye0 (by omega)]
    split
    ·rfl
    ·rename_i n
     refine ha.elim (λq=>?_) id
     rcases mem_cons.mp q with q|q
     ·omega
     ·exact (z q).elim
theorem yk0(i:Nat):∀(l:List Int) (st:RV),l.Nodup->(∀a∈l,0<=a/\a<st.2.length/\rd st.2 a=0)->∃hd rs,((l.flatMap λa=>[(a,0),(a,1)]).foldl (ybz [(false,false),(true,true)] i) st)=(st.1++rs,hd)/\rs.map bitR=List.replicate l.length (.int 0)/\hd.length=st.2.length/\∀a:Nat,(a:Int)∈l\/rd st.2 a=1->rd hd a=1
 |[],st,_,_=>⟨st.2,[],by simp,rfl,rfl,λa h=>h.elim (λz=>by simp at z) id⟩
 |x::l,st,nd,h=>by
  obtain ⟨x0,x1,xr⟩:=h x (by simp)
  have nd':=nodup_cons.mp nd
  obtain ⟨hd,rs,e,er,hl,hv⟩:=yk0 i l (st.1++[[.int i,.int x,.int ((0:Nat):Int),.int (rd st.2 x)]],st.2.set x.toNat 1) nd'.2 λa ha=>by
   obtain ⟨a0,a1,ar⟩:=h a (by simp[ha])
   refine ⟨a0,by rw[length_set];exact a1,?_⟩
   obtain ⟨an,rfl⟩:∃n:Nat,a=n:=⟨a.toNat,by omega⟩
   rw[ye0 (by omega),if_neg (λz=>nd'.1 (by rw[show x=(an:Int) by omega];exact ha))]
   exact ar
  refine ⟨hd,[.int i,.int x,.int ((0:Nat):Int),.int (rd st.2 x)]::rs,?_,?_,by rw[hl,length_set],λa ha=>hv a ?_⟩
  ·rw[flatMap_cons,List.foldl_append,show st.1++([.int i,.int x,.int ((0:Nat):Int),.int (rd st.2 x)]::rs)=(st.1++[[.int i,.int x,.int ((0:Nat):Int),.int (rd st.2 x)]])++rs by simp,<-e]
   rfl
  ·rw[map_cons,er,length_cons,replicate_succ,xr]
   rfl
  ·by_cases z:(a:Int)∈l
   ·exact .inl z
   ·refine .inr ?_
    rw[ye0 (by omega)]
    split
    ·rfl
    ·refine ha.elim (λq=>?_) id
     rcases mem_cons.mp q with q|q
     ·omega
     ·exact (z q).elim
theorem fold_r(i:Nat):∀(l:List Int) (st:RV),(∀a∈l,rd st.2 a=1)->∃rs,((l.map λa=>(a,0)).foldl (ybz [(false,true)] i) st)=(st.1++rs,st.2)/\rs.map bitR=List.replicate l.length (.int 1)
 |[],st,_=>⟨[],by simp,rfl⟩
 |x::l,st,h=>by
  have hx:=h x (by simp)
  obtain ⟨rs,e,er⟩:=fold_r i l (st.1++[[.int i,.int x,.int ((0:Nat):Int),.int (rd st.2 x)]],st.2) λa ha=>h a (by simp[ha])
  refine ⟨[.int i,.int x,.int ((0:Nat):Int),.int (rd st.2 x)]::rs,?_,?_⟩
  ·rw[map_cons,foldl_cons,show st.1++([.int i,.int x,.int ((0:Nat):Int),.int (rd st.2 x)]::rs)=(st.1++[[.int i,.int x,.int ((0:Nat):Int),.int (rd st.2 x)]])++rs by simp,<-e]
   rfl
  ·rw[map_cons,er,length_cons,replicate_succ,hx]
   rfl
theorem run3(hd:List Int):(runS hd.length T3l O3l ([],hd) 3).1.map bitR=(List.replicate hd.length (0:Int)++List.replicate hd.length 1).map V.int:=by
 have e:runS hd.length T3l O3l ([],hd) 3=(ixP false 1 hd.length).foldl (ybz [(false,true)] 2) ((ixP true 2 hd.length).foldl (ybz [(false,false),(true,true)] 1) ((ixP false 1 hd.length).foldl (ybz [(true,false)] 0) ([],hd))):=by
  show yg5 _ _ _ (yg5 _ _ _ (yg5 _ _ _ _ 0) 1) 2=_
  unfold yg5
  rw[show decide (O3l.getD 0 ""="up")=false by decide +kernel,show decide (O3l.getD 1 ""="up")=true by decide +kernel,show decide (O3l.getD 2 ""="up")=false by decide +kernel]
  rfl
 rw[e,ix1,ix2]
 obtain ⟨h1,e1,l1,v1⟩:=fold_w 0 false (ybp false hd.length) ([],hd) λa ha=>ylt ha
 rw[e1]
 obtain ⟨h2,r2,e2,er2,l2,v2⟩:=yk0 1 (ybp true hd.length) ([],h1) (adr_nd _ _) λa ha=>by
  obtain ⟨a0,a1⟩:=ylt ha
  refine ⟨a0,by rw[l1];exact a1,?_⟩
  obtain ⟨an,rfl⟩:∃n:Nat,a=n:=⟨a.toNat,by omega⟩
  exact v1 an (.inl (qme (by omega)))
 rw[e2]
 obtain ⟨r3,e3,er3⟩:=fold_r 2 (ybp false hd.length) ([]++r2,h2) λa ha=>by
  obtain ⟨a0,a1⟩:=ylt ha
  obtain ⟨an,rfl⟩:∃n:Nat,a=n:=⟨a.toNat,by omega⟩
  exact v2 an (.inl (qme (by omega)))
 rw[e3]
 show (([]++r2)++r3).map bitR=_
 rw[List.nil_append,map_append,er2,er3,qma,qma,map_append,map_replicate,map_replicate]
section
variable {P:Program}{w:World}{K:W.Frag}{mg:Str->Option Value}{base:Heap}{C N:Addr}
theorem rows3{T:List Elm}{os:List Str}{n:Nat}(hd:List Int):∀k,∀x∈(runS n T os ([],hd) k).1,∃a b c d,x=[V.int a,.int b,.int c,.int d]
 |0,x,h=>by simp[runS]at h
 |k+1,x,h=>by
  rw[yf7]at h
  unfold yg5 at h
  have go:∀(ss:List Stp) (l:List (Int×Nat)) (st:RV),(∀y∈st.1,∃a b c d,y=[V.int a,.int b,.int c,.int d])->∀y∈(l.foldl (ybz ss k) st).1,∃a b c d,y=[V.int a,.int b,.int c,.int d]:=by
   intro ss l
   induction l with
   |nil=>intro st h y hy;exact h y hy
   |cons z l ih=>
    intro st h y hy
    rw[foldl_cons]at hy
    refine ih _ (λy hy=>?_) y hy
    unfold ybz at hy
    split at hy
    ·exact h y hy
    ·rcases mem_append.mp hy with hy|hy
     ·exact h y hy
     ·rw[mem_singleton.mp hy]
      exact ⟨_,_,_,_,rfl⟩
  exact go _ _ _ (rows3 hd k) x h
def ygl(C N:Addr):Sp:=λvs H Q _=>∃(t e O L Cc d:Addr) (hd:List Int),vs=[.ref t,.ref e,.ref O]/\At (yb7 H [Cc,d]) (.ref t) (yit T3l)/\Snd H C N e L Cc d hd/\hd.length<=64/\yb7 H [Cc,d] O=some (.lst (O3l.map V.str))/\
 ∀(D:Addr) (H':Hp),Kp2 H H' Cc d->H D=none->H' D=some (.lst ((List.replicate hd.length (0:Int)++List.replicate hd.length 1).map V.int))->Q (.ref D) H'
abbrev qhs:Stmt:=top 77
theorem yh8:FnScope ["test","memory","orders"] ["test","memory","orders"] (yac qhs):=fsc
theorem qkj(B:Bl mg)(qgj:Has P w K mg base 5 "look_at_test" ["thing"] qc0)(qfc:Has P w K mg base 4 "look_at_orders" ["test","thing"] qcm)(qi0:Has P w K mg base 8 "all_reads" ["test","memory","orders"] (yd9 C N))(F:FnAt K mg "run_on" qhs ["test","memory","orders"]):Has P w K mg base 9 "run_on" ["test","memory","orders"] (ygl C N):=by
 refine Has.ofQ F yh8 (λvs H Q E h=>?_) (λ_ _ _ _ _ H vs Q E hr h=>?_)
 ·obtain ⟨t,e,O,L,Cc,d,hd,rfl,_⟩:=h
  rfl
 ·obtain ⟨t,e,O,L,Cc,d,hd,rfl,ht,sn,hn,hO,k⟩:=h
  have sc:=yh8
  refine ⟨_,(yam rfl (qae (qar (qaj qgj hr (yah (qaa (pv 0)) yad)))
   (qae (qar (qaj qfc hr (yah (qaa (pv 0)) (yah (qaa (pv 2)) yad))))
   (qag (qas (qaa (yb4 rfl (qa2 rfl) (M:=["told"]) (ix:=[none]) (ya8 (yag qi0 hr (yaa (pv 0) (yaa (pv 1) (yaa (pv 2) qad))))) (λ_ _ _ _=>(qa4 (i:=0) (show List.Nodup (["told"]:List Str) by decide +kernel) rfl (Or.inl rfl))) (λ_ _ _ _=>qcv) (λ_ _ _ _=>(qaq (ix_tupK (K:=K) rfl) (pv 0) qac))))))))),?_⟩
  have sH:=qba H [Cc,d]
  refine ⟨_,rfl,_,T3l,rfl,ht.same sH,okT3,λH1 s1=>?_⟩
  refine ⟨_,rfl,_,rfl,t,O,T3l,O3l,rfl,(ht.same sH).same s1,okT3,s1 _ _ (sH _ _ hO),ordT3,λH2 s2=>?_⟩
  have s12:=s1.trans s2
  have g12:=ybn s12 [Cc,d]
  refine ⟨_,rfl,_,rfl,_,rfl,t,e,O,L,Cc,d,T3l,O3l,hd,rfl,ht.same g12,okT3,sn.same s12,hn,g12 _ _ hO,ordT3,λD tv H3 k3 hD e3 ft3 sn3=>?_⟩
  have hrl:=(yha okT3 hn O3l ([],hd) T3l.length).2
  have hrw:=rows3 (n:=hd.length) (T:=T3l) (os:=O3l) hd 3
  have hru:=run3 hd
  have k03:Kp2 H H3 Cc d:=λb u n1 n2 q=>k3 b u n1 n2 (s12 _ _ q)
  revert ft3 hrl
  show FT H3 tv (runS hd.length T3l O3l ([],hd) 3).1->(runS hd.length T3l O3l ([],hd) 3).1.length<=_->_
  revert hrw hru
  generalize (runS hd.length T3l O3l ([],hd) 3).1=st
  intro hrw hru ft3 hrl
  refine ⟨D,rfl,⟨_,sqlO e3⟩,λD2 hD2=>qb4 (n:=tv.length) (λi H5=>Same H3 H5/\H5 D2=some (.lst ((st.take i).map bitR))) ⟨(smR H3).upd hD2,qab⟩ ?_ ?_⟩
  rotate_left
  ·rintro i H5 hi2 ⟨s5,e5⟩
   refine ⟨⟨_,_,sqlO (s5 _ _ e3),by rw[getElem?_eq_getElem hi2]⟩,?_⟩
   rintro y H6 ⟨rfl,hy⟩
   obtain ⟨row,ra,hrow,rfl,hra⟩:=ft3.get (hy _ (sqlO (s5 _ _ e3)))
   obtain ⟨a1,a2,a3,a4,rfl⟩:=hrw row (mem_of_getElem? hrow)
   refine ⟨qa0.set (qa0.refl _) rfl,yes ?_⟩
   refine ⟨_,rfl,ra,_,_,_,rfl,rfl,sqtO (s5 _ _ hra),yaf 3 rfl,?_⟩
   refine ⟨_,e5,qa8 (by rw[length_map,length_take];simp[T3l]at hrl;omega),s5.at hD2,?_⟩
   rw[qab,take_add_one,hrow,map_append]
   rfl
  rintro H5 ⟨s5,e5⟩
  refine ⟨⟨_,sqlO (s5 _ _ e3),by simp⟩,?_⟩
  rw[ft3.len,take_length,hru]at e5
  refine k D2 H5 (k03.ins s5) ?_ e5
  obtain ⟨⟨cs3,c3,_⟩,⟨kv3,d3⟩,_⟩:=sn3.at3
  cases q:H D2 with
  |none=>rfl
  |some u=>
   have:=k03 D2 u (λz=>by rw[z,c3]at hD2;cases hD2) (λz=>by rw[z,d3]at hD2;cases hD2) q
   rw[hD2]at this
   cases this
end
open Mc (Kp2)
def qgi:List Int:=(List.replicate 40 ([4,64,4]:List Int)).flatten
theorem dg120_at:∀i:Nat,i<40->qgi[3*i]?=some 4/\qgi[3*i+1]?=some 64/\qgi[3*i+2]?=some 4:=by decide +kernel
theorem yjz:qgi.length<=130/\∀z∈qgi,0<z/\z<=18446744073709551616:=by decide +kernel
theorem ymj(l:List Int):PyData.eqv (qiv l) (.list [])=l.isEmpty:=by
 cases l<;>rfl
def Up3(H H':Hp)(a b c:Addr):Prop:=∀x u,x≠a->x≠b->x≠c->H x=some u->H' x=some u
theorem Up3.of{H H':Hp}{a b c:Addr}(s:Same H H'):Up3 H H' a b c:=λx u _ _ _ e=>s _ _ e
theorem Up3.trans{H H1 H2:Hp}{a b c:Addr}(x:Up3 H H1 a b c)(y:Up3 H1 H2 a b c):Up3 H H2 a b c:=λz u h1 h2 h3 e=>y z u h1 h2 h3 (x z u h1 h2 h3 e)
theorem Up3.kp{H H':Hp}{a b c:Addr}(k:Kp2 H H' a b):Up3 H H' a b c:=λx u h1 h2 _ e=>k x u h1 h2 e
theorem Up3.put{H:Hp}{a b c:Addr}{o:HO}:Up3 H (upd H c o) a b c:=λx u _ _ h e=>by rw[yae h];exact e
theorem rd_get{hd:List Int}{a:Nat}(h:a<hd.length):hd[a]?=some (rd hd a):=by
 unfold rd
 rw[getD_eq_getElem?_getD,toNat_natCast,getElem?_eq_getElem h]
 rfl
theorem yiy{x n:Int}{m:Nat}(h:n=m)(hm:1<=m):∃a:Nat,x % n=(a:Int)/\a<m:=by
 have h1:=emod_nonneg x (b:=n) (by omega)
 have h2:=emod_lt_of_pos x (b:=n) (by omega)
 exact ⟨(x % n).toNat,by omega,by omega⟩
theorem lay_setH{L:List Addr}{te:TE}{σ:L2.St}{d:PyData}{H:Hp}{i:Nat}{rest:TS}{KK:Ends}(hL:∀b∈L,H b≠none)(h:Lay L te σ d H)(k:∀v H',Same H H'->At (yb7 H' L) v d->rest KK (σ.set i (some v)) H'):tNext {KK with nx:=tSeq (tAsg te (ydm i)) rest KK} σ H:=h hL H (smR H) _ k
section
variable {P:Program}{w:World}{K:W.Frag}{mg:Str->Option Value}{base:Heap}{C N:Addr}
def qic(C N:Addr):Sp:=λvs H Q _=>∃(e hv O DD L Cc d:Addr) (hd own ds:List Int),vs=[.ref e,.ref hv,.ref O,.ref DD]/\Snd H C N e L Cc d hd/\H hv=some (.lst (hd.map V.int))/\hv≠Cc/\hv≠L/\1<=hd.length/\hd.length<=64/\H O=some (.lst (own.map V.int))/\O≠Cc/\O≠hv/\H DD=some (.lst (ds.map V.int))/\DD≠Cc/\DD≠hv/\Dig ds qgi/\
 ∀H',Up3 H H' Cc d hv->Q (.bl true) H'
abbrev qdg:Stmt:=top 84
theorem qeh:FnScope ["_law_one","_law_held","_law_own","_law_deeds","_law_k","_law_address","_law_near","_law_test"] ["_law_one","_law_held","_law_own","_law_deeds"] (yac qdg):=fsc
theorem ykz(B:Bl mg)(cn:CN K N)(hn_read:HasM P w K mg base N 6 "read" ["self","address"] (yej C N))(hn_write:HasM P w K mg base N 7 "write" ["self","address","bit"] (qdj C N))(h_run_on:Has P w K mg base 9 "run_on" ["test","memory","orders"] (ygl C N))(F:FnAt K mg "_law_sound" qdg ["_law_one","_law_held","_law_own","_law_deeds"]):Has P w K mg base 10 "_law_sound" ["_law_one","_law_held","_law_own","_law_deeds"] (qic C N):=by
 refine Has.ofQ F qeh (λvs H Q E h=>?_) (λ_ _ _ _ _ H vs Q E hr h=>?_)
 ·obtain ⟨e,hv,O,DD,L,Cc,d,hd,own,ds,rfl,_⟩:=h
  rfl
 ·obtain ⟨x,hv,O,dp,L,Cc,d,hd,own,ds,rfl,sn,hh,n1,n2,l1,l64,hO,o1,o2,hdp,p1,p2,hD,k⟩:=h
  have sc:=qeh
  refine ⟨_,(yam rfl (qae (yb2 PassesOwn.never rfl (ygg (qb0 rfl (B.of rfl) (yaa qac qad))) (pgn 4 sc.nd)
    (qae (qsE 5 sc.nd (yat qck (qav yaj (qaa (pv 3)) (yat ybg (yat qcb (qaa qac) (qaa (pv 4))) (qaa qac))) (qax qah rfl (B.of rfl) boot_len (yah (qaa (pv 1)) yad))))
    (yl3 (qbc (QW.pt (qw_and (ya9 qis (qav yaj (qaa (pv 3)) (yat qcb (qaa qac) (qaa (pv 4)))) (qaa qac) (yak _)) (yk9 (ya9 (op_neD hr) (qaa (pv 2)) (qa5 yad) (yak _)))))
     (qae (qsE 6 sc.nd (yat ybg (qav yaj (qaa (pv 2)) (yat qck (qav yaj (qaa (pv 3)) (yat ybg (yat qcb (qaa qac) (qaa (pv 4))) (qaa qac))) (qax qah rfl (B.of rfl) boot_len (yah (qaa (pv 2)) yad)))) (yat qg3 (qav yaj (qaa (pv 3)) (yat qcb (qaa qac) (qaa (pv 4)))) (qaa qac))))
     (qag (qsE 5 sc.nd (yat qck (qaa (pv 6)) (qax qah rfl (B.of rfl) boot_len (yah (qaa (pv 1)) yad))))))
     ya3)
    (qag (qbc (ya9 yi1 (qav yaj (qaa (pv 3)) (yat ybg (yat qcb (qaa qac) (qaa (pv 4))) (qaa qac))) (qaa qac) (yak _))
     (qae (qar (ybk cn.c hn_write hr (qaa (pv 0)) (yah (qaa (pv 5)) (ycu (qav yaj (qaa (pv 3)) (yat ybg (yat qcb (qaa qac) (qaa (pv 4))) (qaa qac))) yad))))
     (qag (qs_asg (qav yaj (qaa (pv 3)) (yat ybg (yat qcb (qaa qac) (qaa (pv 4))) (qaa qac))) (qk2 (pv 1) (pv 5) qhq))))
     (qag (qbc (ya9 op_ne (ybk cn.c hn_read hr (qaa (pv 0)) (yah (qaa (pv 5)) yad)) (qav yaj (qaa (pv 1)) (qaa (pv 5))) (yak _))
      (qag (qas (qaa qfo)))
      ya3)))))))
   (qae (qbc (ya9 (op_neD hr) (qaa (yb4 rfl (qa2 rfl) (M:=["_law_address","_law_one"]) (ix:=[none,some 0]) (qb0 rfl (B.of rfl) (yaa (qai qah rfl (B.of rfl) boot_len (yaa (pv 1) qad)) qad)) (λ_ _ _ _=>(qa4 (i:=0) (show List.Nodup (["_law_address","_law_one"]:List Str) by decide +kernel) rfl (Or.inl rfl))) (λ_ _ _ _=>qcv) (λ_ _ _ _=>(QE.of (ybk cn.c hn_read hr (qaa (pv 1)) (yah (qaa (pv 0)) yad)))))) (qaa (pv 1)) (yak _))
    (qag (qas (qaa qfo)))
    ya3)
   (qae (qsE 7 sc.nd (qa5 (qc3 (qbl (yas (qaa yan) (ql9 (qa5 (qc3 (qbl (yas (qaa yan) (yas (qaa qac) yad))) yad)) yad))) (qc3 (qbl (yas (qaa yan) (ql9 (qa5 (qc3 (qbl (yas (qaa yan) (yas (qaa qac) yad))) (qc3 (qbl (yas (qaa yan) (yas (qaa qac) yad))) yad))) yad))) (qc3 (qbl (yas (qaa yan) (ql9 (qa5 (qc3 (qbl (yas (qaa yan) (yas (qaa qac) yad))) yad)) yad))) yad)))))
   (qag (qas (qe_cmpR (op_eqD hr) (qaj h_run_on hr (yah (qaa (pv 7)) (yah (qaa (pv 0)) (ql9 (qa5 (yas (qaa yan) (yas (qaa yan) (yas (qaa yan) yad)))) yad)))) (yat ygr (yat qjx (qa5 (yas (qaa qac) yad)) (qax qah rfl (B.of rfl) boot_len (yah (qaa (pv 1)) yad))) (yat qjx (qa5 (yas (qaa qac) yad)) (qax qah rfl (B.of rfl) boot_len (yah (qaa (pv 1)) yad)))) (yak _)))))))),?_⟩
  have up:∀{Hk:Hp}{b:Addr}{xs:List V},Up3 H Hk Cc d hv->H b=some (.lst xs)->b≠Cc->b≠hv->Hk b=some (.lst xs):=λ{Hk b xs} u e h1 h2=>by
   obtain ⟨_,⟨kv,hk⟩,_⟩:=sn.at3
   exact u b _ h1 (λz=>by subst z;rw[hk]at e;cases e) h2 e
  refine ⟨40,rfl,by decide,by decide,ycj (n:=40) (λi σ Hk=>∃(hk:List Int) (o4 o5 o6 o7:Option V),σ=[some (.ref x),some (.ref hv),some (.ref O),some (.ref dp),o4,o5,o6,o7]/\hk.length=hd.length/\Snd Hk C N x L Cc d hk/\Hk hv=some (.lst (hk.map V.int))/\Up3 H Hk Cc d hv) ⟨hd,_,_,_,_,rfl,rfl,sn,hh,Up3.of (smR _)⟩ ?_ ?_⟩
  ·rintro i σ Hk hi ⟨hk,o4,o5,o6,o7,rfl,hl,snk,hhk,upk⟩
   show ydm 4 (V.int ((0:Int)+(i:Int))) _ _ _
   rw[zero_add]
   refine gn ?_
   dsimp only
   obtain ⟨z0',z1',z2'⟩:=dg120_at i hi
   obtain ⟨u0,gu0,u00,u01⟩:=hD.get z0'
   obtain ⟨u1,gu1,u10,u11⟩:=hD.get z1'
   obtain ⟨u2,gu2,u20,u21⟩:=hD.get z2'
   have cm3:CMul 3 (i:Int):=.inl ⟨by decide,by decide⟩
   have at0:atI (ds.map V.int) (3*(i:Int))=some (.int u0):=by rw[show 3*(i:Int)=((3*i:Nat):Int) by omega];exact qb2 (qby gu0)
   have at1:atI (ds.map V.int) (3*(i:Int)+1)=some (.int u1):=by rw[show 3*(i:Int)+1=((3*i+1:Nat):Int) by omega];exact qb2 (qby gu1)
   have at2:atI (ds.map V.int) (3*(i:Int)+2)=some (.int u2):=by rw[show 3*(i:Int)+2=((3*i+2:Nat):Int) by omega];exact qb2 (qby gu2)
   have hdk:=up upk hdp p1 p2
   have hOk:=up upk hO o1 o2
   have lm:(hk.map V.int).length=hd.length:=by rw[length_map];exact hl
   have lp:(0:Int)<((hk.map V.int).length:Int):=by omega
   refine ⟨_,rfl,_,rfl,_,_,rfl,rfl,cm3,_,_,rfl,rfl,dp,_,_,_,rfl,rfl,sqlO hdk,at1,_,rfl,hv,_,rfl,.inl (sqlO hhk),_,_,rfl,rfl,lp,?_⟩
   obtain ⟨a0,ea0,la0⟩:=yiy (x:=u1) (congrArg Int.ofNat lm) l1
   show ydm 5 (V.int (u1 % ((hk.map V.int).length:Int))) _ _ _
   rw[show u1 % ((hk.map V.int).length:Int)=(a0:Int) from ea0]
   refine gn ?_
   dsimp only
   refine ⟨λσ' H'=>∃(a:Nat) (q6:Option V),σ'=[some (.ref x),some (.ref hv),some (.ref O),some (.ref dp),some (.int i),some (.int a),q6,o7]/\a<hd.length/\Same Hk H',?_,?_⟩
   ·refine ⟨_,rfl,_,rfl,_,_,rfl,rfl,cm3,dp,_,_,_,rfl,rfl,sqlO hdk,at0,_,_,rfl,rfl,_,rfl,?_⟩
    by_cases h0:0<u0
    ·refine iteB (decide_eq_true h0) ?_
     refine ⟨_,rfl,zero_le _,λpn npn=>?_⟩
     have spn:=(smR Hk).upd (o:=.lst []) npn
     refine ⟨_,_,qdw (spn _ _ hOk),.lst qab .nil,qbu _,by decide +kernel,qdk _,_,rfl,?_⟩
     have hOn:=spn _ _ hOk
     have hdn:=spn _ _ hdk
     have hhn:=spn _ _ hhk
     revert spn hOn hdn hhn
     generalize upd Hk pn _=Hn
     intro spn hOn hdn hhn
     cases own with
     |nil=>
      refine iteN (by rw[ymj];rfl) ?_
      exact ⟨a0,_,rfl,la0,spn⟩
     |cons o0 orest=>
      refine iteB (by rw[ymj];rfl) ?_
      obtain ⟨jo,ejo,hjo⟩:=yiy (x:=u1) (n:=(((o0::orest).map V.int).length:Int)) (m:=(o0::orest).length) (by rw[length_map]) (by rw[length_cons];omega)
      refine ⟨_,rfl,_,rfl,_,rfl,_,_,rfl,rfl,cm3,_,_,rfl,rfl,dp,_,_,_,rfl,rfl,sqlO hdn,at1,_,rfl,O,_,rfl,.inl (sqlO hOn),_,_,rfl,rfl,(by show (0:Int)<(((o0::orest).map V.int).length:Int);rw[length_map,length_cons];omega),O,_,_,.int ((o0::orest)[jo]),rfl,rfl,sqlO hOn,?_,?_⟩
      ·show atI _ (u1 % (((o0::orest).map V.int).length:Int))=_
       rw[ejo]
       exact qb2 (qby (getElem?_eq_getElem hjo))
      refine ⟨_,rfl,_,rfl,_,_,rfl,rfl,cm3,dp,_,_,_,rfl,rfl,sqlO hdn,at0,_,_,rfl,rfl,⟨by decide,by decide⟩,_,_,rfl,rfl,?_⟩
      refine gn ?_
      dsimp only
      generalize hnear:(o0::orest)[jo]+u0 / 3=near
      obtain ⟨a9,ea9,la9⟩:=yiy (x:=near) (congrArg Int.ofNat lm) l1
      refine ⟨_,rfl,_,rfl,hv,_,rfl,.inl (sqlO hhn),_,_,rfl,rfl,lp,?_⟩
      show ydm 5 (V.int (near % ((hk.map V.int).length:Int))) _ _ _
      rw[show near % ((hk.map V.int).length:Int)=(a9:Int) from ea9]
      refine gn ?_
      exact ⟨a9,_,rfl,la9,spn⟩
    ·refine iteN (decide_eq_false h0) ?_
     exact ⟨a0,_,rfl,la0,smR _⟩
   ·rintro σ1 Hm ⟨a,q6,rfl,la,sm⟩
    have snm:=snk.same sm
    have hdm:=sm _ _ hdk
    have hhm:=sm _ _ hhk
    obtain ⟨_,_,_,dxm,mm,hom⟩:=snm.at3
    refine ⟨_,rfl,_,rfl,_,_,rfl,rfl,cm3,_,_,rfl,rfl,dp,_,_,_,rfl,rfl,sqlO hdm,at2,_,_,rfl,rfl,_,rfl,?_⟩
    by_cases h2:u2<2
    ·refine iteB (decide_eq_true h2) ?_
     obtain ⟨b,eb⟩:=qjs u20 h2
     refine ⟨_,rfl,x,dxm,_,rfl,hom,lk_m,_,rfl,_,rfl,_,rfl,_,_,rfl,rfl,cm3,_,_,rfl,rfl,dp,_,_,_,rfl,rfl,sqlO hdm,at2,?_⟩
     subst eb
     refine qgv (snm.write (by omega) λH5 k5 sn5=>?_)
     have hd5:=snm.up k5 hdm p1 (λ_ z=>by cases z)
     have hh5:=snm.up k5 hhm n1 (λ_ z=>by cases z)
     refine ⟨_,rfl,_,rfl,_,_,rfl,rfl,cm3,_,_,rfl,rfl,dp,_,_,_,rfl,rfl,sqlO hd5,at2,?_⟩
     refine ⟨_,rfl,_,rfl,hv,_,_,_,rfl,rfl,hh5,qmd (by omega) (by omega),?_⟩
     rw[toNat_natCast,map_set]
     exact ⟨hk.set a (b2i b),_,_,_,_,rfl,by rw[length_set];exact hl,sn5.put hh5 n1 n2,qab,((upk.trans (Up3.of sm)).trans (Up3.kp k5)).trans Up3.put⟩
    ·refine iteN (decide_eq_false h2) ?_
     refine ⟨_,rfl,x,dxm,_,rfl,hom,lk_m,_,rfl,?_⟩
     refine qgv (snm.read (by omega) λH5 k5 sn5=>?_)
     have hh5:=snm.up k5 hhm n1 (λ_ z=>by cases z)
     refine ⟨_,rfl,_,rfl,hv,_,_,_,rfl,rfl,sqlO hh5,qb2 (qby (rd_get (by omega))),?_⟩
     refine ⟨rfl,_,rfl,iteN (by simp) ?_⟩
     exact ⟨hk,_,_,_,_,rfl,hl,sn5,hh5,(upk.trans (Up3.of sm)).trans (Up3.kp k5)⟩
  ·rintro σ Hk ⟨hk,o4,o5,o6,o7,rfl,hl,snk,hhk,upk⟩
   have lmk:(hk.map V.int).length=hd.length:=by rw[length_map];exact hl
   refine ⟨_,rfl,hv,_,rfl,.inl (sqlO hhk),_,rfl,by omega,by rw[lmk];omega,λD nD=>?_⟩
   obtain ⟨nDC,nDL,nDd⟩:=snk.fresh nD
   have nDh:D≠hv:=(yab hhk nD).symm
   have nD0:H D=none:=by
    cases q:H D with
    |none=>rfl
    |some u=>have:=upk D u nDC nDd nDh q;rw[nD]at this;cases this
   have un:∀{H1:Hp}{o:HO},Up3 H H1 Cc d hv->Up3 H (upd H1 D o) Cc d hv:=λ{H1 o} u y v h1 h2 h3 e=>by rw[yae (yab e nD0)];exact u y v h1 h2 h3 e
   refine qb4 (n:=hk.length) (λi H2=>Snd H2 C N x L Cc d hk/\H2 D=some (.lst ((hk.take i).map V.int))/\H2 hv=some (.lst (hk.map V.int))/\Up3 H H2 Cc d hv) ⟨snk.same ((smR _).upd nD),qab,by rw[yae nDh.symm];exact hhk,un upk⟩ ?_ ?_
   case refine_2=>
    rintro i H2 hi ⟨sn2,e2,hh2,up2⟩
    refine ⟨by show i<(((hk.map V.int).length:Int)).toNat;simp;omega,?_⟩
    rintro y H3 ⟨rfl,rfl⟩
    obtain ⟨_,_,_,dx3,m3,ho3⟩:=sn2.at3
    refine ⟨qa0.set (qa0.refl _) rfl,yes ?_⟩
    refine ⟨_,rfl,x,dx3,_,rfl,ho3,lk_m,_,rfl,?_⟩
    rw[zero_add]
    refine qgv (sn2.read hi λH5 k5 sn5=>?_)
    have e5:=sn2.up k5 e2 nDC (λ_ z=>by cases z)
    have hh5:=sn2.up k5 hh2 n1 (λ_ z=>by cases z)
    refine ⟨_,e5,qa8 (by rw[length_map,length_take];omega),sn5.put e5 nDC nDL,?_,by rw[yae nDh.symm];exact hh5,un (up2.trans (Up3.kp k5))⟩
    rw[qab,take_add_one,rd_get hi,map_append]
    rfl
   rintro H2 ⟨sn2,e2,hh2,up2⟩
   refine ⟨by show (((hk.map V.int).length:Int)).toNat<=hk.length;simp,?_⟩
   rw[take_length]at e2
   refine ⟨_,rfl,_,_,qdw e2,qdw hh2,qbu _,qbu _,qdk _,_,rfl,iteN (by rw[qhp];rfl) ?_⟩
   have hL2:∀b∈[Cc,d],H2 b≠none:=λb hb=>by
    obtain ⟨⟨cs2,c2,_⟩,⟨kv2,d2⟩,_⟩:=sn2.at3
    simp only[mem_cons,not_mem_nil,or_false]at hb
    rcases hb with rfl|rfl
    ·rw[c2];simp
    ·rw[d2];simp
   refine lay_setH (L:=[Cc,d]) (d:=yit T3l) hL2 (by repeat' first|exact qg0|exact qd4|exact qeu|refine ybl ?_ ?_|refine qhh ?_|refine yd0 ?_) λtv H3 s3 a3=>?_
   obtain ⟨ta,_,rfl,_,_⟩:=a3.lstEq
   refine ⟨_,rfl,_,rfl,by show 3<=sizeLine;decide,λoa noa=>?_⟩
   generalize hG4:upd H3 oa _=H4
   have s4:Same H3 H4:=by rw[<-hG4];exact (smR H3).upd noa
   have e4:H4 oa=some (.lst (O3l.map V.str)):=by rw[<-hG4];exact qab
   clear hG4
   have noC:oa∉[Cc,d]:=λz=>by
    obtain ⟨⟨cs2,c2,_⟩,⟨kv2,d2⟩,_⟩:=sn2.at3
    simp only[mem_cons,not_mem_nil,or_false]at z
    rcases z with rfl|rfl
    ·rw[s3 _ _ c2]at noa;cases noa
    ·rw[s3 _ _ d2]at noa;cases noa
   have s24:=s3.trans s4
   refine ⟨ta,x,oa,L,Cc,d,hk,rfl,a3.same (ybn s4 _),sn2.same s24,by omega,by rw[qfr noC];exact e4,λD5 H5 k5 n5 e5=>?_⟩
   have hh5:=(sn2.same s24).up k5 (s24 _ _ hh2) n1 (λ_ z=>by cases z)
   have z1:1<=sizeLine:=by decide
   refine ⟨z1,λq1 m1=>⟨_,rfl,hv,_,rfl,.inl (sqlO (((smR H5).upd m1) _ _ hh5)),q1,_,_,rfl,rfl,qab,by omega,by rw[lmk];omega,qd3 (by rw[length_map];simp;omega),λq2 m2=>?_⟩⟩
   have rep:∀b:Int,(List.replicate (((hk.map V.int).length:Nat):Int).toNat [V.int b]).flatten=(List.replicate hk.length b).map V.int:=λb=>by
    rw[length_map,toNat_natCast,map_replicate]
    induction hk.length with
    |zero=>rfl
    |succ n ih=>rw[replicate_succ,flatten_cons,ih,replicate_succ];rfl
   rw[rep]
   generalize hG6:upd _ q2 _=H6
   have s6:Same H5 H6:=by rw[<-hG6];exact ((smR H5).upd m1).upd m2
   have e6:H6 q2=some (.lst ((List.replicate hk.length (0:Int)).map V.int)):=by rw[<-hG6];exact qab
   clear hG6
   refine ⟨z1,λq3 m3=>⟨_,rfl,hv,_,rfl,.inl (sqlO (((smR H6).upd m3) _ _ (s6 _ _ hh5))),q3,_,_,rfl,rfl,qab,by omega,by rw[lmk];omega,qd3 (by rw[length_map];simp;omega),λq4 m4=>?_⟩⟩
   rw[rep]
   generalize hG7:upd _ q4 _=H7
   have s7:Same H6 H7:=by rw[<-hG7];exact ((smR H6).upd m3).upd m4
   have e7:H7 q4=some (.lst ((List.replicate hk.length (1:Int)).map V.int)):=by rw[<-hG7];exact qab
   clear hG7
   refine ⟨q2,q4,_,_,rfl,rfl,s7 _ _ e6,e7,qd3 (by simp;omega),λq5 m5=>?_⟩
   rw[<-map_append]
   have s8:=(s6.trans s7).upd (o:=.lst ((List.replicate hk.length (0:Int)++List.replicate hk.length 1).map V.int)) m5
   refine ⟨_,_,qdw (s8 _ _ e5),qdw qab,qbu _,qbu _,qdk _,?_⟩
   rw[qhp]
   refine k _ λb u h1 h2 h3 e=>s8 _ _ (k5 b u h1 h2 (s24 _ _ (up2 b u h1 h2 h3 e)))
end
open Mc (Kp2)
theorem dig_drop{ds a b:List Int}(h:Dig ds (a++b)):Dig (ds.drop a.length) b:=by
 refine ⟨by rw[List.length_drop,h.1,length_append];omega,λi d z h1 h2=>h.2 (a.length+i) d z ?_ ?_⟩
 ·rw[List.getElem?_drop]at h1;exact h1
 ·rw[getElem?_append_right (by omega),Nat.add_sub_cancel_left];exact h2
theorem ylz{H:Hp}:∀{us:List V}{zs:List Int},AtAll H us (zs.map PyData.int)->us=zs.map V.int
 |[],[],.nil=>rfl
 |u::us,z::zs,.cons a r=>by rw[ylz r,a.intEq];rfl
theorem yht{H:Hp}{v:V}{zs:List Int}(h:At H v (.list (zs.map PyData.int))):∃a,v=.ref a/\H a=some (.lst (zs.map V.int)):=by
 obtain ⟨a,us,rfl,ha,hu⟩:=h.lstEq
 exact ⟨a,rfl,by rw[ha,ylz hu]⟩
def dgR:List Int:=[8,8,2,2,2,9,9]++dg16
def flt(x n:Int)(i:Nat):List Int:=if i=0 then [] else if x<n then [x] else []
structure Oth(ns:List Int)(n:Int)(k:Nat):Prop where
 nd:ns.Nodup
 rg:∀x∈ns,0<=x/\x<n
 le:ns.length<=k
theorem Oth.snoc{ns:List Int}{n x:Int}{k:Nat}(o:Oth ns n k)(h:x∉ns)(h0:0<=x)(h1:x<n):Oth (ns++[x]) n (k+1):=
 ⟨List.nodup_append.mpr ⟨o.nd,by simp,λa ha b hb z=>h (by rw[<-mem_singleton.mp hb,<-z];exact ha)⟩,λy hy=>(mem_append.mp hy).elim (o.rg y) λz=>by rw[mem_singleton.mp z];exact ⟨h0,h1⟩,by have:=o.le;simp;omega⟩
theorem Oth.up{ns:List Int}{n:Int}{k:Nat}(o:Oth ns n k):Oth ns n (k+1):=⟨o.nd,o.rg,by have:=o.le;omega⟩
theorem Oth.spr{ns ms:List Int}{n:Int}{k:Nat}(o:Oth ns n k)(hk:k<=8)(p:ms.Perm ns)(s:ms.Pairwise (·<=·)):Spr ms n:=
 ⟨(s.and (p.nodup_iff.mpr o.nd)).imp λ⟨a,b⟩=>by omega,λx hx=>o.rg x (p.mem_iff.mp hx),by have:=o.le;rw[p.length_eq];omega⟩
theorem cov_fre{hs:List Hm}{l:Int}{n:Nat}{ns ms:List Int}(ok:Oks hs)(ir:InR hs n)(hc:∀h∈hs,ya5 h / l∈ns\/ya5 h % l∈ms):∀a:Nat,a<n->spF ns ms l a=false->Fre hs a:=λa ha hf h hh e=>by
 unfold spF at hf
 have:=of_decide_eq_false hf
 rw[<-e]at this
 exact this (hc _ hh)
theorem Snd.of{H:Hp}{C N e m L Cc d:Addr}{us:List V}{hs:List Hm}{cs ns ms:List Int}{l:Int}{kvs:List (Key×V)}(mo:MenO H C N e m L Cc us hs (qdx hs cs) d kvs)(ir:InR hs cs.length)(sd:SpD kvs (spF ns ms l) cs)(kl:kvs.length<=cs.length)(h64:cs.length<=64)(cov:∀h∈hs,ya5 h / l∈ns\/ya5 h % l∈ms):Snd H C N e L Cc d cs:=by
 have sl:=yje hs cs
 have fr:=cov_fre mo.m.m.ok ir cov
 refine ⟨m,us,hs,_,kvs,_,cs,mo,by rw[sl];exact ir,sd,sl.symm,by omega,sl.symm,λa ha=>?_,by rw[sl];exact fr⟩
 rw[sl]at ha
 cases q:spF ns ms l a with
 |true=>rw[if_pos rfl]
 |false=>rw[if_neg Bool.false_ne_true,ykk (fr a ha q) mo.m.m.ok]
section
variable {P:Program}{w:World}{K:W.Frag}{mg:Str->Option Value}{base:Heap}{C N:Addr}
def yhv:Sp:=λvs H Q _=>∃(A:Addr) (a b c t:Int),vs=[.ref A,.int t]/\H A=some (.lst [.int a,.int b,.int c])/\0<=t/\t<=1000/\∀H',Same H H'->Q (.bl true) H'
abbrev ydg:Stmt:=top 85
theorem qd7:FnScope ["_law_cells_here","_law_turn","_law_d","_law_rows","_law_lines","_law_harms_here","_law_own","_law_number","_law_contents","_law_deeds","_law_others","_law_broken","_law_k","_law_one","_law_told","_law_other"] ["_law_cells_here","_law_turn"] (yac ydg):=fsc
theorem qll(B:Bl mg)(cm:CM K C)(cn:CN K N)(qcr:Has P w K mg base 1 "_law_digits" ["_law_cell","_law_turn","_law_sizes"] qik)(qib:Has P w K mg base 2 "_law_harms" ["_law_d","_law_size"] qhx)(yc4:Has P w K mg base 1 "_law_cells" ["_law_harms_here"] yf4)
  (qjd:Has P w K mg base 1 "_law_bits" ["_law_number","_law_many"] qjy) (yja:Has P w K mg base 7 "broken_of" ["harms","lines"] qe1) (qe3:Has P w K mg base 10 "_law_sound" ["_law_one","_law_held","_law_own","_law_deeds"] (qic C N)) (h_fewest:Has P w K mg base 14 "fewest" ["broken"] Mc.sp_fewest)
  (yen:HasI P w K mg base N 11 "Mended" ["self","rows","lines","harms","contents","spare_rows","spare_lines"] (yif C N))
  (F:FnAt K mg "_law_right" ydg ["_law_cells_here","_law_turn"]):Has P w K mg base 15 "_law_right" ["_law_cells_here","_law_turn"] yhv:=by
 refine Has.ofQ F qd7 (λvs H Q E h=>?_) (λ_ _ _ _ _ H vs Q E hr h=>?_)
 ·obtain ⟨A,a,b,c,t,rfl,_⟩:=h
  rfl
 ·obtain ⟨A,a,b,c,t,rfl,hA,t0,t1,k⟩:=h
  have sc:=qd7
  refine ⟨_,(yam rfl (qae (qsE 2 sc.nd (qaj qcr hr (ycu (qav yaj (qaa (pv 0)) (qaa qac)) (yah (qaa (pv 1)) (ygz (yat ygr (yat ygr (qa5 (yas (qaa qac) (yas (qaa qac) (yas (qaa qac) (yas (qaa qac) (yas (qaa qac) (yas (qaa qac) (yas (qaa qac) yad)))))))) (qa5 (yas (qaa qac) yad))) (yat qjx (qa5 (yas (qaa qac) (yas (qaa qac) (yas (qaa qac) (yas (qaa qac) (yas (qaa qac) yad)))))) (qaa qac))) yad)))))
   (qae (qgz (i:=3) sc.nd rfl (Or.inr rfl) (yat ybg (qaa qac) (qav yaj (qaa (pv 2)) (qaa qac))))
   (qae (qgz (i:=4) sc.nd rfl (Or.inr rfl) (yat ybg (qaa qac) (qav yaj (qaa (pv 2)) (qaa qac))))
   (qae (qsE 5 sc.nd (qaj qib hr (ycu (qe_sl yhl (qaa (pv 2)) (qc6 qac) yhn) (ygz (yat qcb (qaa (pv 3)) (qaa (pv 4))) yad))))
   (qae (qsE 6 sc.nd (qaj yc4 hr (yah (qaa (pv 5)) yad)))
   (qae (qsE 7 sc.nd (qav ix_seq (qaj qcr hr (ycu (qav yaj (qaa (pv 0)) (qaa qac)) (yas (qaa qac) (ql9 (qa5 (ygz (yat qk7 (qaa qac) (qaa qac)) yad)) yad)))) (qaa qac)))
   (qae (qsE 8 sc.nd (qaj qjd hr (yah (qaa (pv 7)) (ygz (yat qcb (qaa (pv 3)) (qaa (pv 4))) yad))))
   (qae (qsE 9 sc.nd (qaj qcr hr (ycu (qav yaj (qaa (pv 0)) (qaa qac)) (ygz (yat ybg (qaa (pv 1)) (qaa qac)) (ygz (yat qjx (qa5 (yas (qaa qac) (yas (qaa qac) (yas (qaa qac) yad)))) (qaa qac)) yad)))))
   (qae (qsE 10 sc.nd (qa5 (qa_lc (qaa (yb4 rfl (qa2 rfl) (M:=["_law_row","_law_rows"]) (ix:=[none,some 3]) (ya8 (ycw (yaa (qaq yaj (pv 2) qac) qad))) (λ_ _ _ _=>(qa4 (i:=0) (show List.Nodup (["_law_row","_law_rows"]:List Str) by decide +kernel) rfl (Or.inl rfl))) (λ_ _ _ _=>(qhm (qao yi1 (pv 0) (pv 1) (yak _)))) (λ_ _ _ _=>(pv 0)))) (qa_lc (qaa (yb4 rfl (qa2 rfl) (M:=["_law_line","_law_lines"]) (ix:=[none,some 4]) (ya8 (ycw (yaa (qaq yaj (pv 2) qac) qad))) (λ_ _ _ _=>(qa4 (i:=0) (show List.Nodup (["_law_line","_law_lines"]:List Str) by decide +kernel) rfl (Or.inl rfl))) (λ_ _ _ _=>(qhm (qao yi1 (pv 0) (pv 1) (yak _)))) (λ_ _ _ _=>(pv 0)))) yad))))
   (qae (qsE 11 sc.nd (qaj yja hr (yah (qaa (pv 5)) (yah (qaa (pv 4)) yad))))
   (qae (yb2 PassesOwn.never rfl (ygg (qb0 rfl (B.of rfl) (yaa (qai qah rfl (B.of rfl) boot_len (yaa (pv 11) qad)) qad))) (pgn 12 sc.nd)
    (qag (qbc (QW.pt (qw_and (ya9 qe8 (qav yal (qav yaj (qaa (pv 11)) (qaa (pv 12))) (qaa qac)) (qav yaj (qaa (pv 10)) (qaa qac)) (by with_unfolding_all rfl)) (yk9 (ya9 qe8 (qav yal (qav yaj (qaa (pv 11)) (qaa (pv 12))) (qaa qac)) (qav yaj (qaa (pv 10)) (qaa qac)) (by with_unfolding_all rfl)))))
     (qag (qar (ymf PySem.F.plainAttrs_list PySem.F.slot_list_append PySem.F.type_list_append ya1 (qav yaj (qaa (pv 10)) (qav yaj (qaa (pv 2)) (yat ybg (qaa qac) (qaa (pv 12))))) (ycu (qav yal (qav yaj (qaa (pv 11)) (qaa (pv 12))) (qav yaj (qaa (pv 2)) (yat ybg (qaa qac) (qaa (pv 12))))) yad))))
     ya3)))
   (qae (qsE 13 sc.nd (qhf yen hr (yah (qaa (pv 3)) (yah (qaa (pv 4)) (yah (qaa (pv 5)) (yah (qaa (pv 8)) (qfd (qax qde rfl (B.of rfl) yax (ycu (qav yaj (qaa (pv 10)) (qaa qac)) yad)) (qfd (qax qde rfl (B.of rfl) yax (ycu (qav yaj (qaa (pv 10)) (qaa qac)) yad)) yad))))))))
   (qae (qbc (qcx (ybq (qaj qe3 hr (yah (qaa (pv 13)) (qfd (qch qb9 rfl (B.of rfl) boot_list (yah (qaa (pv 8)) yad)) (yah (qaa (pv 6)) (yah (qaa (pv 9)) yad)))))))
    (qag (qas (qaa qfo)))
    ya3)
   (qae (qsE 14 sc.nd (qaj h_fewest hr (yah (qaa (pv 11)) yad)))
   (qae (qsE 15 sc.nd (qhf yen hr (yah (qaa (pv 3)) (yah (qaa (pv 4)) (yah (qaa (pv 5)) (yah (qaa (pv 8)) (ycu (qav yal (qaa (pv 14)) (qaa qac)) (ycu (qav yal (qaa (pv 14)) (qaa qac)) yad))))))))
   (qag (qas (qaj qe3 hr (yah (qaa (pv 15)) (qfd (qch qb9 rfl (B.of rfl) boot_list (yah (qaa (pv 8)) yad)) (yah (qaa (pv 6)) (yah (qaa (pv 9)) yad))))))))))))))))))))))),?_⟩
  have z1:1<=sizeLine:=by decide
  have z2:2<=sizeLine:=by decide
  have z3:3<=sizeLine:=by decide
  have nL:∀{H:Hp},∀b∈([]:List Addr),H b≠none:=λb hb=>by cases hb
  refine ⟨_,rfl,A,_,_,_,rfl,rfl,sqlO hA,yaf 0 rfl,_,rfl,yma (L:=[]) (d:=.list (dgR.map PyData.int)) ?_ nL λvz K6 s6 a6=>?_⟩
  ·have:(dgR.map PyData.int)=(([8,8,2,2,2,9,9]:List Int).map PyData.int++([4]:List Int).map PyData.int)++(List.replicate 3 (([20,64,64,2,2]:List Int).map PyData.int)).flatten:=rfl
   rw[this]
   refine qk1 (qk1 (yd0 ?_) (yd0 ?_) (by decide)) (ymg (n:=3) (yd0 ?_) (by decide) (by decide)) (by decide)
   all_goals repeat' (first|exact qd4|exact qeu|refine ybl ?_ ?_)
  obtain ⟨p6,rfl,u6⟩:=yht (a6.same (qba _ _))
  refine ⟨a,t,p6,dgR,rfl,u6,by decide,by decide,by omega,by omega,λdp ds H1 s1 ndp hdp hD=>?_⟩
  have sH1:=s6.trans s1
  clear a6 u6
  obtain ⟨e0,g0,b0,b0'⟩:=hD.get (i:=0) (z:=8) rfl
  obtain ⟨e1,g1,b1,b1'⟩:=hD.get (i:=1) (z:=8) rfl
  obtain ⟨e5,g5,b5,b5'⟩:=hD.get (i:=5) (z:=9) rfl
  obtain ⟨e6,g6,b6,b6'⟩:=hD.get (i:=6) (z:=9) rfl
  have hD16:Dig (ds.drop 7) dg16:=dig_drop (a:=[8,8,2,2,2,9,9]) (b:=dg16) hD
  refine ⟨_,rfl,dp,_,_,_,rfl,rfl,sqlO hdp,yaf 0 (qby g0),_,_,rfl,rfl,?_⟩
  obtain ⟨r,hr0,r1,r8⟩:∃r,1+e0=r/\1<=r/\r<=8:=⟨_,rfl,by omega,by omega⟩
  show ydm 3 (V.int (1+e0)) _ _ _
  rw[hr0]
  refine gn ?_
  dsimp only
  refine ⟨_,rfl,dp,_,_,_,rfl,rfl,sqlO hdp,yaf 1 (qby g1),_,_,rfl,rfl,?_⟩
  obtain ⟨l,hl0,l1,l8⟩:∃l,1+e1=l/\1<=l/\l<=8:=⟨_,rfl,by omega,by omega⟩
  show ydm 4 (V.int (1+e1)) _ _ _
  rw[hl0]
  refine gn ?_
  dsimp only
  have crl:=cmul8 (r:=r) (l:=l) (by omega) r8 (by omega) l8
  obtain ⟨n,hn,n1,n64⟩:∃n:Nat,r*l=(n:Int)/\1<=n/\n<=64:=by
   have h1:r*l<=8*8:=Int.mul_le_mul r8 l8 (by omega) (by omega)
   have h2:1*1<=r*l:=Int.mul_le_mul r1 l1 (by omega) (by omega)
   exact ⟨(r*l).toNat,by omega,by omega,by omega⟩
  -- the harms
  refine ⟨_,rfl,7,rfl,dp,_,rfl,sqlO hdp,λq1 w1=>?_⟩
  rw[show (7:Int)=((7:Nat):Int) from rfl,yj0,<-map_drop]
  generalize hG2:upd H1 q1 _=H2
  have s2:Same H1 H2:=by rw[<-hG2];exact (smR H1).upd w1
  have f2:H2 q1=some (.lst ((ds.drop 7).map V.int)):=by rw[<-hG2];exact qab
  clear hG2
  refine ⟨_,rfl,_,rfl,_,_,rfl,rfl,crl,q1,_,(n:Int),?_,f2,hD16,by omega,by omega,λL us hs S H3 s3 nL' hL hv ok hgood=>?_⟩
  ·show [V.ref q1,V.int (r*l)]=_
   rw[hn]
  have sH3:=(sH1.trans s2).trans s3
  have hdp3:=(s2.trans s3) _ _ hdp
  have ir:InR hs n:=λh hh c hc=>(hgood h hh).2 c hc
  have ok3:=ok.len
  -- their cells
  refine ⟨_,rfl,L,us,hs,rfl,hL,hv,ok.ok,by omega,λO own H4 s4 nO eO hpm hso=>?_⟩
  -- the contents
  have sH4:=sH3.trans s4
  refine ⟨_,rfl,A,_,_,_,rfl,rfl,sqlO (sH4 _ _ hA),yaf 1 rfl,_,_,rfl,rfl,⟨by decide,by decide,by decide⟩,z1,λp7 v7=>?_⟩
  generalize hG7:upd H4 p7 _=H7
  have s7:Same H4 H7:=by rw[<-hG7];exact (smR H4).upd v7
  have f7:H7 p7=some (.lst (([18446744073709551616]:List Int).map V.int)):=by
   rw[<-hG7]
   refine qab.trans ?_
   rw[show (λi j:Int=>V.int (i ^ j.toNat)) 2 64=V.int 18446744073709551616 by decide]
   rfl
  clear hG7
  refine ⟨b,7,p7,[18446744073709551616],rfl,f7,by decide,by decide,by decide,by decide,λdp2 ds2 H8 s8 ndp2 hdp2 hD2=>?_⟩
  obtain ⟨x0,gx,_,_⟩:=hD2.get (i:=0) (z:=18446744073709551616) rfl
  refine .inl ⟨dp2,_,_,_,rfl,rfl,sqlO hdp2,yaf 0 (qby gx),?_⟩
  refine ⟨_,rfl,_,rfl,_,rfl,_,_,rfl,rfl,crl,x0,n,?_,n64,λpc cs H9 s9 npc epc hb hcl=>?_⟩
  ·show [V.int x0,V.int (r*l)]=_
   rw[hn]
  subst hcl
  have s49:=(s7.trans s8).trans s9
  have sH9:=sH4.trans s49
  -- the deeds
  refine ⟨_,rfl,A,_,_,_,rfl,rfl,sqlO (sH9 _ _ hA),yaf 2 rfl,_,rfl,_,_,rfl,rfl,yma (L:=[]) (d:=.list (qgi.map PyData.int)) ?_ nL λvz K7 s10' a7=>?_⟩
  ·have:(qgi.map PyData.int)=(List.replicate 40 (([4,64,4]:List Int).map PyData.int)).flatten:=by
    unfold qgi
    rw[List.map_flatten,map_replicate]
   rw[this]
   exact ymg (n:=40) (yd0 (ybl qd4 (ybl qd4 (ybl qd4 qeu)))) (by decide) (by decide)
  obtain ⟨p8,rfl,u8⟩:=yht (a7.same (qba _ _))
  refine ⟨c,t+40,p8,qgi,rfl,u8,yjz.1,yjz.2,by omega,by omega,λdp3 ds3 H10 s10'' ndp3 hdp3' hD3=>?_⟩
  have s10:=s10'.trans s10''
  clear a7 u8
  have hdp10:=(s4.trans (s49.trans s10)) _ _ hdp3
  refine ⟨_,rfl,dp,_,_,_,rfl,rfl,sqlO hdp10,yaf 5 (qby g5),z1,λpa na=>?_⟩
  generalize hGa:upd H10 pa _=Ha
  have sa:Same H10 Ha:=by rw[<-hGa];exact (smR H10).upd na
  have fa:Ha pa=some (.lst [.int e5]):=by rw[<-hGa];exact qab
  clear hGa
  refine ⟨pa,rfl,⟨_,sqlO fa⟩,λR nR=>qb4 (n:=1) (λi H'=>Same Ha H'/\H' R=some (.lst ((flt e5 r i).map V.int))) ⟨(smR _).upd nR,qab⟩ ?_ ?_⟩
  rotate_left
  ·rintro i H3 hi ⟨s3,e3⟩
   have i0:i=0:=by omega
   subst i0
   refine ⟨⟨_,_,sqlO (s3 _ _ fa),rfl⟩,?_⟩
   rintro x H4 ⟨rfl,hx⟩
   have hx:=hx _ (sqlO (s3 _ _ fa))
   cases hx
   refine ⟨qa0.set (qa0.refl _) rfl,?_⟩
   refine ⟨_,rfl,_,rfl,_,_,rfl,rfl,_,rfl,?_⟩
   by_cases q:e5<r
   ·refine iteD q ⟨_,rfl,_,e3,qa8 (by simp[flt]),s3.at nR,?_⟩
    rw[qab]
    simp[flt,q]
   ·refine iteN (decide_eq_false q) ⟨s3,?_⟩
    rw[e3]
    simp[flt,q]
  rintro Hb ⟨sHb,eR⟩
  refine ⟨⟨_,sqlO (sHb _ _ fa),by simp⟩,?_⟩
  have hdpb:=(sa.trans sHb) _ _ hdp10
  refine ⟨_,rfl,dp,_,_,_,rfl,rfl,sqlO hdpb,yaf 6 (qby g6),z1,λpy ny=>?_⟩
  generalize hGy:upd Hb py _=Hy
  have sy:Same Hb Hy:=by rw[<-hGy];exact (smR Hb).upd ny
  have fy:Hy py=some (.lst [.int e6]):=by rw[<-hGy];exact qab
  clear hGy
  refine ⟨py,rfl,⟨_,sqlO fy⟩,λM nM=>qb4 (n:=1) (λi H'=>Same Hy H'/\H' M=some (.lst ((flt e6 l i).map V.int))) ⟨(smR _).upd nM,qab⟩ ?_ ?_⟩
  rotate_left
  ·rintro i H3 hi ⟨s3,e3⟩
   have i0:i=0:=by omega
   subst i0
   refine ⟨⟨_,_,sqlO (s3 _ _ fy),rfl⟩,?_⟩
   rintro x H4 ⟨rfl,hx⟩
   have hx:=hx _ (sqlO (s3 _ _ fy))
   cases hx
   refine ⟨qa0.set (qa0.refl _) rfl,?_⟩
   refine ⟨_,rfl,_,rfl,_,_,rfl,rfl,_,rfl,?_⟩
   by_cases q:e6<l
   ·refine iteD q ⟨_,rfl,_,e3,qa8 (by simp[flt]),s3.at nM,?_⟩
    rw[qab]
    simp[flt,q]
   ·refine iteN (decide_eq_false q) ⟨s3,?_⟩
    rw[e3]
    simp[flt,q]
  rintro Hd ⟨sHd,eM⟩
  refine ⟨⟨_,sqlO (sHd _ _ fy),by simp⟩,?_⟩
  refine ⟨z2,λqo nqo=>?_⟩
  generalize hGe:upd Hd qo _=He
  have se:Same Hd He:=by rw[<-hGe];exact (smR Hd).upd nqo
  have fe:He qo=some (.lst [.ref R,.ref M]):=by rw[<-hGe];exact qab
  clear hGe
  have s10e:=((sa.trans sHb).trans (sy.trans sHd)).trans se
  have s3e:=s4.trans (s49.trans (s10.trans s10e))
  refine ⟨_,rfl,_,rfl,l,L,us,hs,S,rfl,l1,l8,s3e _ _ hL,hv.same s3e,ok,λDk ts Hf sf nDk eDk htup hdue hts=>?_⟩
  have eRf:Hf R=some (.lst ((flt e5 r 1).map V.int)):=sf _ _ (se _ _ (sHd _ _ (sy _ _ eR)))
  have eMf:Hf M=some (.lst ((flt e6 l 1).map V.int)):=sf _ _ (se _ _ eM)
  have hdpf:=sf _ _ (s10e _ _ hdp10)
  have feF:=sf _ _ fe
  have nRM:R≠M:=yab (sy _ _ eR) nM
  have mem2:∀{ti:TL},ti∈ts->∃h∈hs,ti.2=[ya5 h / l,ya5 h % l]/\0<=ya5 h / l/\ya5 h / l<r/\0<=ya5 h % l/\ya5 h % l<l:=λ{ti} hti=>by
   obtain ⟨h,hh,e⟩:=mem_map.mp ((hdue.2.1 _).mp (mem_map_of_mem (f:=(·.2)) hti))
   obtain ⟨nn,oh⟩:=ok.ok h hh
   obtain ⟨c0,c1⟩:=ir h hh _ (yib oh)
   refine ⟨h,hh,e.symm,Int.ediv_nonneg c0 (by omega),Int.ediv_lt_of_lt_mul (by omega) (by omega),emod_nonneg _ (by omega),emod_lt_of_pos _ (by omega)⟩
  have oth0:∀{x m:Int},0<=x->Oth (flt x m 1) m (1+0):=λ{x m} h=>by
   by_cases q:x<m
   ·simp[flt,q];exact ⟨by simp,λy hy=>by rw[mem_singleton.mp hy];exact ⟨h,q⟩,by simp⟩
   ·simp[flt,q];exact ⟨by simp,λy hy=>by simp at hy,by simp⟩
  have nDkR:Dk≠R:=(yab (se _ _ (sHd _ _ (sy _ _ eR))) nDk).symm
  have nDkM:Dk≠M:=(yab (se _ _ eM) nDk).symm
  have nqR:qo≠R:=(yab (sHd _ _ (sy _ _ eR)) nqo).symm
  have nqM:qo≠M:=(yab eM nqo).symm
  have ndR:dp≠R:=yab (sa _ _ hdp10) nR
  have ndM:dp≠M:=yab (sy _ _ hdpb) nM
  have lr:(ybc ts).length=ts.length:=by unfold ybc;rw[length_map]
  refine gn ?_
  dsimp only
  refine ⟨_,rfl,Dk,_,rfl,.inl (sqlO eDk),_,rfl,by omega,by rw[lr];omega,ycj (n:=(ybc ts).length) (λi σ H2=>∃(o12:Option V) (ns ms:List Int),σ=[some (.ref A),some (.int t),some (.ref dp),some (.int r),some (.int l),some (.ref L),some (.ref O),some (.int x0),some (.ref pc),some (.ref dp3),some (.ref qo),some (.ref Dk),o12,none,none,none]/\Kp2 Hf H2 R M/\H2 R=some (.lst (ns.map V.int))/\H2 M=some (.lst (ms.map V.int))/\Oth ns r (1+i)/\Oth ms l (1+i)/\∀j<i,∀tj,ts[j]?=some tj->tj.2.getD 0 0∈ns\/tj.2.getD 1 0∈ms)
   ⟨_,_,_,rfl,Kp2.refl,eRf,eMf,oth0 b5,oth0 b6,λj hj=>by omega⟩ ?_ ?_⟩
  ·rintro i σ H2 hi ⟨o12,ns,ms,rfl,k2,eR2,eM2,oR,oM,cov⟩
   show ydm 12 (V.int ((0:Int)+(i:Int))) _ _ _
   rw[zero_add]
   refine gn ?_
   dsimp only
   obtain ⟨ti,hti⟩:∃ti,ts[i]?=some ti:=⟨ts[i]'(by omega),getElem?_eq_getElem _⟩
   obtain ⟨h,hh,e2,q0,q1,q2,q3⟩:=mem2 (mem_of_getElem? hti)
   obtain ⟨htu,_⟩:=htup ti (mem_of_getElem? hti)
   rw[e2]at htu
   have nk:∀{b:Addr}{u:HO},Hf b=some u->b≠R->b≠M->H2 b=some u:=λ{b u} e h1 h2=>k2 b u h1 h2 e
   have eDk2:=nk eDk nDkR nDkM
   have feF2:=nk feF nqR nqM
   have hdp2:=nk hdpf ndR ndM
   have htu2:=nk htu (λz=>by rw[z,eRf]at htu;cases htu) (λz=>by rw[z,eMf]at htu;cases htu)
   have hix:atI (ybc ts) (i:Int)=some (.ref ti.1):=qb2 (by unfold ybc;rw[getElem?_map,hti];rfl)
   obtain ⟨ek,gk,bk0,bk1⟩:∃ek,ds[2+i]?=some ek/\0<=ek/\ek<2:=by
    have i3:i<3:=by omega
    match i,i3 with
    |0,_=>exact hD.get (i:=2) (z:=2) rfl
    |1,_=>exact hD.get (i:=3) (z:=2) rfl
    |2,_=>exact hD.get (i:=4) (z:=2) rfl
   have adk:atI (ds.map V.int) (2+(i:Int))=some (.int ek):=by rw[show 2+(i:Int)=((2+i:Nat):Int) by omega];exact qb2 (qby gk)
   have fin:∀{ns' ms':List Int},(∀x∈ns,x∈ns')->(∀x∈ms,x∈ms')->(ya5 h / l∈ns'\/ya5 h % l∈ms')->∀j<i+1,∀tj,ts[j]?=some tj->tj.2.getD 0 0∈ns'\/tj.2.getD 1 0∈ms':=λ{ns' ms'} h1 h2 h3 j hj tj htj=>by
    by_cases z:j=i
    ·subst z
     rw[hti]at htj
     cases htj
     rw[e2]
     exact h3
    ·exact (cov j (by omega) tj htj).imp (h1 _) (h2 _)
   refine ⟨_,rfl,_,rfl,Dk,_,_,_,rfl,rfl,sqlO eDk2,hix,ti.1,_,_,_,rfl,rfl,sqtO htu2,yaf 0 rfl,_,rfl,qo,_,_,_,rfl,rfl,sqlO feF2,yaf 0 rfl,R,_,rfl,.inl (sqlO eR2),rfl,by simp[qct],_,rfl,?_⟩
   by_cases c1:ya5 h / l∈ns
   ·refine iteN (by show (!inV (.int (ya5 h / l)) _)=false;rw[qdf,decide_eq_true c1];rfl) ?_
    exact iteN rfl ⟨_,ns,ms,rfl,k2,eR2,eM2,oR.up,oM.up,fin (λ_ h=>h) (λ_ h=>h) (.inl c1)⟩
   refine iteB (by show (!inV (.int (ya5 h / l)) _)=true;rw[qdf,decide_eq_false c1];rfl) ?_
   refine ⟨_,rfl,_,rfl,Dk,_,_,_,rfl,rfl,sqlO eDk2,hix,ti.1,_,_,_,rfl,rfl,sqtO htu2,yaf 1 rfl,_,rfl,qo,_,_,_,rfl,rfl,sqlO feF2,yaf 1 rfl,M,_,rfl,.inl (sqlO eM2),rfl,by simp[qct],_,rfl,?_⟩
   by_cases c2:ya5 h % l∈ms
   ·exact iteN (by show (!inV (.int (ya5 h % l)) _)=false;rw[qdf,decide_eq_true c2];rfl) ⟨_,ns,ms,rfl,k2,eR2,eM2,oR.up,oM.up,fin (λ_ h=>h) (λ_ h=>h) (.inr c2)⟩
   refine iteB (by show (!inV (.int (ya5 h % l)) _)=true;rw[qdf,decide_eq_false c2];rfl) ?_
   have leR:=oR.le
   have leM:=oM.le
   obtain rfl|rfl:ek=0\/ek=1:=by omega
   ·refine ⟨_,rfl,_,rfl,_,rfl,_,_,rfl,rfl,dp,_,_,_,rfl,rfl,sqlO hdp2,adk,qo,_,_,_,rfl,rfl,sqlO feF2,yaf 0 rfl,.inl ⟨rfl,_,sqlO eR2⟩,?_⟩
    refine ⟨_,rfl,_,rfl,Dk,_,_,_,rfl,rfl,sqlO eDk2,hix,_,rfl,_,rfl,_,_,rfl,rfl,dp,_,_,_,rfl,rfl,sqlO hdp2,adk,ti.1,_,_,_,rfl,rfl,sqtO htu2,yaf 0 rfl,?_⟩
    refine ⟨R,_,_,rfl,rfl,eR2,qa8 (by rw[length_map];omega),?_⟩
    refine ⟨_,ns++[ya5 h / l],ms,rfl,Kp2.pa k2,by rw[qab,map_append];rfl,by rw[yae nRM.symm];exact eM2,oR.snoc c1 q0 q1,oM.up,fin (λ_ h=>mem_append_left _ h) (λ_ h=>h) (.inl (by simp))⟩
   ·refine ⟨_,rfl,_,rfl,_,rfl,_,_,rfl,rfl,dp,_,_,_,rfl,rfl,sqlO hdp2,adk,qo,_,_,_,rfl,rfl,sqlO feF2,yaf 1 rfl,.inl ⟨rfl,_,sqlO eM2⟩,?_⟩
    refine ⟨_,rfl,_,rfl,Dk,_,_,_,rfl,rfl,sqlO eDk2,hix,_,rfl,_,rfl,_,_,rfl,rfl,dp,_,_,_,rfl,rfl,sqlO hdp2,adk,ti.1,_,_,_,rfl,rfl,sqtO htu2,yaf 1 rfl,?_⟩
    refine ⟨M,_,_,rfl,rfl,eM2,qa8 (by rw[length_map];omega),?_⟩
    refine ⟨_,ns,ms++[ya5 h % l],rfl,Kp2.tr k2,by rw[yae nRM];exact eR2,by rw[qab,map_append];rfl,oR.up,oM.snoc c2 q2 q3,fin (λ_ h=>h) (λ_ h=>mem_append_left _ h) (.inr (by simp))⟩
  ·rintro σ H2 ⟨o12,ns,ms,rfl,k2,eR2,eM2,oR,oM,cov⟩
   have s12:Same H10 H2:=λb u e=>k2 b u (yab (sa _ _ e) nR) (yab (((sa.trans sHb).trans sy) _ _ e) nM) (sf _ _ (s10e _ _ e))
   have hL10:=(s4.trans (s49.trans s10)) _ _ hL
   have hv10:=hv.same (s4.trans (s49.trans s10))
   have eO10:=(s49.trans s10) _ _ eO
   have eDk2:=k2 _ _ nDkR nDkM eDk
   have feF2:=k2 _ _ nqR nqM feF
   have htup2:∀t∈ts,H2 t.1=some (.tup (t.2.map V.int)):=λti hti=>by
    have htu:=(htup ti hti).1
    exact k2 _ _ (λz=>by rw[z,eRf]at htu;cases htu) (λz=>by rw[z,eMf]at htu;cases htu) htu
   rw[lr]at oR oM cov
   have cov1:∀h∈hs,ya5 h / l∈ns\/ya5 h % l∈ms:=λh hh=>by
    obtain ⟨ti,hti,e⟩:=mem_map.mp ((hdue.2.1 _).mpr (mem_map_of_mem (f:=brkP l) hh))
    obtain ⟨j,hj⟩:=getElem?_of_mem hti
    have:=cov j (List.getElem?_eq_some_iff.mp hj).1 ti hj
    rw[e]at this
    exact this
   have leR:=oR.le
   have leM:=oM.le
   refine ⟨_,rfl,_,rfl,_,rfl,_,rfl,_,rfl,qo,_,_,_,rfl,rfl,sqlO feF2,yaf 0 rfl,R,ns,rfl,eR2,by omega,λpR nr npR pmR soR=>?_⟩
   generalize hGR:upd H2 pR _=H21
   have s21:Same H2 H21:=by rw[<-hGR];exact (smR H2).upd npR
   have f21:H21 pR=some (.lst (nr.map V.int)):=by rw[<-hGR];exact qab
   clear hGR
   refine ⟨_,rfl,qo,_,_,_,rfl,rfl,sqlO (s21 _ _ feF2),yaf 1 rfl,M,ms,rfl,s21 _ _ eM2,by omega,λpM mr npM pmM soM=>?_⟩
   generalize hGM:upd H21 pM _=H22
   have s22:Same H21 H22:=by rw[<-hGM];exact (smR H21).upd npM
   have f22:H22 pM=some (.lst (mr.map V.int)):=by rw[<-hGM];exact qab
   clear hGM
   have s12':=s12.trans (s21.trans s22)
   intro x dx nx ndx nxd
   generalize hGx:upd (upd H22 dx (.own x)) x (.ins N dx [])=X22
   have sx:Same H22 X22:=by rw[<-hGx];exact ((smR H22).upd (o:=.own x) ndx).upd (o:=.ins N dx []) (p:=x) (by rw[yae (λz=>nxd z.symm)];exact nx)
   have fx:X22 x=some (.ins N dx []):=by rw[<-hGx];exact qab
   clear hGx
   have tx:=s12'.trans sx
   refine ⟨x,dx,L,pc,pR,pM,r,l,us,hs,S,cs,nr,mr,rfl,fx,r1,r8,l1,l8,hn,tx _ _ hL10,hv10.same tx,ok,ir,tx _ _ (s10 _ _ epc),hb,sx _ _ (s22 _ _ f21),(oR.spr (by omega) pmR soR),sx _ _ f22,(oM.spr (by omega) pmM soM),λm1 a1 C1 d1 kv1 H23 st1 nm1 na1 nC1 nd1 mo1 sd1 kl1=>⟨rfl,?_⟩⟩
   have s1:Same H22 H23:=λb u e=>st1 b u (λz=>by subst z;rw[nx]at e;cases e) (sx _ _ e)
   clear st1
   have sn1:=Snd.of mo1 ir sd1 kl1 n64 (λh hh=>(cov1 h hh).imp pmR.mem_iff.mpr pmM.mem_iff.mpr)
   have t1:=s12'.trans s1
   refine ⟨_,rfl,_,rfl,pc,_,rfl,.inl (sqlO (t1 _ _ (s10 _ _ epc))),λhv1 nv1=>?_⟩
   generalize hGv1:upd H23 hv1 _=V1
   have sv1:Same H23 V1:=by rw[<-hGv1];exact (smR H23).upd nv1
   have fv1:V1 hv1=some (.lst (cs.map V.int)):=by rw[<-hGv1];exact qab
   clear hGv1
   have w1:=t1.trans sv1
   obtain ⟨c1,c2,c3⟩:=sn1.fresh nv1
   have fr1:∀{b:Addr}{u:HO},H10 b=some u->b≠C1/\b≠hv1:=λ{b u} e=>⟨yab (tx _ _ e) nC1,yab (t1 _ _ e) nv1⟩
   refine ⟨_,rfl,_,rfl,x,hv1,O,dp3,a1,C1,d1,cs,own,ds3,rfl,sn1.same sv1,fv1,c1,c2,n1,n64,w1 _ _ eO10,(fr1 eO10).1,(fr1 eO10).2,w1 _ _ hdp3',(fr1 hdp3').1,(fr1 hdp3').2,hD3,λH24 up1=>?_⟩
   refine ⟨_,rfl,iteN rfl ?_⟩
   -- what stood stays
   have s24:Same H2 H24:=λb u e=>by
    have e22:=(s21.trans s22) _ _ e
    exact up1 b u (yab (sx _ _ e22) nC1) (yab (sx _ _ e22) nd1) (yab (s1 _ _ e22) nv1) ((s1.trans sv1) _ _ e22)
   have bl:∀ti∈ts,ti.2=Mc.pr2 (ti.2.getD 0 0,ti.2.getD 1 0):=λti hti=>by
    obtain ⟨h,_,e,_⟩:=mem2 hti
    rw[e]
    rfl
   have bq:∀p∈ts.map (λti:TL=>(ti.2.getD 0 0,ti.2.getD 1 0)),0<=p.1/\p.1<r/\0<=p.2/\p.2<l:=λp hp=>by
    obtain ⟨ti,hti,rfl⟩:=mem_map.mp hp
    obtain ⟨h,_,e,q0,q1,q2,q3⟩:=mem2 hti
    rw[e]
    exact ⟨q0,q1,q2,q3⟩
   refine ⟨_,rfl,Dk,ts,ts.map (λti:TL=>(ti.2.getD 0 0,ti.2.getD 1 0)),rfl,s24 _ _ eDk2,⟨?_,λti hti=>s24 _ _ (htup2 ti hti)⟩,by rw[length_map];omega,λp hp=>by have:=bq p hp;omega,λpt pr pl pc' RR LL CC ccs H25 s25 npr npl npc' n12 n13 n23 few cv=>?_⟩
   ·rw[map_map]
    exact map_congr_left bl
   have s225:=s24.trans s25
   have cR:Spr RR r:=⟨cv.r,λx hx=>by
    obtain ⟨p,hp,rfl⟩:=mem_map.mp (cv.rb x hx)
    have:=bq p hp
    omega,by
    have:=Mc.nodup_len (cv.r.imp λh=>by omega) cv.rb
    rw[length_map,length_map]at this
    omega⟩
   have cL:Spr LL l:=⟨cv.l,λx hx=>by
    obtain ⟨p,hp,rfl⟩:=mem_map.mp (cv.lb x hx)
    have:=bq p hp
    omega,by
    have:=Mc.nodup_len (cv.l.imp λh=>by omega) cv.lb
    rw[length_map,length_map]at this
    omega⟩
   have cov2:∀h∈hs,ya5 h / l∈RR\/ya5 h % l∈LL:=λh hh=>by
    obtain ⟨ti,hti,e⟩:=mem_map.mp ((hdue.2.1 _).mpr (mem_map_of_mem (f:=brkP l) hh))
    have:=cv.cov _ (mem_map_of_mem (f:=λti:TL=>(ti.2.getD 0 0,ti.2.getD 1 0)) hti)
    rw[e]at this
    exact this
   have s1025:=s12.trans s225
   refine ⟨_,rfl,_,rfl,_,rfl,_,rfl,_,rfl,pt,_,_,_,rfl,rfl,sqtO few.t,yaf 0 rfl,_,rfl,pt,_,_,_,rfl,rfl,sqtO few.t,yaf 1 rfl,?_⟩
   intro y dy ny ndy nyd
   generalize hGy:upd (upd H25 dy (.own y)) y (.ins N dy [])=X25
   have sy':Same H25 X25:=by rw[<-hGy];exact ((smR H25).upd (o:=.own y) ndy).upd (o:=.ins N dy []) (p:=y) (by rw[yae (λz=>nyd z.symm)];exact ny)
   have fy:X25 y=some (.ins N dy []):=by rw[<-hGy];exact qab
   clear hGy
   have ty:=s1025.trans sy'
   refine ⟨y,dy,L,pc,pr,pl,r,l,us,hs,S,cs,RR,LL,rfl,fy,r1,r8,l1,l8,hn,ty _ _ hL10,hv10.same ty,ok,ir,ty _ _ (s10 _ _ epc),hb,sy' _ _ few.r,cR,sy' _ _ few.l,cL,λm2 a2 C2 d2 kv2 H26 st2 nm2 na2 nC2 nd2 mo2 sd2 kl2=>⟨rfl,?_⟩⟩
   have s2:Same H25 H26:=λb u e=>st2 b u (λz=>by subst z;rw[ny]at e;cases e) (sy' _ _ e)
   clear st2
   have sn2:=Snd.of mo2 ir sd2 kl2 n64 cov2
   have t2:=s1025.trans s2
   refine ⟨_,rfl,_,rfl,pc,_,rfl,.inl (sqlO (t2 _ _ (s10 _ _ epc))),λhv2 nv2=>?_⟩
   generalize hGv2:upd H26 hv2 _=V2
   have sv2:Same H26 V2:=by rw[<-hGv2];exact (smR H26).upd nv2
   have fv2:V2 hv2=some (.lst (cs.map V.int)):=by rw[<-hGv2];exact qab
   clear hGv2
   have w2:=t2.trans sv2
   obtain ⟨c1,c2,c3⟩:=sn2.fresh nv2
   have fr2:∀{b:Addr}{u:HO},H10 b=some u->b≠C2/\b≠hv2:=λ{b u} e=>⟨yab (ty _ _ e) nC2,yab (t2 _ _ e) nv2⟩
   refine ⟨_,rfl,_,rfl,y,hv2,O,dp3,a2,C2,d2,cs,own,ds3,rfl,sn2.same sv2,fv2,c1,c2,n1,n64,w2 _ _ eO10,(fr2 eO10).1,(fr2 eO10).2,w2 _ _ hdp3',(fr2 hdp3').1,(fr2 hdp3').2,hD3,λH27 up2=>?_⟩
   refine k _ λb u e=>?_
   have e25:=s1025 _ _ (s10 _ _ (sH9 _ _ e))
   exact up2 b u (yab (sy' _ _ e25) nC2) (yab (sy' _ _ e25) nd2) (yab (s2 _ _ e25) nv2) ((s2.trans sv2) _ _ e25)
end
theorem cells4{ns:List Int}{at':Int}(h:0<=at'):∃ms:List Int,cutV (ns.map V.int) (some at') (some (at' + 4))=ms.map V.int/\ms.length<=4:=by
 rw[show at'=((at'.toNat:Nat):Int) by omega,show ((at'.toNat:Nat):Int)+4=((at'.toNat+4:Nat):Int) by omega,qly,length_map]
 refine ⟨(ns.drop (min at'.toNat ns.length)).take (min (at'.toNat+4) ns.length-min at'.toNat ns.length),by rw[map_take,map_drop],?_⟩
 rw[length_take]
 omega
theorem three_of{ms:List Int}:∃a b c:Int,cutV ((ms++[1,2,3]).map V.int) none (some 3)=[V.int a,.int b,.int c]:=by
 rw[show (3:Int)=((3:Nat):Int) from rfl,cut_take,<-map_take]
 match ms with
 |[]=>exact ⟨_,_,_,rfl⟩
 |[a]=>exact ⟨_,_,_,rfl⟩
 |[a,b]=>exact ⟨_,_,_,rfl⟩
 |a::b::c::_=>exact ⟨_,_,_,rfl⟩
section
variable {P:Program}{w:World}{K:W.Frag}{mg:Str->Option Value}{base:Heap}
def qjr(K:W.Frag):Sp:=λvs H Q _=>∃(a:Addr) (ns:List Int),vs=[.ref a]/\SqL K H a (ns.map V.int)/\ns.length<=63/\∀H',Q (.bl true) H'
abbrev yhk:Stmt:=top 86
theorem sc_law:FnScope ["_law_script","_law_at"] ["_law_script"] (yac yhk):=fsc
theorem ok_law(B:Bl mg)(yih:Has P w K mg base 15 "_law_right" ["_law_cells_here","_law_turn"] yhv){f:Addr}{fd:FuncData}(F:Fun K "law" "law" yhk f fd):FnOk P w K mg base CX0 16 f fd ["_law_script"] (qjr K):=by
 refine Mx.Fun.okQ F sc_law (λvs H Q E h=>?_) (λcdv A outer s H vs Q E hr h=>?_)
 ·obtain ⟨a,ns,rfl,_⟩:=h
  rfl
 ·obtain ⟨a,ns,rfl,hS,hnl,k⟩:=h
  have sc:=sc_law
  refine ⟨_,(yam rfl (qae (yb2 PassesOwn.never rfl (ygg (ql4 rfl (B.of rfl) (yaa qac (yaa (qai (qh8 rfl) rfl (B.of rfl) boot_max (yaa qac (yaa (qai (qk4 rfl) rfl (B.of rfl) boot_min (yaa (qai qah rfl (B.of rfl) boot_len (yaa (pv 0) qad)) (yaa qac qad))) qad))) (yaa qac qad))))) (pgn 1 sc.nd)
    (qag (qbc (qcx (ybq (qaj yih hr (ycu (qe_sl yhl (yat ygr (qe_sl yhl (qaa (pv 0)) (qc6 (pv 1)) (qc6 (qb7 ybg (pv 1) qac))) (qa5 (yas (qaa qac) (yas (qaa qac) (yas (qaa qac) yad))))) yhn (qc6 qac)) (yah (qaa (pv 1)) yad)))))
     (qag (qas (qaa qfo)))
     ya3)))
   (qag (qas (qaa qfo))))),?_⟩
  have z3:3<=sizeLine:=by decide
  refine ⟨_,rfl,a,_,rfl,.inl hS,_,_,rfl,_,_,rfl,_,_,_,rfl,?_,?_⟩
  ·simp only[length_map]
   refine ⟨by decide,by decide,?_,?_,by decide,by decide⟩<;>split<;>split<;>omega
  refine ykn (λi σ H2=>∃q1:Option V,σ=[some (.ref a),q1]/\Same H H2) ⟨none,rfl,smR H⟩ ?_ ?_
  ·rintro i σ H2 hi ⟨q1,rfl,s2⟩
   generalize hat:(0:Int)+(i:Int)*4=at'
   have hat0:0<=at':=by omega
   have hat1:at'<=1000:=by
    have h48:(if (if 48<((ns.map V.int).length:Int) then 48 else ((ns.map V.int).length:Int))>1 then (if 48<((ns.map V.int).length:Int) then 48 else ((ns.map V.int).length:Int)) else 1)<=48:=by split<;>split<;>omega
    unfold yd7 at hi
    generalize (if (if 48<((ns.map V.int).length:Int) then 48 else ((ns.map V.int).length:Int))>1 then (if 48<((ns.map V.int).length:Int) then 48 else ((ns.map V.int).length:Int)) else 1)=X at hi h48
    split at hi<;>omega
   obtain ⟨ms,hms,hml⟩:=cells4 (ns:=ns) hat0
   refine ⟨_,rfl,_,rfl,_,rfl,_,rfl,_,_,rfl,rfl,_,rfl,a,_,rfl,s2.seq hS,λc1 h1=>?_⟩
   rw[hms]
   generalize hG3:upd H2 c1 _=H3
   have s3:Same H2 H3:=by rw[<-hG3];exact (smR H2).upd h1
   have f3:H3 c1=some (.lst (ms.map V.int)):=by rw[<-hG3];exact qab
   clear hG3
   refine ⟨z3,λc2 h2=>?_⟩
   generalize hG4:upd H3 c2 _=H4
   have s4:Same H3 H4:=by rw[<-hG4];exact (smR H3).upd h2
   have f4:H4 c2=some (.lst (([1,2,3]:List Int).map V.int)):=by rw[<-hG4];exact qab
   clear hG4
   refine ⟨c1,c2,_,_,rfl,rfl,s4 _ _ f3,f4,qd3 (by simp;omega),λc3 h3=>?_⟩
   generalize hG5:upd H4 c3 _=H5
   have s5:Same H4 H5:=by rw[<-hG5];exact (smR H4).upd h3
   have f5:H5 c3=some (.lst ((ms++[1,2,3]).map V.int)):=by rw[<-hG5,map_append];exact qab
   clear hG5
   refine ⟨3,rfl,c3,_,rfl,sqlO f5,λc4 h4=>?_⟩
   obtain ⟨x,y,z,e3⟩:=three_of (ms:=ms)
   rw[e3]
   generalize hG6:upd H5 c4 _=H6
   have s6:Same H5 H6:=by rw[<-hG6];exact (smR H5).upd h4
   have f6:H6 c4=some (.lst [.int x,.int y,.int z]):=by rw[<-hG6];exact qab
   clear hG6
   refine ⟨_,rfl,c4,x,y,z,at',rfl,f6,hat0,hat1,λH7 s7=>⟨_,rfl,iteN rfl ?_⟩⟩
   exact ⟨_,rfl,((s2.trans s3).trans (s4.trans s5)).trans (s6.trans s7)⟩
  ·rintro σ H2 ⟨q1,rfl,s2⟩
   exact k _
end
end Mh
namespace Mh
open PySem L2 PyProof.Rows
open Mx
theorem qdr{K:W.Frag}{a:Addr}{xs:List V}{od:Option Addr}{its:Array Value}{n:Nat}{sl:Array (Option Value)}(h2:K.lookup a=some ⟨.type "tuple",od,.seq its n,sl⟩)(z:its.size<=sizeLine)(r:Vals xs its.toList):∀H,SqT K H a xs:=
 λH=>.inr ⟨_,its,n,h2,rfl,rfl,z,r⟩
open Mc (ybr qca qff)
theorem fnAt_mk{K:W.Frag}{h:Heap}{mg:Str->Option Value}{x:Str}{st:Stmt}{ps:List Str}{f:Addr}{oc:Value}{od an:Option Addr}{osl:Array (Option Value)}{kV doc pm cdv ct:Value}(X:K.In h)(G:h.Ns mainGlobals mg)
  (a:W.nsIn K mainGlobals x=some (some (.ref f))) (l:K.lookup f=some ⟨oc,od,.func (W.fnOf x x (qaw st) (yar st) (yac st) .none kV doc pm an cdv ct),osl⟩) (c:W.codeIn K cdv x=true) (k:W.keepIn K (.ref f)=true)
  (hb:∀(kV doc pm:Value) (an:Option Addr) (cdv ct:Value) (us:List Value),us.length=ps.length->bindArgs (W.fnOf x x (qaw st) (yar st) (yac st) .none kV doc pm an cdv ct) ⟨us,[]⟩=pure (ps.zip us)):FnAt K mg x st ps:=by
 have F:=qbg (st:=st) l c k
 exact ⟨f,_,W.mg_of X G a,F,F.binds hb⟩
def FnP(K:W.Frag)(x:Str)(st:Stmt):Prop:=∃(f:Addr) (oc:Value) (od an:Option Addr) (sl:Array (Option Value)) (kV dc pm cd ct:Value),W.nsIn K mainGlobals x=some (some (.ref f))/\K.lookup f=some ⟨oc,od,.func (W.fnOf x x (qaw st) (yar st) (yac st) .none kV dc pm an cd ct),sl⟩/\W.codeIn K cd x=true/\W.keepIn K (.ref f)=true
theorem FnP.at{K:W.Frag}{h:Heap}{mg:Str->Option Value}{x:Str}{st:Stmt}{ps:List Str}(p:FnP K x st)(X:K.In h)(G:h.Ns mainGlobals mg)
  (hb:∀(kV doc pm:Value) (an:Option Addr) (cdv ct:Value) (us:List Value),us.length=ps.length->bindArgs (W.fnOf x x (qaw st) (yar st) (yac st) .none kV doc pm an cdv ct) ⟨us,[]⟩=pure (ps.zip us)):FnAt K mg x st ps:=by
 obtain ⟨f,oc,od,an,sl,kV,dc,pm,cd,ct,a,l,c,k⟩:=p
 exact fnAt_mk X G a l c k hb
theorem FnP.a1{K:W.Frag}{h:Heap}{mg:Str->Option Value}{x:Str}{st:Stmt}{a0:Str}(p:FnP K x st)(X:K.In h)(G:h.Ns mainGlobals mg)
  (hb:∀(kV doc pm:Value) (an:Option Addr) (cdv ct u0:Value),bindArgs (W.fnOf x x (qaw st) (yar st) (yac st) .none kV doc pm an cdv ct) ⟨[u0],[]⟩=pure ([a0].zip [u0]):=by intros;rfl):FnAt K mg x st [a0]:=p.at X G λ_ _ _ _ _ _ us hl=>match us,hl with|[_],_=>hb ..
theorem FnP.a2{K:W.Frag}{h:Heap}{mg:Str->Option Value}{x:Str}{st:Stmt}{a0 a1:Str}(p:FnP K x st)(X:K.In h)(G:h.Ns mainGlobals mg)
  (hb:∀(kV doc pm:Value) (an:Option Addr) (cdv ct u0 u1:Value),bindArgs (W.fnOf x x (qaw st) (yar st) (yac st) .none kV doc pm an cdv ct) ⟨[u0,u1],[]⟩=pure ([a0,a1].zip [u0,u1]):=by intros;rfl):FnAt K mg x st [a0,a1]:=p.at X G λ_ _ _ _ _ _ us hl=>match us,hl with|[_,_],_=>hb ..
theorem FnP.a3{K:W.Frag}{h:Heap}{mg:Str->Option Value}{x:Str}{st:Stmt}{a0 a1 a2:Str}(p:FnP K x st)(X:K.In h)(G:h.Ns mainGlobals mg)
  (hb:∀(kV doc pm:Value) (an:Option Addr) (cdv ct u0 u1 u2:Value),bindArgs (W.fnOf x x (qaw st) (yar st) (yac st) .none kV doc pm an cdv ct) ⟨[u0,u1,u2],[]⟩=pure ([a0,a1,a2].zip [u0,u1,u2]):=by intros;rfl):FnAt K mg x st [a0,a1,a2]:=p.at X G λ_ _ _ _ _ _ us hl=>match us,hl with|[_,_,_],_=>hb ..
theorem FnP.a4{K:W.Frag}{h:Heap}{mg:Str->Option Value}{x:Str}{st:Stmt}{a0 a1 a2 a3:Str}(p:FnP K x st)(X:K.In h)(G:h.Ns mainGlobals mg)
  (hb:∀(kV doc pm:Value) (an:Option Addr) (cdv ct u0 u1 u2 u3:Value),bindArgs (W.fnOf x x (qaw st) (yar st) (yac st) .none kV doc pm an cdv ct) ⟨[u0,u1,u2,u3],[]⟩=pure ([a0,a1,a2,a3].zip [u0,u1,u2,u3]):=by intros;rfl):FnAt K mg x st [a0,a1,a2,a3]:=p.at X G λ_ _ _ _ _ _ us hl=>match us,hl with|[_,_,_,_],_=>hb ..
set_option maxHeartbeats 0 in
theorem all_mk{l:W.OpenLaw}{w:World}{K:W.Frag}{h:Heap}{mg:Str->Option Value}{fa:Addr}(X:K.In h)(G:h.Ns mainGlobals mg)(hfa:mg "law"=some (.ref fa))
  (p0:FnP K "is_whole" yeq)
  (p1:FnP K "is_bit" qhn)
  (p2:FnP K "is_one_of" qd0)
  (p3:FnP K "is_cell" yft)
  (p4:FnP K "is_part" yfw)
  (p5:FnP K "has_word" yew)
  (p6:FnP K "cells_in" qet)
  (p7:FnP K "has_parts" qd1)
  (p8:FnP K "is_harm" yf6)
  (p9:FnP K "look_at_harms" qb1)
  (p10:FnP K "cells_of" qer)
  (p11:FnP K "stuck_bit" ydu)
  (p12:FnP K "put" s_put)
  (p13:FnP K "settle" yhi)
  (p14:FnP K "harm_of_address" qbp)
  (p15:FnP K "reached_cells" qb6)
  (p16:FnP K "read_cell" ydx)
  (p17:FnP K "read_at" qgc)
  (p18:FnP K "is_slow" yf9)
  (p19:FnP K "kept_bit" yeu)
  (p20:FnP K "act_on_others" yb0)
  (p21:FnP K "write_cell" yc6)
  (p22:FnP K "write_at" yex)
  (p23:FnP K "is_size" qfm)
  (p24:FnP K "are_contents" ycd)
  (p25:FnP K "look_at_memory" ybx)
  (p26:FnP K "look_at_bit" qcs)
  (p27:FnP K "is_pair" qf4)
  (p28:FnP K "is_filled" qdu)
  (p29:FnP K "is_step" qf6)
  (p30:FnP K "is_framed" yd2)
  (p31:FnP K "look_at_element" qbq)
  (p32:FnP K "look_at_test" yce)
  (p33:FnP K "is_order_for" qce)
  (p34:FnP K "are_orders" qdd)
  (p35:FnP K "look_at_orders" ybu)
  (p36:FnP K "deeds" qiy)
  (p37:FnP K "is_count" qep)
  (p38:FnP K "are_spares" yc8)
  (p39:FnP K "look_at_counts" qbw)
  (p40:FnP K "look_at_spares" qbx)
  (p41:FnP K "all_reads" qd2)
  (p42:FnP K "run_on" qhs)
  (p43:FnP K "lines_by_row" ybr)
  (p44:FnP K "finds_line" qca)
  (p45:FnP K "fewest" qff)
  (p46:FnP K "broken_cell" yco)
  (p47:FnP K "broken_of" ydv)
  (p48:FnP K "_law_digits" qcp)
  (p49:FnP K "_law_harm" qd5)
  (p50:FnP K "_law_cells" qc5)
  (p51:FnP K "_law_harms" ydd)
  (p52:FnP K "_law_bits" qdv)
  (p53:FnP K "_law_sound" qdg)
  (p54:FnP K "_law_right" ydg)
  {f55:Addr}{od55 an55:Option Addr}{sl55:Array (Option Value)}{oc55 kV55 dc55 pm55 cd55 ct55:Value}
  (a55:W.nsIn K mainGlobals "law"=some (some (.ref f55)))
  (l55:K.lookup f55=some ⟨oc55,od55,.func (W.fnOf "law" "law" (qaw yhk) (yar yhk) (yac yhk) .none kV55 dc55 pm55 an55 cd55 ct55),sl55⟩)
  (c55:W.codeIn K cd55 "law"=true)
  (k55:W.keepIn K (.ref f55)=true)
  (zz:∀x∈qg7,W.nsIn K mainGlobals x=some none)
  (zset:W.nsIn K mainGlobals "set"=some none)
  (zzip:W.nsIn K mainGlobals "zip"=some none)
  (zall:W.nsIn K mainGlobals "all"=some none)
  {w1 w2 w3:Tok}
  (aMC:W.nsIn K mainGlobals "MOST_CELLS"=some (some (.int 64 w1)))
  (aMH:W.nsIn K mainGlobals "MOST_HARMS"=some (some (.int 3 w2)))
  (aMU:W.nsIn K mainGlobals "MOST_UNLIKE"=some (some (.int 3 w3)))
  {tJ:Addr}{uj1 uj2:Tok}{odJ:Option Addr}{nJ:Nat}{slJ:Array (Option Value)}
  (aJ:W.nsIn K mainGlobals "JOININGS"=some (some (.ref tJ)))
  (lJ:K.lookup tJ=some ⟨.type "tuple",odJ,.seq #[.str "and" uj1,.str "or" uj2] nJ,slJ⟩)
  {tP qp0 qp1 qp2 qp3 qp4 qp5 qp6 qp7 qp8 qp9:Addr}{xp0 xp1 xp2 xp3 xp4 xp5 xp6 xp7 xp8 xp9:Int}{kp0 kp1 kp2 kp3 kp4 kp5 kp6 kp7 kp8 kp9:Tok}{epP:Nat}
  (aP:W.nsIn K mainGlobals "PARTS"=some (some (.ref tP)))
  (lP:K.lookup tP=some ⟨.type "dict",none,.dict #[⟨xp0,.str "stuck" kp0,.ref qp0⟩,⟨xp1,.str "slow" kp1,.ref qp1⟩,⟨xp2,.str "forgets" kp2,.ref qp2⟩,⟨xp3,.str "misreads" kp3,.ref qp3⟩,⟨xp4,.str "turns" kp4,.ref qp4⟩,⟨xp5,.str "sets" kp5,.ref qp5⟩,⟨xp6,.str "keeps" kp6,.ref qp6⟩,⟨xp7,.str "nowhere" kp7,.ref qp7⟩,⟨xp8,.str "other" kp8,.ref qp8⟩,⟨xp9,.str "both" kp9,.ref qp9⟩] epP,#[]⟩)
  (mP:(tP == sysModules)=false)
  {oqp0:Option Addr}{yp0_0 yp0_1:Tok}{mp0:Nat}{sqp0:Array (Option Value)}
  (tp0:K.lookup qp0=some ⟨.type "tuple",oqp0,.seq #[.str "cell" yp0_0,.str "bit" yp0_1] mp0,sqp0⟩)
  {oqp1:Option Addr}{yp1_0 yp1_1:Tok}{mp1:Nat}{sqp1:Array (Option Value)}
  (tp1:K.lookup qp1=some ⟨.type "tuple",oqp1,.seq #[.str "cell" yp1_0,.str "bit" yp1_1] mp1,sqp1⟩)
  {oqp2:Option Addr}{yp2_0 yp2_1:Tok}{mp2:Nat}{sqp2:Array (Option Value)}
  (tp2:K.lookup qp2=some ⟨.type "tuple",oqp2,.seq #[.str "cell" yp2_0,.str "bit" yp2_1] mp2,sqp2⟩)
  {oqp3:Option Addr}{yp3_0 yp3_1:Tok}{mp3:Nat}{sqp3:Array (Option Value)}
  (tp3:K.lookup qp3=some ⟨.type "tuple",oqp3,.seq #[.str "cell" yp3_0,.str "bit" yp3_1] mp3,sqp3⟩)
  {oqp4:Option Addr}{yp4_0 yp4_1 yp4_2:Tok}{mp4:Nat}{sqp4:Array (Option Value)}
  (tp4:K.lookup qp4=some ⟨.type "tuple",oqp4,.seq #[.str "cell" yp4_0,.str "cell" yp4_1,.str "bit" yp4_2] mp4,sqp4⟩)
  {oqp5:Option Addr}{yp5_0 yp5_1 yp5_2 yp5_3:Tok}{mp5:Nat}{sqp5:Array (Option Value)}
  (tp5:K.lookup qp5=some ⟨.type "tuple",oqp5,.seq #[.str "cell" yp5_0,.str "cell" yp5_1,.str "bit" yp5_2,.str "bit" yp5_3] mp5,sqp5⟩)
  {oqp6:Option Addr}{yp6_0 yp6_1 yp6_2 yp6_3:Tok}{mp6:Nat}{sqp6:Array (Option Value)}
  (tp6:K.lookup qp6=some ⟨.type "tuple",oqp6,.seq #[.str "cell" yp6_0,.str "cell" yp6_1,.str "bit" yp6_2,.str "bit" yp6_3] mp6,sqp6⟩)
  {oqp7:Option Addr}{yp7_0 yp7_1:Tok}{mp7:Nat}{sqp7:Array (Option Value)}
  (tp7:K.lookup qp7=some ⟨.type "tuple",oqp7,.seq #[.str "cell" yp7_0,.str "bit" yp7_1] mp7,sqp7⟩)
  {oqp8:Option Addr}{yp8_0 yp8_1:Tok}{mp8:Nat}{sqp8:Array (Option Value)}
  (tp8:K.lookup qp8=some ⟨.type "tuple",oqp8,.seq #[.str "cell" yp8_0,.str "cell" yp8_1] mp8,sqp8⟩)
  {oqp9:Option Addr}{yp9_0 yp9_1 yp9_2:Tok}{mp9:Nat}{sqp9:Array (Option Value)}
  (tp9:K.lookup qp9=some ⟨.type "tuple",oqp9,.seq #[.str "cell" yp9_0,.str "cell" yp9_1,.str "how" yp9_2] mp9,sqp9⟩)
  (zdm:W.nsIn K mainGlobals "divmod"=some none)
  {w6:Tok}
  (aMR:W.nsIn K mainGlobals "MOST_ROWS"=some (some (.int 8 w6)))
  {tO:Addr}{u1 u2 u3:Tok}{odO:Option Addr}{nO:Nat}{slO:Array (Option Value)}
  (aO:W.nsIn K mainGlobals "ORDERS"=some (some (.ref tO)))
  (lO:K.lookup tO=some ⟨.type "tuple",odO,.seq #[.str "up" u1,.str "down" u2,.str "any" u3] nO,slO⟩)
  {tL:Addr}{v1 v2:Tok}{odL:Option Addr}{nL:Nat}{slL:Array (Option Value)}
  (aL:W.nsIn K mainGlobals "LETTERS"=some (some (.ref tL)))
  (lL:K.lookup tL=some ⟨.type "tuple",odL,.seq #[.str "r" v1,.str "w" v2] nL,slL⟩)
  {tK:Addr}{g1 g2:Tok}{odK:Option Addr}{nK:Nat}{slK:Array (Option Value)}
  (aK:W.nsIn K mainGlobals "TAKEN"=some (some (.ref tK)))
  (lK:K.lookup tK=some ⟨.type "tuple",odK,.seq #[.str "up" g1,.str "down" g2] nK,slK⟩)
  {w4 w5:Tok}
  (aT:W.nsIn K mainGlobals "MOST_IN_TEST"=some (some (.int 8 w4)))
  (aE:W.nsIn K mainGlobals "MOST_IN_ELEMENT"=some (some (.int 6 w5)))
  {C0:Addr}
  (ca0:W.nsIn K mainGlobals "Memory"=some (some (.ref C0)))
  (cp0:W.plainGet K C0 Str.empty=true)
  (cd0_:W.hasDictIn K C0=true)
  (co0:W.plainOver K C0=true)
  (cs0:W.findIn K (.ref C0) "__setattr__"=some (some (.builtin "object.__setattr__")))
  (cf0_0:W.findIn K (.ref C0) "harms"=some none)
  (cf0_1:W.findIn K (.ref C0) "cells"=some none)
  (cm0_:W.makesIn K C0=true)
  (ck0:W.keepIn K (.ref C0)=true)
  {fm0_0:Addr}{odm0_0 anm0_0:Option Addr}{slm0_0:Array (Option Value)}{ocm0_0 kVm0_0 dcm0_0 pmm0_0 cdm0_0 ctm0_0:Value}
  (am0_0:W.findIn K (.ref C0) "__init__"=some (some (.ref fm0_0)))
  (lm0_0:K.lookup fm0_0=some ⟨ocm0_0,odm0_0,.func (W.fnOf "__init__" "Memory.__init__" (qaw yao) (yar yao) (yac yao) .none kVm0_0 dcm0_0 pmm0_0 anm0_0 cdm0_0 ctm0_0),slm0_0⟩)
  (cm0_0:W.codeIn K cdm0_0 "Memory.__init__"=true)
  (im0_0:W.isFn K (.ref fm0_0)=true)
  (km0_0:W.keepIn K (.ref fm0_0)=true)
  {fm0_1:Addr}{odm0_1 anm0_1:Option Addr}{slm0_1:Array (Option Value)}{ocm0_1 kVm0_1 dcm0_1 pmm0_1 cdm0_1 ctm0_1:Value}
  (am0_1:W.findIn K (.ref C0) "look_at_address"=some (some (.ref fm0_1)))
  (lm0_1:K.lookup fm0_1=some ⟨ocm0_1,odm0_1,.func (W.fnOf "look_at_address" "Memory.look_at_address" (qaw qak) (yar qak) (yac qak) .none kVm0_1 dcm0_1 pmm0_1 anm0_1 cdm0_1 ctm0_1),slm0_1⟩)
  (cm0_1:W.codeIn K cdm0_1 "Memory.look_at_address"=true)
  (im0_1:W.isFn K (.ref fm0_1)=true)
  (km0_1:W.keepIn K (.ref fm0_1)=true)
  {fm0_2:Addr}{odm0_2 anm0_2:Option Addr}{slm0_2:Array (Option Value)}{ocm0_2 kVm0_2 dcm0_2 pmm0_2 cdm0_2 ctm0_2:Value}
  (am0_2:W.findIn K (.ref C0) "read"=some (some (.ref fm0_2)))
  (lm0_2:K.lookup fm0_2=some ⟨ocm0_2,odm0_2,.func (W.fnOf "read" "Memory.read" (qaw qay) (yar qay) (yac qay) .none kVm0_2 dcm0_2 pmm0_2 anm0_2 cdm0_2 ctm0_2),slm0_2⟩)
  (cm0_2:W.codeIn K cdm0_2 "Memory.read"=true)
  (im0_2:W.isFn K (.ref fm0_2)=true)
  (km0_2:W.keepIn K (.ref fm0_2)=true)
  {fm0_3:Addr}{odm0_3 anm0_3:Option Addr}{slm0_3:Array (Option Value)}{ocm0_3 kVm0_3 dcm0_3 pmm0_3 cdm0_3 ctm0_3:Value}
  (am0_3:W.findIn K (.ref C0) "write"=some (some (.ref fm0_3)))
  (lm0_3:K.lookup fm0_3=some ⟨ocm0_3,odm0_3,.func (W.fnOf "write" "Memory.write" (qaw qau) (yar qau) (yac qau) .none kVm0_3 dcm0_3 pmm0_3 anm0_3 cdm0_3 ctm0_3),slm0_3⟩)
  (cm0_3:W.codeIn K cdm0_3 "Memory.write"=true)
  (im0_3:W.isFn K (.ref fm0_3)=true)
  (km0_3:W.keepIn K (.ref fm0_3)=true)
  {fm0_4:Addr}{odm0_4 anm0_4:Option Addr}{slm0_4:Array (Option Value)}{ocm0_4 kVm0_4 dcm0_4 pmm0_4 cdm0_4 ctm0_4:Value}
  (am0_4:W.findIn K (.ref C0) "size"=some (some (.ref fm0_4)))
  (lm0_4:K.lookup fm0_4=some ⟨ocm0_4,odm0_4,.func (W.fnOf "size" "Memory.size" (qaw yaz) (yar yaz) (yac yaz) .none kVm0_4 dcm0_4 pmm0_4 anm0_4 cdm0_4 ctm0_4),slm0_4⟩)
  (cm0_4:W.codeIn K cdm0_4 "Memory.size"=true)
  (im0_4:W.isFn K (.ref fm0_4)=true)
  (km0_4:W.keepIn K (.ref fm0_4)=true)
  {C1:Addr}
  (ca1:W.nsIn K mainGlobals "Mended"=some (some (.ref C1)))
  (cp1:W.plainGet K C1 Str.empty=true)
  (cd1_:W.hasDictIn K C1=true)
  (co1:W.plainOver K C1=true)
  (cs1:W.findIn K (.ref C1) "__setattr__"=some (some (.builtin "object.__setattr__")))
  (cf1_0:W.findIn K (.ref C1) "harmed"=some none)
  (cf1_1:W.findIn K (.ref C1) "spare"=some none)
  (cm1_:W.makesIn K C1=true)
  (ck1:W.keepIn K (.ref C1)=true)
  {fm1_0:Addr}{odm1_0 anm1_0:Option Addr}{slm1_0:Array (Option Value)}{ocm1_0 kVm1_0 dcm1_0 pmm1_0 cdm1_0 ctm1_0:Value}
  (am1_0:W.findIn K (.ref C1) "__init__"=some (some (.ref fm1_0)))
  (lm1_0:K.lookup fm1_0=some ⟨ocm1_0,odm1_0,.func (W.fnOf "__init__" "Mended.__init__" (qaw qap) (yar qap) (yac qap) .none kVm1_0 dcm1_0 pmm1_0 anm1_0 cdm1_0 ctm1_0),slm1_0⟩)
  (cm1_0:W.codeIn K cdm1_0 "Mended.__init__"=true)
  (im1_0:W.isFn K (.ref fm1_0)=true)
  (km1_0:W.keepIn K (.ref fm1_0)=true)
  {fm1_1:Addr}{odm1_1 anm1_1:Option Addr}{slm1_1:Array (Option Value)}{ocm1_1 kVm1_1 dcm1_1 pmm1_1 cdm1_1 ctm1_1:Value}
  (am1_1:W.findIn K (.ref C1) "read"=some (some (.ref fm1_1)))
  (lm1_1:K.lookup fm1_1=some ⟨ocm1_1,odm1_1,.func (W.fnOf "read" "Mended.read" (qaw qaz) (yar qaz) (yac qaz) .none kVm1_1 dcm1_1 pmm1_1 anm1_1 cdm1_1 ctm1_1),slm1_1⟩)
  (cm1_1:W.codeIn K cdm1_1 "Mended.read"=true)
  (im1_1:W.isFn K (.ref fm1_1)=true)
  (km1_1:W.keepIn K (.ref fm1_1)=true)
  {fm1_2:Addr}{odm1_2 anm1_2:Option Addr}{slm1_2:Array (Option Value)}{ocm1_2 kVm1_2 dcm1_2 pmm1_2 cdm1_2 ctm1_2:Value}
  (am1_2:W.findIn K (.ref C1) "write"=some (some (.ref fm1_2)))
  (lm1_2:K.lookup fm1_2=some ⟨ocm1_2,odm1_2,.func (W.fnOf "write" "Mended.write" (qaw yau) (yar yau) (yac yau) .none kVm1_2 dcm1_2 pmm1_2 anm1_2 cdm1_2 ctm1_2),slm1_2⟩)
  (cm1_2:W.codeIn K cdm1_2 "Mended.write"=true)
  (im1_2:W.isFn K (.ref fm1_2)=true)
  (km1_2:W.keepIn K (.ref fm1_2)=true)
  {fm1_3:Addr}{odm1_3 anm1_3:Option Addr}{slm1_3:Array (Option Value)}{ocm1_3 kVm1_3 dcm1_3 pmm1_3 cdm1_3 ctm1_3:Value}
  (am1_3:W.findIn K (.ref C1) "size"=some (some (.ref fm1_3)))
  (lm1_3:K.lookup fm1_3=some ⟨ocm1_3,odm1_3,.func (W.fnOf "size" "Mended.size" (qaw yay) (yar yay) (yac yay) .none kVm1_3 dcm1_3 pmm1_3 anm1_3 cdm1_3 ctm1_3),slm1_3⟩)
  (cm1_3:W.codeIn K cdm1_3 "Mended.size"=true)
  (im1_3:W.isFn K (.ref fm1_3)=true)
  (km1_3:W.keepIn K (.ref fm1_3)=true) :
  ∃fd:FuncData,(∀(s:Shared) (v:Value),BindsTo s fd ⟨[v],[]⟩ [("_law_script",v)])/\∀base:Heap,K.In base->base.Ns mainGlobals mg->FnOk l.prog w K mg base CX0 16 fa fd ["_law_script"] (qjr K):=by
 have e:=hfa.symm.trans (W.mg_of X G a55)
 cases e
 have B:Bl mg:=⟨λx hx=>W.mg_none_of X G (zz x hx)⟩
 have qcz:mg "set"=none:=W.mg_none_of X G zset
 have qhb:mg "zip"=none:=W.mg_none_of X G zzip
 have qeq:mg "all"=none:=W.mg_none_of X G zall
 have g_MC:∃t,mg "MOST_CELLS"=some (.int 64 t):=⟨_,W.mg_of X G aMC⟩
 have g_MH:∃t,mg "MOST_HARMS"=some (.int 3 t):=⟨_,W.mg_of X G aMH⟩
 have g_MU:∃t,mg "MOST_UNLIKE"=some (.int 3 t):=⟨_,W.mg_of X G aMU⟩
 have g_J:GTup K mg "JOININGS" [.str "and",.str "or"]:=qhi (W.mg_of X G aJ) lJ zl (.cons ⟨_,rfl⟩ (.cons ⟨_,rfl⟩ .nil))
 have gP:=W.mg_of X G aP
 have sp0:∀H,SqT K H qp0 [.str "cell",.str "bit"]:=qdr tp0 zl (.cons ⟨_,rfl⟩ (.cons ⟨_,rfl⟩ .nil))
 have sp1:∀H,SqT K H qp1 [.str "cell",.str "bit"]:=qdr tp1 zl (.cons ⟨_,rfl⟩ (.cons ⟨_,rfl⟩ .nil))
 have sp2:∀H,SqT K H qp2 [.str "cell",.str "bit"]:=qdr tp2 zl (.cons ⟨_,rfl⟩ (.cons ⟨_,rfl⟩ .nil))
 have sp3:∀H,SqT K H qp3 [.str "cell",.str "bit"]:=qdr tp3 zl (.cons ⟨_,rfl⟩ (.cons ⟨_,rfl⟩ .nil))
 have sp4:∀H,SqT K H qp4 [.str "cell",.str "cell",.str "bit"]:=qdr tp4 zl (.cons ⟨_,rfl⟩ (.cons ⟨_,rfl⟩ (.cons ⟨_,rfl⟩ .nil)))
 have sp5:∀H,SqT K H qp5 [.str "cell",.str "cell",.str "bit",.str "bit"]:=qdr tp5 zl (.cons ⟨_,rfl⟩ (.cons ⟨_,rfl⟩ (.cons ⟨_,rfl⟩ (.cons ⟨_,rfl⟩ .nil))))
 have sp6:∀H,SqT K H qp6 [.str "cell",.str "cell",.str "bit",.str "bit"]:=qdr tp6 zl (.cons ⟨_,rfl⟩ (.cons ⟨_,rfl⟩ (.cons ⟨_,rfl⟩ (.cons ⟨_,rfl⟩ .nil))))
 have sp7:∀H,SqT K H qp7 [.str "cell",.str "bit"]:=qdr tp7 zl (.cons ⟨_,rfl⟩ (.cons ⟨_,rfl⟩ .nil))
 have sp8:∀H,SqT K H qp8 [.str "cell",.str "cell"]:=qdr tp8 zl (.cons ⟨_,rfl⟩ (.cons ⟨_,rfl⟩ .nil))
 have sp9:∀H,SqT K H qp9 [.str "cell",.str "cell",.str "how"]:=qdr tp9 zl (.cons ⟨_,rfl⟩ (.cons ⟨_,rfl⟩ (.cons ⟨_,rfl⟩ .nil)))
 have TP:TabK K tP tabP:=⟨mP,_,_,_,lP,⟨rfl,rfl,rfl⟩,rfl,(.cons rfl ⟨_,rfl,sp0⟩ (.cons rfl ⟨_,rfl,sp1⟩ (.cons rfl ⟨_,rfl,sp2⟩ (.cons rfl ⟨_,rfl,sp3⟩ (.cons rfl ⟨_,rfl,sp4⟩ (.cons rfl ⟨_,rfl,sp5⟩ (.cons rfl ⟨_,rfl,sp6⟩ (.cons rfl ⟨_,rfl,sp7⟩ (.cons rfl ⟨_,rfl,sp8⟩ (.cons rfl ⟨_,rfl,sp9⟩ .nil))))))))))⟩
 have cm:CM K C0:=⟨⟨cp0,cd0_,co0,cs0⟩,cf0_0,cf0_1⟩
 have z_dm:mg "divmod"=none:=W.mg_none_of X G zdm
 have g_MR:∃t,mg "MOST_ROWS"=some (.int 8 t):=⟨_,W.mg_of X G aMR⟩
 have cn:CN K C1:=⟨⟨cp1,cd1_,co1,cs1⟩,cf1_0,cf1_1⟩
 have yhg:GTup K mg "ORDERS" [.str "up",.str "down",.str "any"]:=qhi (W.mg_of X G aO) lO zl (.cons ⟨_,rfl⟩ (.cons ⟨_,rfl⟩ (.cons ⟨_,rfl⟩ .nil)))
 have qgd:GTup K mg "LETTERS" [.str "r",.str "w"]:=qhi (W.mg_of X G aL) lL zl (.cons ⟨_,rfl⟩ (.cons ⟨_,rfl⟩ .nil))
 have yjb:GTup K mg "TAKEN" [.str "up",.str "down"]:=qhi (W.mg_of X G aK) lK zl (.cons ⟨_,rfl⟩ (.cons ⟨_,rfl⟩ .nil))
 have g_T:∃t,mg "MOST_IN_TEST"=some (.int 8 t):=⟨_,W.mg_of X G aT⟩
 have g_E:∃t,mg "MOST_IN_ELEMENT"=some (.int 6 t):=⟨_,W.mg_of X G aE⟩
 have FL:=qbg (st:=yhk) l55 c55 k55
 refine ⟨W.fnOf "law" "law" (qaw yhk) (yar yhk) (yac yhk) .none kV55 dc55 pm55 an55 cd55 ct55,λs v=>.of_eq rfl,λbase _ _=>?_⟩
 have M0___init__:ybh K C0 "__init__" "Memory.__init__" yao ["self","size","harms","contents"]:=⟨fm0_0,_,⟨am0_0,im0_0,km0_0⟩,qbg (st:=yao) lm0_0 cm0_0 km0_0,Fun.binds (qbg (st:=yao) lm0_0 cm0_0 km0_0) λ_ _ _ _ _ _ us hl=>match us,hl with|[_,_,_,_],_=>rfl⟩
 have M0_look_at_address:ybh K C0 "look_at_address" "Memory.look_at_address" qak ["self","address"]:=⟨fm0_1,_,⟨am0_1,im0_1,km0_1⟩,qbg (st:=qak) lm0_1 cm0_1 km0_1,Fun.binds (qbg (st:=qak) lm0_1 cm0_1 km0_1) λ_ _ _ _ _ _ us hl=>match us,hl with|[_,_],_=>rfl⟩
 have M0_read:ybh K C0 "read" "Memory.read" qay ["self","address"]:=⟨fm0_2,_,⟨am0_2,im0_2,km0_2⟩,qbg (st:=qay) lm0_2 cm0_2 km0_2,Fun.binds (qbg (st:=qay) lm0_2 cm0_2 km0_2) λ_ _ _ _ _ _ us hl=>match us,hl with|[_,_],_=>rfl⟩
 have M0_write:ybh K C0 "write" "Memory.write" qau ["self","address","bit"]:=⟨fm0_3,_,⟨am0_3,im0_3,km0_3⟩,qbg (st:=qau) lm0_3 cm0_3 km0_3,Fun.binds (qbg (st:=qau) lm0_3 cm0_3 km0_3) λ_ _ _ _ _ _ us hl=>match us,hl with|[_,_,_],_=>rfl⟩
 have M0_size:ybh K C0 "size" "Memory.size" yaz ["self"]:=⟨fm0_4,_,⟨am0_4,im0_4,km0_4⟩,qbg (st:=yaz) lm0_4 cm0_4 km0_4,Fun.binds (qbg (st:=yaz) lm0_4 cm0_4 km0_4) λ_ _ _ _ _ _ us hl=>match us,hl with|[_],_=>rfl⟩
 have M1___init__:ybh K C1 "__init__" "Mended.__init__" qap ["self","rows","lines","harms","contents","spare_rows","spare_lines"]:=⟨fm1_0,_,⟨am1_0,im1_0,km1_0⟩,qbg (st:=qap) lm1_0 cm1_0 km1_0,Fun.binds (qbg (st:=qap) lm1_0 cm1_0 km1_0) λ_ _ _ _ _ _ us hl=>match us,hl with|[_,_,_,_,_,_,_],_=>rfl⟩
 have M1_read:ybh K C1 "read" "Mended.read" qaz ["self","address"]:=⟨fm1_1,_,⟨am1_1,im1_1,km1_1⟩,qbg (st:=qaz) lm1_1 cm1_1 km1_1,Fun.binds (qbg (st:=qaz) lm1_1 cm1_1 km1_1) λ_ _ _ _ _ _ us hl=>match us,hl with|[_,_],_=>rfl⟩
 have M1_write:ybh K C1 "write" "Mended.write" yau ["self","address","bit"]:=⟨fm1_2,_,⟨am1_2,im1_2,km1_2⟩,qbg (st:=yau) lm1_2 cm1_2 km1_2,Fun.binds (qbg (st:=yau) lm1_2 cm1_2 km1_2) λ_ _ _ _ _ _ us hl=>match us,hl with|[_,_,_],_=>rfl⟩
 have M1_size:ybh K C1 "size" "Mended.size" yay ["self"]:=⟨fm1_3,_,⟨am1_3,im1_3,km1_3⟩,qbg (st:=yay) lm1_3 cm1_3 km1_3,Fun.binds (qbg (st:=yay) lm1_3 cm1_3 km1_3) λ_ _ _ _ _ _ us hl=>match us,hl with|[_],_=>rfl⟩
 have h0:=yjf (P:=l.prog) (w:=w) (base:=base) B (p0.a1 X G)
 have h1:=qlh h0 (p1.a1 X G)
 have h2:=qh5 (P:=l.prog) (w:=w) (base:=base) B (p2.a2 X G)
 have h3:=yka g_MC h0 (p3.a1 X G)
 have h4:=yj8 g_J h3 h1 h2 (p4.a2 X G)
 have h5:=qiw (P:=l.prog) (w:=w) (base:=base) B gP TP (p5.a1 X G)
 have h6:=yjc (P:=l.prog) (w:=w) (base:=base) B qhb gP TP (p6.a1 X G)
 have h7:=yis B qhb qeq gP TP h4 (p7.a1 X G)
 have h8:=yj3 B qcz h5 h7 h6 (p8.a1 X G)
 have h9:=yfd B qcz g_MH g_MU h8 h6 (p9.a1 X G)
 have h10:=qi7 B qcz h9 h6 (p10.a1 X G)
 have h11:=yio (P:=l.prog) (w:=w) (base:=base) (p11.a2 X G)
 have h12:=ok_put h11 (p12.a4 X G)
 have h13:=yme B h11 h12 (p13.a2 X G)
 have h14:=yeh (P:=l.prog) (w:=w) (base:=base) (p14.a2 X G)
 have h15:=yfc (P:=l.prog) (w:=w) (base:=base) (p15.a2 X G)
 have h16:=qhw h12 (p16.a3 X G)
 have h17:=qj2 B h14 h15 h16 (p17.a3 X G)
 have h18:=ykj (P:=l.prog) (w:=w) (base:=base) (p18.a4 X G)
 have h19:=qjh (P:=l.prog) (w:=w) (base:=base) (p19.a4 X G)
 have h20:=yfb h12 (p20.a3 X G)
 have h21:=yg7 h18 h12 h19 h20 (p21.a4 X G)
 have h22:=qjb h14 h15 h21 (p22.a4 X G)
 have h23:=yj7 g_MC h0 (p23.a1 X G)
 have h24:=yfo B qeq h1 (p24.a2 X G)
 have h25:=yev B h10 h23 h24 (p25.a3 X G)
 have h26:=qgg h1 (p26.a1 X G)
 have ybv:=qml B cm h0 M0_look_at_address
 have yiu:=yl7 cm ybv h17 M0_read
 have qhk:=qj7 cm ybv h26 h22 M0_write
 have yi8:=yk8 (P:=l.prog) (w:=w) (base:=base) B cm M0_size
 have hm_init:=ymb B cm h25 h13 M0___init__
 have qfi:=HasI.of (x:="Memory") (m:="Memory") (W.mg_of X G ca0) ⟨cm0_,am0_0,im0_0,ck0⟩ (λg h=>yk3 am0_0 h) hm_init
 have h27:=yke (P:=l.prog) (w:=w) (base:=base) B (p27.a1 X G)
 have h28:=qh1 (P:=l.prog) (w:=w) (base:=base) B (p28.a2 X G)
 have h29:=qj3 qgd h27 h2 h1 (p29.a1 X G)
 have h30:=qh2 yhg g_E h27 h2 h28 (p30.a1 X G)
 have h31:=qel B h30 h29 (p31.a2 X G)
 have h32:=yfj B g_T h28 h31 (p32.a1 X G)
 have h33:=qfp yjb h2 (p33.a2 X G)
 have h34:=qho B qhb qeq h33 (p34.a2 X G)
 have h35:=qew h34 (p35.a2 X G)
 have h36:=ok_deeds (P:=l.prog) (w:=w) (base:=base) B (p36.a3 X G)
 have h37:=ok_count g_MR h0 (p37.a1 X G)
 have h38:=qg9 B qeq qcz h0 (p38.a2 X G)
 have h39:=qge h37 (p39.a2 X G)
 have h40:=ygf h38 (p40.a4 X G)
 have hn_read:=ql7 cm cn ybv yiu M1_read
 have hn_write:=qkm cm cn ybv h26 qhk M1_write
 have hn_size:=qle cm cn yi8 M1_size
 have hn_init:=ylf B cm cn h9 h39 h40 qfi M1___init__
 have yen:=HasI.of (x:="Mended") (m:="Mended") (W.mg_of X G ca1) ⟨cm1_,am1_0,im1_0,ck1⟩ (λg h=>yk3 am1_0 h) hn_init
 have h41:=qhg B cn h36 hn_read hn_write hn_size (p41.a3 X G)
 have h42:=qkj B h32 h35 h41 (p42.a3 X G)
 have h43:=Mc.ok_lbr (P:=l.prog) (w:=w) (base:=base) (p43.a1 X G)
 have h44:=(λF=>Mc.ok_finds (P:=l.prog) (w:=w) (base:=base) F 13) (p44.a4 X G)
 have h45:=Mc.ok_fewest B h43 h44 (p45.a1 X G)
 have h46:=qgf (P:=l.prog) (w:=w) (base:=base) (p46.a1 X G)
 have h47:=yia B qcz z_dm h9 h46 (p47.a2 X G)
 have h48:=ykq (P:=l.prog) (w:=w) (base:=base) B (p48.a3 X G)
 have h49:=ok_lharm (P:=l.prog) (w:=w) (base:=base) B (p49.a2 X G)
 have h50:=qmc (P:=l.prog) (w:=w) (base:=base) B qcz (p50.a1 X G)
 have h51:=qlg B h49 h50 (p51.a2 X G)
 have h52:=ok_lbits (P:=l.prog) (w:=w) (base:=base) B (p52.a2 X G)
 have h53:=ykz B cn hn_read hn_write h42 (p53.a4 X G)
 have h54:=qll B cm cn h48 h51 h50 h52 h47 h53 h45 yen (p54.a2 X G)
 exact ok_law B h54 FL
theorem walk{l:W.OpenLaw}{q:Program}{loose:List Str}{XP:(Str->Option Value)->Heap->Prop}{YP:World->Heap->Prop}{d:DefRec}{K:Params->W.Frag}(hn:l.most=some 63)(hdf:d.params.defaults=[])
  (hY:∀(w:World) (h:Heap),YP w h->(K w.params).In h)
  (F:∀(w:World) (mg:Str->Option Value) (fa:Addr) (h:Heap),(K w.params).In h->h.Ns mainGlobals mg->mg d.name=some (.ref fa)->
   ∃fd:FuncData,(∀(s:Shared) (u:Value),BindsTo s fd ⟨[u],[]⟩ [("_law_script",u)])/\∀base:Heap,(K w.params).In base->base.Ns mainGlobals mg->FnOk l.prog w (K w.params) mg base CX0 16 fa fd ["_law_script"] (qjr (K w.params))) :
  W.WalkO q loose XP YP l.row.toRowW d [] (λf vs=>PySem.call f vs):=
 L2.walk_of (n:=63) (k:=16) (x:="_law_script") (CX:=λ_=>CX0) (sp:=λw=>qjr (K w.params)) hn (by decide) hdf ⟨rfl,by decide,by decide,rfl⟩ hY F (λ_ _ a ns hl _ hS=>⟨a,ns,rfl,hS,hl,λ_=>rfl⟩) λ_ _ _ _ _ z=>z
end Mh
namespace PySem.W.Fast
def tw13708428098254773322:=0
def tw15395355651469960287:=0
def tw11764563407511386098:=0
def tw6563837308338049495:=0
def tw2700027148599481337:=0
def tw2039589546112804393:=0
def tw18163883896743438970:=0
def tw5362219995180717664:=0
def tw2807760075869158691:=PySem.Challenge.pw_marchmend_k54_whole_covered_is_sound
theorem te2807760075869158691:PySem.Challenge.pw_marchmend_k54_whole_covered_is_sound=tw2807760075869158691:=rfl
def tw3474657375192505938:=0
def tw1013428151040788583:=0
def tw15854160295448804458:=0
def tw14056344132547229946:=0
def tw6626084246337462653:=0
def tw236302548498682064:=0
def tw15237392733151103498:=0
def tw4760297887535255928:=0
def tw14349270769177276250:=0
def tw17285611820066405299:=0
def tw5892740610397575552:=0
def tw12436843699846234363:=0
def tw11313294591704609625:=0
def tw8040907459548767329:=0
def tw3809475493076770051:=0
def tw4905212495395335:=0
def tw18138184698900709709:=0
def tw7850954923618418743:=0
def tw14726737929627261920:=0
def tw3884084893158088844:=0
def tw803666084712350783:=0
def tw1243410823282809181:=0
def tw5246589336844427127:=0
def tw1890549774406943636:=0
def tw2971003671943489754:=0
def tw11162642161710611373:=0
def tw1981502055956406095:=0
def tw5208521174576869848:=0
def tw4248117227447837233:=0
def tw3107400738816683758:=0
def tw1145549641610649310:=0
def tw2380497021499905028:=0
def tw4855717366367346533:=0
def tw1031290779489966248:=0
def tw24836162876483682:=0
def tw17045215385616007524:=0
def tw3321296864922884970:=0
def tw9211899209536164097:=0
def tw514145446841095199:=0
def tw3745612339551378142:=0
def tw15068338175829160982:=0
def tw16597025069275718422:=0
def tw715230568121890437:=0
def tw15875347433386883740:=0
def tw3528227606640684413:=0
def tw4477290719846293778:=0
def tw6738556876856113354:=0
def tw481864003317582262:=0
def tw11145862407207505181:=0
def tw17199889073697986565:=0
def tw13481666607231318082:=0
def tw14732547493777208259:=0
def tw16307465784184596062:=0
def tw10874189888695143515:=0
def tw16753442347656188750:=0
def tw5937859380766147398:=0
def tw351517940972987074:=0
def tw7986923359982148748:=0
def tw10757020117582644984:=0
def tw9156684411606372240:=0
def tw7631187154453899177:=0
def tw8874407653076236156:=0
def tw14463625727150977817:=0
def tw16334853097185040103:=0
def tw7172831573459256568:=0
def tw517451025223684797:=0
def tw14999784061582094829:=0
def tw10766979229227731420:=0
def tw11232632378085071247:=0
def tw12858676828915757556:=0
def tw11009944618926541704:=0
def tw8831384280462903251:=0
def tw6639783064822101925:=0
def tw1838873810651770950:=0
def tw197258882136606316:=0
def tw9431337649499018218:=0
def tw2757119812702611167:=0
def tw6255068353644615099:=0
def tw12676691836562752906:=0
def tw5602424635225861958:=0
def tw14424926451238858727:=0
def tw14186977928636107151:=0
def tw4071848794660670052:=0
def tw5246023309761760261:=0
def tw10065620357883321348:=0
def tw8283323685230498932:=0
def tw13972827561247665229:=0
def tw2160007791827618933:=0
def tw172141020062238717:=0
def tw17803724395791689702:=0
def tw8605244810570911571:=0
def tw1926842864249696913:=0
def tw13323016136968240068:=0
def tw15861425288153729864:=0
def tw13006449109925660937:=0
def tw1980283688069568225:=0
def tw4218047243918901450:=0
def tw9876660600030249558:=0
def tw14931295472739424359:=0
def tw2404951308785547722:=0
def tw18306510525757818882:=0
def tw17598166806089970964:=0
def tw16037639759270601785:=0
def tw15260694880584111820:=0
def tw14857488722400992603:=0
def tw7439120331530409437:=0
def tw10483492709242267730:=0
def tw14562696981541973009:=0
def tw12164399912509182121:=0
def tw11952171212916908376:=0
def tw9264055850201009796:=0
def tw15114075308768977910:=0
def tw17716480441538805827:=0
def tw4758826564796996018:=0
def tw15919701147280719235:=0
end PySem.W.Fast
open PySem PySem.W PyProof.Rows
set_option maxRecDepth 100000 in
set_option maxHeartbeats 0 in
theorem PySem.Challenge.cw_marchmend_k54_whole_covered_is_sound_holds : PySem.Challenge.rw_marchmend_k54_whole_covered_is_sound.Holds := by
  w_on; o_law; k_head; (case hw=>w_witness2)
  k_fill
  refine Mh.walk (l:=PySem.Challenge.rw_marchmend_k54_whole_covered_is_sound) rfl rfl (fun w h Y=>PySem.W.kIn_of Y) ?F
  case F=>
    intro w mg fa h KX G hmg
    refine' Mh.all_mk KX G hmg ?p0 ?p1 ?p2 ?p3 ?p4 ?p5 ?p6 ?p7 ?p8 ?p9 ?p10 ?p11 ?p12 ?p13 ?p14 ?p15 ?p16 ?p17 ?p18 ?p19 ?p20 ?p21 ?p22 ?p23 ?p24 ?p25 ?p26 ?p27 ?p28 ?p29 ?p30 ?p31 ?p32 ?p33 ?p34 ?p35 ?p36 ?p37 ?p38 ?p39 ?p40 ?p41 ?p42 ?p43 ?p44 ?p45 ?p46 ?p47 ?p48 ?p49 ?p50 ?p51 ?p52 ?p53 ?p54 ?a55 ?l55 ?c55 ?k55 ?zz ?zset ?zzip ?zall ?aMC ?aMH ?aMU ?aJ ?lJ ?aP ?lP ?mP ?tp0 ?tp1 ?tp2 ?tp3 ?tp4 ?tp5 ?tp6 ?tp7 ?tp8 ?tp9 ?zdm ?aMR ?aO ?lO ?aL ?lL ?aK ?lK ?aT ?aE ?ca0 ?cp0 ?cd0_ ?co0 ?cs0 ?cf0_0 ?cf0_1 ?cm0_ ?ck0 ?am0_0 ?lm0_0 ?cm0_0 ?im0_0 ?km0_0 ?am0_1 ?lm0_1 ?cm0_1 ?im0_1 ?km0_1 ?am0_2 ?lm0_2 ?cm0_2 ?im0_2 ?km0_2 ?am0_3 ?lm0_3 ?cm0_3 ?im0_3 ?km0_3 ?am0_4 ?lm0_4 ?cm0_4 ?im0_4 ?km0_4 ?ca1 ?cp1 ?cd1_ ?co1 ?cs1 ?cf1_0 ?cf1_1 ?cm1_ ?ck1 ?am1_0 ?lm1_0 ?cm1_0 ?im1_0 ?km1_0 ?am1_1 ?lm1_1 ?cm1_1 ?im1_1 ?km1_1 ?am1_2 ?lm1_2 ?cm1_2 ?im1_2 ?km1_2 ?am1_3 ?lm1_3 ?cm1_3 ?im1_3 ?km1_3
    (case p0|p1|p2|p3|p4|p5|p6|p7|p8|p9|p10|p11|p12|p13|p14|p15|p16|p17|p18|p19|p20|p21|p22|p23|p24|p25|p26|p27|p28|p29|p30|p31|p32|p33|p34|p35|p36|p37|p38|p39|p40|p41|p42|p43|p44|p45|p46|p47|p48|p49|p50|p51|p52|p53|p54=>exact ⟨_,_,_,_,_,_,_,_,_,_,by k_is,by k_is,by k_is,by k_is⟩)
    (case a55|l55|c55|k55=>k_is)
    (case zz=>intro x hx; unfold L2.qg7 at hx; simp only [List.mem_cons,List.not_mem_nil,or_false] at hx; rcases hx with rfl | rfl | rfl | rfl | rfl | rfl | rfl | rfl | rfl | rfl | rfl | rfl | rfl | rfl | rfl | rfl <;> k_is)
    (case zset|zzip|zall|aMC|aMH|aMU|aJ|lJ|aP|lP=>k_is)
    (case mP=>rfl)
    (case tp0|tp1|tp2|tp3|tp4|tp5|tp6|tp7|tp8|tp9|zdm|aMR|aO|lO|aL|lL|aK|lK|aT|aE|ca0|cp0|cd0_|co0|cs0|cf0_0|cf0_1|cm0_|ck0|am0_0|lm0_0|cm0_0|im0_0|km0_0|am0_1|lm0_1|cm0_1|im0_1|km0_1|am0_2|lm0_2|cm0_2|im0_2|km0_2|am0_3|lm0_3|cm0_3|im0_3|km0_3|am0_4|lm0_4|cm0_4|im0_4|km0_4|ca1|cp1|cd1_|co1|cs1|cf1_0|cf1_1|cm1_|ck1|am1_0|lm1_0|cm1_0|im1_0|km1_0|am1_1|lm1_1|cm1_1|im1_1|km1_1|am1_2|lm1_2|cm1_2|im1_2|km1_2|am1_3|lm1_3|cm1_3|im1_3|km1_3=>k_is)
#print axioms PySem.Challenge.cw_marchmend_k54_whole_covered_is_sound_holds
