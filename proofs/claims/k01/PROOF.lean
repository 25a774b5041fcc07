import PyProof.Rows.All
import Wide.All
import OpenK.AllK
import Wide.FinOn
import Lean
import PyProof.EqAt
import PyProof.EqKinds
import PyProof.TupleCall
import PyProof.StrLawsTight
import PyProof.Rows.StrJoin2
import PyProof.Rows.StrSplitJoin
import KE.KTab
import PyProof.ZipIter
import PyProof.Rows.TupIter
import PyProof.Rows.SortWalk
import PyProof.Rows.SortStr
import PyProof.ConsumeWalk
import KE.KRevSl
import KE.KTryMore
import PyProof.NsDelKeeps
import PyProof.NeKinds
import KE.KIntText
import KE.RegKTryMore
import PySem.Challenge.RW_marchmend_k01_tests_looked_at
set_option Elab.async false
set_option linter.all false
set_option maxRecDepth 100000
namespace L2
open PySem PySem.Spec PyProof.Rows

/-- a key: an int or a str -/
abbrev Key := Sum Int Str
def keyIs : Key → Value → Bool
  | .inl k, v => Value.isInt k v
  | .inr x, v => Value.isStrOf x v
def keyH (w : World) : Key → Int
  | .inl k => hashInt k
  | .inr x => hashStr w x
theorem keyIs_shape : ∀ {k : Key} {v : Value}, keyIs k v = true → (∃ i t, k = Sum.inl i ∧ v = Value.int i t) ∨ (∃ x t, k = Sum.inr x ∧ v = Value.str x t)
  | .inl i, v, h => by
    obtain ⟨t, e⟩ := Value.isInt_shape (k := i) (v := v) h
    exact .inl ⟨i, t, rfl, e⟩
  | .inr x, v, h => by
    obtain ⟨t, e⟩ := Value.isStrOf_shape (x := x) (v := v) h
    exact .inr ⟨x, t, rfl, e⟩
theorem key_ll (a b : Int) : decide ((Sum.inl a : Key) = Sum.inl b) = (a == b) := by
  by_cases e : a = b
  · subst e; simp
  · have h : ¬ (Sum.inl a : Key) = Sum.inl b := fun q => e (Sum.inl.inj q)
    rw [decide_eq_false h]
    exact (beq_eq_false_iff_ne.mpr e).symm
theorem key_rr (a b : Str) : decide ((Sum.inr a : Key) = Sum.inr b) = decide (a = b) := by
  by_cases e : a = b
  · subst e; simp
  · have h : ¬ (Sum.inr a : Key) = Sum.inr b := fun q => e (Sum.inr.inj q)
    rw [decide_eq_false h, decide_eq_false e]
theorem key_lr (a : Int) (b : Str) : decide ((Sum.inl a : Key) = Sum.inr b) = false := decide_eq_false (fun q => nomatch q)
theorem key_rl (a : Str) (b : Int) : decide ((Sum.inr a : Key) = Sum.inl b) = false := decide_eq_false (fun q => nomatch q)

def mixKind (prog : Program) (w : World) : PySem.KeyKind prog w Key where
  is := keyIs
  hash := keyH w
  inj := fun v a b ha hb => by
    rcases keyIs_shape ha with ⟨i, t, rfl, rfl⟩ | ⟨x, t, rfl, rfl⟩
    · rcases keyIs_shape hb with ⟨j, u, rfl, e⟩ | ⟨y, u, rfl, e⟩
      · injection e with e1 _; rw [e1]
      · exact nomatch e
    · rcases keyIs_shape hb with ⟨j, u, rfl, e⟩ | ⟨y, u, rfl, e⟩
      · exact nomatch e
      · injection e with e1 _; rw [e1]
  byValue := fun k v h => by
    rcases keyIs_shape h with ⟨i, t, rfl, rfl⟩ | ⟨x, t, rfl, rfl⟩ <;> rfl
  pyHash := fun hv h => by
    rcases keyIs_shape hv with ⟨i, t, rfl, rfl⟩ | ⟨x, t, rfl, rfl⟩
    · exact wpAny_pyHash_int h
    · exact wpAny_pyHash_str h
  eqBool := fun hu hv h => by
    rcases keyIs_shape hu with ⟨i, t, rfl, rfl⟩ | ⟨x, t, rfl, rfl⟩
    · rcases keyIs_shape hv with ⟨j, u, rfl, rfl⟩ | ⟨y, u, rfl, rfl⟩
      · rw [key_ll] at h; exact wpAny_eqBool_int h
      · rw [key_lr] at h; exact SeqAt.EqAt.int_str i t y u _ _ _ _ h
    · rcases keyIs_shape hv with ⟨j, u, rfl, rfl⟩ | ⟨y, u, rfl, rfl⟩
      · rw [key_rl] at h; exact SeqAt.EqAt.str_int x t j u _ _ _ _ h
      · rw [key_rr] at h; exact wpAny_eqBool_str h
  «strs» := fun k x t v h => by
    rcases keyIs_shape h with ⟨i, u, rfl, e⟩ | ⟨y, u, rfl, e⟩
    · exact nomatch e
    · injection e with e1 _
      subst e1
      cases v <;> rfl

end L2

namespace L2
open PySem PySem.Spec PyProof.Rows

/-- a value, without the heap -/
inductive V where
  | non | bl (b : Bool) | int (i : Int) | str (x : Str) | byt (b : Array UInt8) | flt (b : UInt64) | ref (a : Addr) | ty (n : String)
  deriving DecidableEq

def RelV : V → Value → Prop
  | .non, u => u = Value.none
  | .bl b, u => u = Value.bool b
  | .int i, u => ∃ t, u = Value.int i t
  | .str x, u => ∃ t, u = Value.str x t
  | .byt b, u => ∃ t, u = Value.bytes b t
  | .flt b, u => ∃ t, u = Value.float b t
  | .ref a, u => u = Value.ref a
  | .ty n, u => u = Value.type n

abbrev Vals : List V → List Value → Prop := Paired RelV
theorem Vals.length {xs : List V} {us : List Value} (r : Vals xs us) : xs.length = us.length := Paired.length r
theorem Vals.get : ∀ {xs : List V} {us : List Value} {i : Nat} {x : V}, Vals xs us → xs[i]? = some x → ∃ u, us[i]? = some u ∧ RelV x u
  | _, _, _, _, .nil, e => by simp at e
  | _, _, 0, _, .cons r _, e => by simp at e; subst e; exact ⟨_, rfl, r⟩
  | _, _, i + 1, x, .cons _ t, e => by
    obtain ⟨u, h1, h2⟩ := Vals.get (i := i) (x := x) t (by simpa using e)
    exact ⟨u, by simpa using h1, h2⟩
theorem Vals.set {x : V} {u : Value} (r : RelV x u) : ∀ {xs : List V} {us : List Value} (i : Nat), Vals xs us → Vals (xs.set i x) (us.set i u)
  | _, _, _, .nil => .nil
  | _, _, 0, .cons _ t => .cons r t
  | _, _, i + 1, .cons q t => .cons q (Vals.set r i t)
theorem Vals.append : ∀ {xs ys : List V} {us ws : List Value}, Vals xs us → Vals ys ws → Vals (xs ++ ys) (us ++ ws)
  | _, _, _, _, .nil, s => s
  | _, _, _, _, .cons r t, s => .cons r (Vals.append t s)
theorem Vals.take : ∀ {xs : List V} {us : List Value} (n : Nat), Vals xs us → Vals (xs.take n) (us.take n)
  | _, _, 0, _ => .nil
  | _, _, _ + 1, .nil => .nil
  | _, _, n + 1, .cons r t => .cons r (Vals.take n t)
theorem Vals.drop : ∀ {xs : List V} {us : List Value} (n : Nat), Vals xs us → Vals (xs.drop n) (us.drop n)
  | _, _, 0, r => r
  | _, _, _ + 1, .nil => .nil
  | _, _, n + 1, .cons _ t => Vals.drop n t
def RelO : Option V → Option Value → Prop
  | some v, some u => RelV v u
  | none, none => True
  | _, _ => False
def KV {κ : Type} : List (κ × V) → List (κ × Value) → Prop := Paired fun (p : κ × V) (q : κ × Value) => p.1 = q.1 ∧ RelV p.2 q.2

/-- a key of a dict (00_mix): an int or a text -/
def kV : Key → V
  | .inl i => .int i
  | .inr x => .str x

/-- what stands at a tracked address -/
inductive HO where
  /-- a list -/
  | lst (xs : List V)
  /-- a tuple (never changes) -/
  | tup (xs : List V)
  /-- a dict whose keys are ints and texts; one whose keys are tuples of ints and texts (the empty one is both) -/
  | dK (kvs : List (Key × V)) | dT (kvs : List (List Key × V))
  /-- a set of ints: its members, its size -/
  | set (S : Int → Bool) (n : Nat)
  /-- an instance of the class at C, its dict at dx, its attributes -/
  | ins (C dx : Addr) (fs : List (Str × V))
  /-- the dict of the instance at x -/
  | own (x : Addr)
  /-- the dict of an exception -/
  | xd (fs : List (Str × V))
  /-- a bound method, f of x -/
  | met (f x : Addr)
  /-- a range object lo, lo + 1, .. below hi -/
  | rng (lo hi : Int)
  /-- a thing that is known to the object (the script; a dict while a loop walks it): read, never written while it is so -/
  | frz (o : Obj) (u : HO)
  /-- a code object's table -/
  | tbl (ps : Array Value)
  /-- any other thing, by what is true of its one object (a def of one's own: SetO a S n := HO.ext fun h => ..) -/
  | ext (φ : Heap → Prop)

abbrev Hp := Addr → Option HO
def upd (H : Hp) (a : Addr) (o : HO) : Hp := fun b => if b = a then some o else H b
theorem upd_same {H : Hp} {a : Addr} {o : HO} : upd H a o a = some o := by unfold upd; rw [if_pos rfl]
theorem upd_ne {H : Hp} {a b : Addr} {o : HO} (h : b ≠ a) : upd H a o b = H b := by unfold upd; rw [if_neg h]
theorem upd_upd {H : Hp} {a : Addr} {o u : HO} : upd (upd H a o) a u = upd H a u := by
  funext b; unfold upd; split <;> rfl
/-- two objects of different content stand apart -/
theorem ne_of {H : Hp} {a b : Addr} {o u : HO} (h : H a = some o) (h' : H b = some u) (d : o ≠ u) : a ≠ b := by
  intro e; subst e; rw [h] at h'; exact d (Option.some.inj h')
theorem ne_of_none {H : Hp} {a b : Addr} {o : HO} (h : H a = some o) (h' : H b = none) : a ≠ b := by
  intro e; subst e; rw [h] at h'; cases h'

section
variable (P : Program) (w : World)
def ObjOk (H : Hp) (h : Heap) (a : Addr) : HO → Prop
  | .lst xs => xs.length ≤ sizeLine ∧ ∃ (its : List Value) (n : Nat), Vals xs its ∧ h.get? a = some { cls := .type "list", data := .seq its.toArray n }
  | .tup xs => xs.length ≤ sizeLine ∧ ∃ its : List Value, Vals xs its ∧ IsTup h a its.toArray
  | .dK kvs => kvs.length ≤ sizeLine ∧ (a == sysModules) = false ∧ ∃ vs, KV kvs vs ∧ h.DictOf (mixKind P w) a vs
  | .dT kvs => kvs.length ≤ sizeLine ∧ (a == sysModules) = false ∧ ∃ xs : List (List Key × Addr × Value),
      Paired (fun (p : List Key × V) (q : List Key × Addr × Value) => p.1 = q.1 ∧ H q.2.1 = some (.tup (p.1.map kV)) ∧ RelV p.2 q.2.2) kvs xs ∧
      ∃ o es ep, h.get? a = some o ∧ o.ExactDict ∧ o.data = .dict es ep ∧ es.toList = xs.map (entryOfKey (tupleKind (mixKind P w))) ∧ (xs.map (·.1)).Nodup
  | .set S n => h.SetOf (intKind P w) a S n
  | .ins C dx fs => H dx = some (.own a) ∧ fs.length ≤ 1000 ∧ dx ≠ a ∧ h.get? a = some (PySem.W.instObj C dx) ∧
      ∃ mA, h.Ns1 dx mA ∧ (∀ f, RelO (fs.lookup f) (mA f)) ∧ PySem.Within mA (fs.map (·.1))
  | .own _ => ∃ o, h.get? a = some o
  | .xd fs => ∃ mA, h.Ns1 a mA ∧ ∀ f, RelO (fs.lookup f) (mA f)
  | .rng lo hi => ∃ t u v, h.get? a = some { cls := .type "range", data := .fields #[.int lo t, .int hi u, .int 1 v] }
  | .frz o u => h.get? a = some o ∧ ObjOk H h a u
  | .tbl ps => h.get? a = some { cls := .none, data := .fields ps }
  | .met f x => h.get? a = some (PySem.W.methodObj (.ref f) (.ref x))
  | .ext φ => φ h ∧ (∃ o, h.get? a = some o) ∧ ∀ h1 h2 : Heap, φ h1 → (∀ o, h1.get? a = some o → h2.get? a = some o) → φ h2
/-- the abstract heap is held -/
def HOk (H : Hp) (h : Heap) : Prop := ∀ a o, H a = some o → ObjOk P w H h a o
end

section
variable {P : Program} {w : World} {H H' : Hp} {h h' : Heap} {a : Addr} {o : HO}
theorem ObjOk.lt (x : ObjOk P w H h a o) : a < h.objs.size := by
  cases o with
  | lst xs => obtain ⟨_, _, _, _, e⟩ := x; exact Heap.lt_size e
  | tup xs => obtain ⟨_, _, _, p⟩ := x; exact p.lt
  | dK kvs => obtain ⟨_, _, _, _, o, _, _, e, _⟩ := x; exact Heap.lt_size e
  | dT kvs => obtain ⟨_, _, _, _, o, _, _, e, _⟩ := x; exact Heap.lt_size e
  | set S n => obtain ⟨o, _, _, _, e, _⟩ := x; exact Heap.lt_size e
  | ins C dx fs => obtain ⟨_, _, _, e, _⟩ := x; exact Heap.lt_size e
  | own y => obtain ⟨_, e⟩ := x; exact Heap.lt_size e
  | xd fs => obtain ⟨_, ⟨_, _, _, e, _⟩, _⟩ := x; exact Heap.lt_size e
  | rng lo hi => obtain ⟨_, _, _, e⟩ := x; exact Heap.lt_size e
  | frz ob u => obtain ⟨e, _⟩ := x; exact Heap.lt_size e
  | tbl ps => exact Heap.lt_size (show h.get? a = some _ from x)
  | met f y => exact Heap.lt_size (show h.get? a = some _ from x)
  | ext φ => obtain ⟨_, ⟨_, e⟩, _⟩ := x; exact Heap.lt_size e
theorem Paired.mapP {α β : Type} {F G : α → β → Prop} : ∀ {l₁ : List α} {l₂ : List β}, Paired F l₁ l₂ → (∀ a b, F a b → G a b) → Paired G l₁ l₂
  | _, _, .nil, _ => .nil
  | _, _, .cons r t, f => .cons (f _ _ r) (Paired.mapP t f)
/-- what an object's description leans on: its own object, its own dict, the tuples -/
theorem ObjOk.stay (x : ObjOk P w H h a o) (k : ∀ b u, (b = a ∨ H b = some (.own a)) → h.get? b = some u → h'.get? b = some u)
    (ho : ∀ b, H b = some (.own a) → H' b = some (.own a)) (ht : ∀ b xs, H b = some (.tup xs) → H' b = some (.tup xs)) : ObjOk P w H' h' a o := by
  induction o with
  | lst xs => obtain ⟨z, its, n, r, e⟩ := x; exact ⟨z, its, n, r, k _ _ (.inl rfl) e⟩
  | tup xs => obtain ⟨z, its, r, ob, e, c⟩ := x; exact ⟨z, its, r, ob, k _ _ (.inl rfl) e, c⟩
  | dK kvs => obtain ⟨z, y, vs, r, ob, es, ep, e, c⟩ := x; exact ⟨z, y, vs, r, ob, es, ep, k _ _ (.inl rfl) e, c⟩
  | dT kvs =>
    obtain ⟨z, y, xs, r, ob, es, ep, e, c⟩ := x
    exact ⟨z, y, xs, Paired.mapP r fun p q z => ⟨z.1, ht _ _ z.2.1, z.2.2⟩, ob, es, ep, k _ _ (.inl rfl) e, c⟩
  | set S n => obtain ⟨ob, es, ep, t, e, c⟩ := x; exact ⟨ob, es, ep, t, k _ _ (.inl rfl) e, c⟩
  | ins C dx fs =>
    obtain ⟨d, z, ne, e, mA, ⟨od, es, ep, e2, c⟩, r⟩ := x
    exact ⟨ho _ d, z, ne, k _ _ (.inl rfl) e, mA, ⟨od, es, ep, k _ _ (.inr d) e2, c⟩, r⟩
  | own y => obtain ⟨ob, e⟩ := x; exact ⟨ob, k _ _ (.inl rfl) e⟩
  | xd fs => obtain ⟨mA, ⟨od, es, ep, e, c⟩, r⟩ := x; exact ⟨mA, ⟨od, es, ep, k _ _ (.inl rfl) e, c⟩, r⟩
  | rng lo hi => obtain ⟨t, u, v, e⟩ := x; exact ⟨t, u, v, k _ _ (.inl rfl) e⟩
  | frz ob u ih => obtain ⟨e, q⟩ := x; exact ⟨k _ _ (.inl rfl) e, ih q⟩
  | tbl ps =>
    have e : h.get? a = some { cls := .none, data := .fields ps } := x
    show h'.get? a = some { cls := .none, data := .fields ps }
    exact k a _ (.inl rfl) e
  | met f y =>
    have e : h.get? a = some (PySem.W.methodObj (.ref f) (.ref y)) := x
    show h'.get? a = some (PySem.W.methodObj (.ref f) (.ref y))
    exact k a _ (.inl rfl) e
  | ext φ => obtain ⟨p, ⟨o, e⟩, st⟩ := x; exact ⟨st _ _ p fun o q => k _ _ (.inl rfl) q, ⟨o, k _ _ (.inl rfl) e⟩, st⟩
theorem HOk.lt (x : HOk P w H h) (e : H a = some o) : a < h.objs.size := (x a o e).lt
theorem HOk.fresh (x : HOk P w H h) (e : h.objs.size ≤ a) : H a = none := by
  cases q : H a with
  | none => rfl
  | some u => exact absurd (Nat.lt_of_lt_of_le (x.lt q) e) (Nat.lt_irrefl _)
/-- every object of the heap is kept -/
theorem HOk.kept (x : HOk P w H h) (k : ∀ b u, h.get? b = some u → h'.get? b = some u) : HOk P w H h' := fun a o e =>
  (x a o e).stay (fun b u _ q => k b u q) (fun _ q => q) fun _ _ q => q
/-- a new object is laid and tracked -/
theorem HOk.laid (x : HOk P w H h) (k : ∀ b u, h.get? b = some u → h'.get? b = some u) (hp : h.objs.size ≤ a) (new : ObjOk P w (upd H a o) h' a o) : HOk P w (upd H a o) h' := fun b u e => by
  have hn := x.fresh hp
  by_cases hb : b = a
  · subst hb; rw [upd_same] at e; cases e; exact new
  · rw [upd_ne hb] at e
    exact (x b u e).stay (fun c v _ q => k c v q) (fun c q => by rw [upd_ne (ne_of_none q hn)]; exact q) fun c xs q => by rw [upd_ne (ne_of_none q hn)]; exact q
end

/-- what may be read as u: it is u, or a known u -/
def Rd (H : Hp) (a : Addr) (u : HO) : Prop := H a = some u ∨ ∃ o, H a = some (.frz o u)
theorem Rd.ok {P : Program} {w : World} {H : Hp} {h : Heap} {a : Addr} {u : HO} (r : Rd H a u) (x : HOk P w H h) : ObjOk P w H h a u := by
  rcases r with r | ⟨o, r⟩
  · exact x a u r
  · obtain ⟨_, q⟩ := x a _ r
    exact q
/-- what may be written -/
def Mut : Option HO → Prop
  | some (.lst _) => True
  | some (.dK _) => True
  | some (.dT _) => True
  | some (.set _ _) => True
  | some (.ins _ _ _) => True
  | some (.ext _) => True
  | _ => False
section
variable {P : Program} {w : World} {H : Hp} {h h' : Heap} {x e : Addr} {o' : HO}
/-- the object at e is changed: x itself, or the dict of the instance x -/
theorem HOk.write (ok : HOk P w H h) (mu : Mut (H x)) (he : e = x ∨ H e = some (.own x)) (k : ∀ b u, b ≠ e → h.get? b = some u → h'.get? b = some u) (heo : ∃ u, h'.get? e = some u)
    (new : ObjOk P w (upd H x o') h' x o') : HOk P w (upd H x o') h' := fun b u q => by
  have nown : ∀ c y, H c = some (.own y) → c ≠ x := fun c y r z => by subst z; rw [r] at mu; exact mu
  have ntup : ∀ c xs, H c = some (.tup xs) → c ≠ x := fun c xs r z => by subst z; rw [r] at mu; exact mu
  by_cases hb : b = x
  · subst hb; rw [upd_same] at q; cases q; exact new
  · rw [upd_ne hb] at q
    by_cases hbe : b = e
    · have q' : H b = some (.own x) := by
        rcases he with z | z
        · exact absurd (hbe.trans z) hb
        · rw [hbe]; exact z
      rw [q] at q'; cases q'
      obtain ⟨v, hv⟩ := heo
      exact ⟨v, by rw [hbe]; exact hv⟩
    · refine (ok b u q).stay (fun c v hc r => k c v ?_ r) (fun c r => by rw [upd_ne (nown c b r)]; exact r) fun c xs r => by rw [upd_ne (ntup c xs r)]; exact r
      rcases hc with rfl | hc
      · exact hbe
      · rintro rfl
        rcases he with z | z
        · exact nown c b hc z
        · rw [hc] at z; cases z; exact hb rfl
end

structure Un (fs ex : List Addr) (H H' : Hp) (h h' : Heap) : Prop where
  keep : ∀ b o, h.get? b = some o → H b = none → b ∉ fs → b ∉ ex → h'.get? b = some o
  slot : ∀ b o, h.get? b = some o → H b = none → b ∈ fs → b ∉ ex → ∃ sl, h'.get? b = some { o with slots := sl }
  free : ∀ b o, h.get? b = some o → H b = none → b ∉ ex → H' b = none
  there : ∀ b o, h.get? b = some o → b ∉ ex → ∃ o', h'.get? b = some o'
  tups : ∀ b xs, H b = some (.tup xs) → H' b = some (.tup xs)
  frzs : ∀ b o u, H b = some (.frz o u) → H' b = some (.frz o u)
  tbls : ∀ b ps, H b = some (.tbl ps) → ∃ more, H' b = some (.tbl (ps ++ more))
section
variable {fs fs' ex ex' : List Addr} {H H1 H2 : Hp} {h h1 h2 h' : Heap} {a x e : Addr} {o : HO}
theorem Un.any (u : Un fs ex H H1 h h1) {b : Addr} {ob : Obj} (q : h.get? b = some ob) (n : H b = none) (hx : b ∉ ex) : ∃ sl, h1.get? b = some { ob with slots := sl } := by
  by_cases hb : b ∈ fs
  · exact u.slot b ob q n hb hx
  · exact ⟨ob.slots, u.keep b ob q n hb hx⟩
theorem Un.kept (k : ∀ b u, h.get? b = some u → h'.get? b = some u) : Un fs ex H H h h' :=
  ⟨fun b ob q _ _ _ => k b ob q, fun b ob q _ _ _ => ⟨ob.slots, k b ob q⟩, fun _ _ _ n _ => n, fun b ob q _ => ⟨ob, k b ob q⟩, fun _ _ q => q, fun _ _ _ q => q, fun _ ps q => ⟨#[], by rw [q]; simp⟩⟩
theorem Un.refl : Un fs ex H H h h := Un.kept fun _ _ q => q
theorem Un.laid (k : ∀ b u, h.get? b = some u → h'.get? b = some u) (hp : h.objs.size ≤ a) (hn : H a = none) : Un fs ex H (upd H a o) h h' where
  keep := fun b u q _ _ _ => k b u q
  slot := fun b u q _ _ _ => ⟨u.slots, k b u q⟩
  free := fun b u q n _ => by rw [upd_ne (Nat.ne_of_lt (Nat.lt_of_lt_of_le (Heap.lt_size q) hp))]; exact n
  there := fun b u q _ => ⟨u, k b u q⟩
  tups := fun b xs q => by rw [upd_ne (ne_of_none q hn)]; exact q
  frzs := fun b u xs q => by rw [upd_ne (ne_of_none q hn)]; exact q
  tbls := fun b ps q => ⟨#[], by rw [upd_ne (ne_of_none q hn), q]; simp⟩
theorem Un.write (mu : Mut (H x)) (he : e = x ∨ H e = some (.own x)) (k : ∀ b u, b ≠ e → h.get? b = some u → h'.get? b = some u) (heo : ∃ u, h'.get? e = some u) : Un fs ex H (upd H x o) h h' := by
  have hx : ∀ b, H b = none → b ≠ x := fun b n z => by subst z; rw [n] at mu; exact mu
  have hb : ∀ b, H b = none → b ≠ e := fun b n z => by
    subst z
    rcases he with r | r
    · exact hx b n r
    · rw [n] at r; cases r
  have hm : ∀ b u, H b = some u → ¬ Mut (some u) → b ≠ x := fun b u q nm z => by subst z; rw [q] at mu; exact nm mu
  refine ⟨fun b u q n _ _ => k b u (hb b n) q, fun b u q n _ _ => ⟨u.slots, k b u (hb b n) q⟩, fun b u q n _ => by rw [upd_ne (hx b n)]; exact n, fun b u q _ => ?_,
    fun b xs q => by rw [upd_ne (hm b _ q fun z => z)]; exact q, fun b u xs q => by rw [upd_ne (hm b _ q fun z => z)]; exact q, fun b ps q => ⟨#[], by rw [upd_ne (hm b _ q fun z => z), q]; simp⟩⟩
  by_cases hbe : b = e
  · subst hbe; exact heo
  · exact ⟨u, k b u hbe q⟩
end

def trk (h : Heap) (H : Hp) : List Addr := (List.range h.objs.size).filter fun a => (H a).isSome
def hidT (h : Heap) (H : Hp) : Heap := PySem.W.hideAll h (trk h H)
theorem hidT_size (h : Heap) (H : Hp) : (hidT h H).objs.size = h.objs.size := PySem.W.hideAll_size _ _
theorem hidT_get {h : Heap} {H : Hp} {b : Addr} {o : Obj} (e : h.get? b = some o) (n : H b = none) : (hidT h H).get? b = some o :=
  PySem.W.hideAll_get _ e fun hm => by
    have q : (H b).isSome = true := (List.mem_filter.mp hm).2
    rw [n] at q; simp at q
theorem of_hidT {h : Heap} {H : Hp} {b : Addr} {o : Obj} (e : (hidT h H).get? b = some o) : h.get? b = some o ∧ H b = none := by
  have e' : h.get? b = some o := PySem.W.of_hideAll (trk h H) e
  refine ⟨e', ?_⟩
  cases q : H b with
  | none => rfl
  | some x =>
    have hm : b ∈ trk h H := List.mem_filter.mpr ⟨List.mem_range.mpr (Heap.lt_size e'), by simp [q]⟩
    have z : (hidT h H).get? b = none := PySem.W.hideAll_none (trk h H) hm
    rw [z] at e; cases e

end L2

namespace L2
open PySem PySem.Spec PyProof.Rows

/-- the module's facts, over the base: the heap at the law's entry without what is tracked there -/
structure Mod (K : PySem.W.Frag) (mg : Str → Option Value) (base : Heap) : Prop where
  kin : K.In base
  glob : base.Ns mainGlobals mg
  blt : ∃ mb, base.Ns builtinsNs mb ∧ ∀ x : Str, x ≠ "__name__" → mb x = bootBuiltins x
  nolimit : base.NoLimit

/-- the context: a def's body (or a comprehension's block) running. base: fixed through the whole law; s₀, H₀: the entry; outer: the frames whose slots others may change (a def's callers); stack: all frames that run;
   ex: iterators that were made ahead of the entry and are walked here (a comprehension's); fn: the names whose cells were made at the entry (a def: all; a comprehension's block: its own); calm: not within an except suite; pn: pins that every state bears; xe: what is wanted of an exception that leaves the code -/
structure Cx where
  prog : Program
  w : World
  K : PySem.W.Frag
  mg : Str → Option Value
  base : Heap
  A : Around
  N : List Str
  s₀ : Shared
  H₀ : Hp
  env : Env
  outer : List Env
  stack : List Env
  ex : List Addr
  fn : Str → Bool
  calm : Bool
  pn : List (Addr × Obj)
  xe : Value → Shared → Prop
/-- the callers' frames -/
def frs (l : List Env) : List Addr := l.filterMap (·.frame)
abbrev Cx.fs (X : Cx) : List Addr := frs X.outer

def Vis (sc : Scope) (x : Str) : Prop := sc.names.lookup x = some .local ∨ sc.names.lookup x = some .cell ∨ sc.names.lookup x = some .free
def Loc (sc : Scope) (x : Str) : Prop := sc.names.lookup x = some .local ∨ sc.names.lookup x = some .cell
def Look (env : Env) (h : Heap) (m : Str → Option Value) (x : Str) (u : Value) : Prop :=
  (env.kindOf x = some .local ∧ m x = some u) ∨ ((env.kindOf x = some .cell ∨ env.kindOf x = some .free) ∧ ∃ c, env.cells.lookup x = some c ∧ h.IsCell c (some u))

structure Cx.Ok (X : Cx) : Prop where
  mod : Mod X.K X.mg X.base
  kind : X.env.scope.kind = .function
  glob : X.env.globals = mainGlobals
  blt : X.env.builtins = builtinsNs
  above : X.s₀.heap.objs.size ≤ X.env.locals
  inj : ∀ x y c, X.env.cells.lookup x = some c → X.env.cells.lookup y = some c → x = y
  has : ∀ x, (X.env.kindOf x = some .cell ∨ X.env.kindOf x = some .free) → ∃ c, X.env.cells.lookup x = some c
  cab : ∀ x c, X.fn x = true → X.env.cells.lookup x = some c → X.s₀.heap.objs.size ≤ c
  hd : X.calm = true → X.A.handled = none
  frames : X.A.frames = some X.stack
  stk : X.stack = X.outer ∨ (X.stack = X.env :: X.outer ∧ X.env.frame = some X.env.locals)
  exf : ∀ b ∈ X.ex, b ≠ X.env.locals ∧ ∀ x c, X.env.cells.lookup x = some c → c ≠ b
  bs : ∀ b o, X.base.get? b = some o → X.s₀.heap.get? b = some o ∧ X.H₀ b = none
  bsz : X.base.objs.size ≤ X.s₀.heap.objs.size
  noex : ∀ b o, X.base.get? b = some o → b ∉ X.ex
  exfs : ∀ b ∈ X.ex, b ∉ X.fs
  funs : X.s₀.heap.FunFrames X.base X.outer
  frf : ∀ b ∈ X.fs, X.H₀ b = none

structure Inv (X : Cx) (pins : List (Addr × Obj)) (σ : List (Option V)) (H : Hp) (s : Shared) : Prop where
  ok : X.Ok
  os : s.os = X.s₀.os
  bare : AllBare s.gens
  base : Un X.fs X.ex X.H₀ H X.s₀.heap s.heap
  loc : ∃ m, s.heap.Ns X.env.locals m ∧ ∀ (i : Nat) (x : Str) (v : V), X.N[i]? = some x → σ[i]? = some (some v) → Vis X.env.scope x → ∃ u, RelV v u ∧ Look X.env s.heap m x u
  cell : ∀ x c, X.env.cells.lookup x = some c → ∃ v, s.heap.IsCell c v
  free : H X.env.locals = none
  freeC : ∀ x c, X.env.cells.lookup x = some c → H c = none
  pin : ∀ p ∈ X.pn ++ pins, s.heap.get? p.1 = some p.2 ∧ H p.1 = none ∧ p.1 ≠ X.env.locals ∧ p.1 ∉ X.fs ∧ ∀ v, p.2.data ≠ .cell v
  hok : HOk X.prog X.w H s.heap
  len : σ.length = X.N.length

section
variable {X : Cx} {pins : List (Addr × Obj)} {σ : List (Option V)} {H H' : Hp} {s : Shared} {h' : Heap}

theorem Cx.Ok.nofr (ok : X.Ok) {b : Addr} {o : Obj} (e : X.base.get? b = some o) : b ∉ X.fs := fun hb => by
  have := (ok.funs.mem hb).1
  rw [e] at this; cases this
theorem Inv.bs (I : Inv X pins σ H s) : ∀ b o, X.base.get? b = some o → s.heap.get? b = some o ∧ H b = none := fun b o e =>
  ⟨I.base.keep b o (I.ok.bs b o e).1 (I.ok.bs b o e).2 (I.ok.nofr e) (I.ok.noex b o e), I.base.free b o (I.ok.bs b o e).1 (I.ok.bs b o e).2 (I.ok.noex b o e)⟩
theorem Inv.bk (I : Inv X pins σ H s) : ∀ b o, X.base.get? b = some o → s.heap.get? b = some o := fun b o e => (I.bs b o e).1
theorem Inv.mod (I : Inv X pins σ H s) : Mod X.K X.mg X.base := I.ok.mod
theorem Inv.kIn (I : Inv X pins σ H s) : X.K.In s.heap := I.ok.mod.kin.keeps I.bk
/-- the frame over the base: for OpenK's rules (K.In X.base is I.mod.kin) -/
theorem Inv.fr (I : Inv X pins σ H s) : ∃ m, Fr X.base X.env.locals s.heap m :=
  let ⟨m, hn, _⟩ := I.loc
  ⟨m, hn, I.bk, Nat.le_trans I.ok.bsz I.ok.above⟩
theorem Inv.lt (I : Inv X pins σ H s) : X.env.locals < s.heap.objs.size := let ⟨_, hn, _⟩ := I.loc; hn.lt
theorem Inv.sz (I : Inv X pins σ H s) : X.s₀.heap.objs.size ≤ s.heap.objs.size := Nat.le_trans I.ok.above (Nat.le_of_lt I.lt)
theorem Inv.nofs (I : Inv X pins σ H s) {a : Addr} (h : s.heap.objs.size ≤ a) : a ∉ X.fs := fun hb => by
  obtain ⟨_, o, ho, _⟩ := I.ok.funs.mem hb
  exact absurd (Nat.lt_of_lt_of_le (Heap.lt_size ho) (Nat.le_trans I.sz h)) (Nat.lt_irrefl _)
theorem Inv.cne (I : Inv X pins σ H s) : ∀ x c, X.env.cells.lookup x = some c → c ≠ X.env.locals := fun x c e z => by
  obtain ⟨v, o, ho, hd⟩ := I.cell x c e
  obtain ⟨m, ⟨o', es, ep, ho', hd', _⟩, _⟩ := I.loc
  rw [z, ho'] at ho; cases ho; rw [hd'] at hd; cases hd
theorem Inv.funs (I : Inv X pins σ H s) : s.heap.FunFrames X.base X.outer := by
  have all : ∀ (l : List Env), (∀ b ∈ frs l, b ∈ X.fs) → X.s₀.heap.FunFrames X.base l → s.heap.FunFrames X.base l := by
    intro l
    induction l with
    | nil => intro _ _; trivial
    | cons env r ih =>
      intro hs hl
      obtain ⟨hk, ⟨L, o, hf, hn, ho, hd⟩, hr⟩ := hl
      have hL : L ∈ X.fs := hs L (by unfold frs; rw [List.filterMap_cons, hf]; exact List.mem_cons_self)
      obtain ⟨sl, e⟩ := I.base.slot L o ho (I.ok.frf L hL) hL fun z => I.ok.exfs L z hL
      exact ⟨hk, ⟨L, _, hf, hn, e, hd⟩, ih (fun b hb => hs b (by unfold frs; rw [List.filterMap_cons, hf]; exact List.mem_cons_of_mem _ hb)) hr⟩
  exact all X.outer (fun _ hb => hb) I.ok.funs

/-- the frames that run, for a call -/
theorem Inv.stack (I : Inv X pins σ H s) : s.heap.FunFrames X.base X.stack := by
  rcases I.ok.stk with e | ⟨e, hf⟩
  · rw [e]; exact I.funs
  · rw [e]
    obtain ⟨m, hn, _⟩ := I.loc
    refine .cons (by rw [I.ok.kind]; decide) hf hn ?_ I.funs
    exact Heap.get?_none_of_le (Nat.le_trans I.ok.bsz I.ok.above)
theorem Inv.stkSub (I : Inv X pins σ H s) : ∀ b ∈ frs X.stack, b ∈ X.env.locals :: X.fs := fun b hb => by
  rcases I.ok.stk with e | ⟨e, hf⟩
  · rw [e] at hb; exact List.mem_cons_of_mem _ hb
  · rw [e] at hb
    unfold frs at hb
    rw [List.filterMap_cons, hf] at hb
    exact hb
theorem Inv.stkFree (I : Inv X pins σ H s) : ∀ b ∈ frs X.stack, H b = none := fun b hb => by
  rcases List.mem_cons.mp (I.stkSub b hb) with e | hb
  · rw [e]; exact I.free
  · obtain ⟨_, o, ho, _⟩ := I.ok.funs.mem hb
    exact I.base.free b o ho (I.ok.frf b hb) fun z => I.ok.exfs b z hb

/-- THE STEP: the untracked objects but the frame and the records at ch are kept (the callers' frames up to slots), the frame's map is kept, the new abstract heap is held -/
theorem Inv.step {g' : Array GenState} {t' : Nat} {d' : Drawn} {ch : List Addr} (I : Inv X pins σ H s)
    (hch : ∀ b ∈ ch, (b ∈ X.ex ∨ X.s₀.heap.objs.size ≤ b) ∧ b ≠ X.env.locals ∧ (∀ x c, X.env.cells.lookup x = some c → c ≠ b) ∧ ∀ p ∈ X.pn ++ pins, p.1 ≠ b)
    (keep : ∀ b o, b ≠ X.env.locals → b ∉ X.fs → b ∉ ch → s.heap.get? b = some o → H b = none → h'.get? b = some o)
    (slot : ∀ b o, b ≠ X.env.locals → b ∈ X.fs → b ∉ ch → s.heap.get? b = some o → H b = none → ∃ sl, h'.get? b = some { o with slots := sl }) (free : ∀ b o, b ∉ ch → s.heap.get? b = some o → H b = none → H' b = none)
    (there : ∀ b o, b ∉ ch → s.heap.get? b = some o → ∃ o', h'.get? b = some o')
    (tups : ∀ b xs, H b = some (.tup xs) → H' b = some (.tup xs)) (frzs : ∀ b o u, H b = some (.frz o u) → H' b = some (.frz o u)) (tbls : ∀ b ps, H b = some (.tbl ps) → ∃ more, H' b = some (.tbl (ps ++ more)))
    (ns : ∀ m, s.heap.Ns X.env.locals m → h'.Ns X.env.locals m) (hok : HOk X.prog X.w H' h') (hg : AllBare g') :
    Inv X pins σ H' { s with heap := h', gens := g', drawn := d', toks := t' } := by
  have neL : ∀ b o, X.s₀.heap.get? b = some o → b ≠ X.env.locals := fun b o e => Nat.ne_of_lt (Nat.lt_of_lt_of_le (Heap.lt_size e) I.ok.above)
  have neC : ∀ b o, X.s₀.heap.get? b = some o → b ∉ X.ex → b ∉ ch := fun b o e hx hb => by
    rcases (hch b hb).1 with z | z
    · exact hx z
    · exact absurd (Nat.lt_of_lt_of_le (Heap.lt_size e) z) (Nat.lt_irrefl _)
  have cellK : ∀ x c, X.env.cells.lookup x = some c → ∀ v, s.heap.IsCell c v → h'.IsCell c v := fun x c e v ⟨o, ho, hd⟩ => by
    have nch : c ∉ ch := fun z => (hch c z).2.2.1 x c e rfl
    by_cases hc : c ∈ X.fs
    · obtain ⟨sl, q⟩ := slot c o (I.cne x c e) hc nch ho (I.freeC x c e)
      exact ⟨_, q, hd⟩
    · exact ⟨o, keep c o (I.cne x c e) hc nch ho (I.freeC x c e), hd⟩
  refine ⟨I.ok, I.os, hg, ⟨fun b o e n hb hx => ?_, fun b o e n hb hx => ?_, fun b o e n hx => ?_, fun b o e hx => ?_, fun b xs e => tups b xs (I.base.tups b xs e), fun b o xs e => frzs b o xs (I.base.frzs b o xs e), fun b ps e => ?_⟩, ?_, fun x c e => ?_, ?_, fun x c e => ?_, fun p hp => ?_, hok, I.len⟩
  · exact keep b o (neL b o e) hb (neC b o e hx) (I.base.keep b o e n hb hx) (I.base.free b o e n hx)
  · obtain ⟨sl, e1⟩ := I.base.slot b o e n hb hx
    obtain ⟨sl', e2⟩ := slot b _ (neL b o e) hb (neC b o e hx) e1 (I.base.free b o e n hx)
    exact ⟨sl', e2⟩
  · obtain ⟨o', e1⟩ := I.base.there b o e hx
    exact free b o' (neC b o e hx) e1 (I.base.free b o e n hx)
  · obtain ⟨o', e1⟩ := I.base.there b o e hx
    exact there b o' (neC b o e hx) e1
  · obtain ⟨m1, e1⟩ := I.base.tbls b ps e
    obtain ⟨m2, e2⟩ := tbls b _ e1
    exact ⟨m1 ++ m2, by rw [e2, Array.append_assoc]⟩
  · obtain ⟨m, hn, hl⟩ := I.loc
    refine ⟨m, ns m hn, fun i x v e1 e2 e3 => ?_⟩
    obtain ⟨u, r, l⟩ := hl i x v e1 e2 e3
    refine ⟨u, r, ?_⟩
    rcases l with l | ⟨k, c, e, z⟩
    · exact .inl l
    · exact .inr ⟨k, c, e, cellK x c e _ z⟩
  · obtain ⟨v, z⟩ := I.cell x c e
    exact ⟨v, cellK x c e v z⟩
  · obtain ⟨m, ⟨o, _, _, ho, _⟩, _⟩ := I.loc
    exact free _ o (fun z => (hch _ z).2.1 rfl) ho I.free
  · obtain ⟨v, o, ho, hd⟩ := I.cell x c e
    exact free c o (fun z => (hch c z).2.2.1 x c e rfl) ho (I.freeC x c e)
  · obtain ⟨e, n, ne, nf, d⟩ := I.pin p hp
    have nch : p.1 ∉ ch := fun z => (hch p.1 z).2.2.2 p hp rfl
    exact ⟨keep p.1 p.2 ne nf nch e n, free p.1 p.2 nch e n, ne, nf, d⟩
/-- .. where the frame's own object is kept too -/
theorem Inv.un {t' : Nat} (I : Inv X pins σ H s) (u : Un X.fs [] H H' s.heap h') (hok : HOk X.prog X.w H' h') : Inv X pins σ H' { s with heap := h', toks := t' } := by
  obtain ⟨m, ⟨o, es, ep, ho, r⟩, _⟩ := id I.loc
  obtain ⟨sl, hL⟩ := u.any ho I.free (by simp)
  exact I.step (g' := s.gens) (d' := s.drawn) (ch := []) (fun _ z => nomatch z) (fun b o _ hb _ e n => u.keep b o e n hb (by simp)) (fun b o _ hb _ e n => u.slot b o e n hb (by simp)) (fun b o _ e n => u.free b o e n (by simp)) (fun b o _ e => u.there b o e (by simp)) u.tups u.frzs u.tbls (fun m' hm => by
    obtain ⟨o', es', ep', ho', r'⟩ := hm
    rw [ho] at ho'; cases ho'
    exact ⟨_, es', ep', hL, r'⟩) hok I.bare
/-- behind a call (or a comprehension's block): the slots of this frame may have changed too, the records at ch may have turned -/
theorem Inv.call {g' : Array GenState} {t' : Nat} {d' : Drawn} {ch : List Addr} (I : Inv X pins σ H s) (u : Un (frs X.stack) ch H H' s.heap h') (hok : HOk X.prog X.w H' h') (hg : AllBare g')
    (hch : ∀ b ∈ ch, (b ∈ X.ex ∨ X.s₀.heap.objs.size ≤ b) ∧ b ≠ X.env.locals ∧ (∀ x c, X.env.cells.lookup x = some c → c ≠ b) ∧ ∀ p ∈ X.pn ++ pins, p.1 ≠ b) :
    Inv X pins σ H' { s with heap := h', gens := g', drawn := d', toks := t' } := by
  obtain ⟨m, ⟨o, es, ep, ho, r⟩, _⟩ := id I.loc
  obtain ⟨sl, hL⟩ := u.any ho I.free fun z => (hch _ z).2.1 rfl
  exact I.step (ch := ch) hch (fun b o hL hb hc e n => u.keep b o e n (fun z => (List.mem_cons.mp (I.stkSub b z)).elim hL hb) hc) (fun b o _ _ hc e n => u.any e n hc) (fun b o hc e n => u.free b o e n hc) (fun b o hc e => u.there b o e hc) u.tups u.frzs u.tbls (fun m' hm => by
    obtain ⟨o', es', ep', ho', r'⟩ := hm
    rw [ho] at ho'; cases ho'
    exact ⟨_, es', ep', hL, r'⟩) hok hg
/-- an untracked record of ours (an iterator) has turned -/
theorem Inv.turned {t' : Nat} {it : Addr} (I : Inv X pins σ H s) (k : ∀ b o, b ≠ it → s.heap.get? b = some o → h'.get? b = some o) (hn : H it = none) (hL : it ≠ X.env.locals)
    (h1 : it ∈ X.ex ∨ X.s₀.heap.objs.size ≤ it) (h2 : ∀ x c, X.env.cells.lookup x = some c → c ≠ it) (h3 : ∀ p ∈ X.pn ++ pins, p.1 ≠ it) : Inv X pins σ H { s with heap := h', toks := t' } := by
  have nit : ∀ b u, H b = some u → b ≠ it := fun b u e z => by rw [z, hn] at e; cases e
  refine I.step (g' := s.gens) (d' := s.drawn) (ch := [it]) (fun b hb => ?_) (fun b o _ _ hc e _ => k b o (fun z => hc (by simp [z])) e) (fun b o _ _ hc e _ => ⟨o.slots, k b o (fun z => hc (by simp [z])) e⟩) (fun _ _ _ _ n => n)
    (fun b o hc e => ⟨o, k b o (fun z => hc (by simp [z])) e⟩) (fun _ _ e => e) (fun _ _ _ e => e) (fun b ps e => ⟨#[], by rw [e]; simp⟩) (fun m hm => ?_) (fun b u e => ?_) I.bare
  · have e : b = it := by simpa using hb
    subst e
    exact ⟨h1, hL, h2, h3⟩
  · obtain ⟨o, es, ep, ho, r⟩ := hm
    exact ⟨o, es, ep, k _ o (Ne.symm hL) ho, r⟩
  · refine (I.hok b u e).stay (fun c v hc q => k c v ?_ q) (fun _ q => q) fun _ _ q => q
    rcases hc with z | z
    · rw [z]; exact nit b u e
    · exact nit c _ z
theorem Inv.tok (I : Inv X pins σ H s) (t : Nat) : Inv X pins σ H { s with toks := t } := I.un (h' := s.heap) (t' := t) Un.refl I.hok
/-- all objects kept -/
theorem Inv.kept {t' : Nat} (I : Inv X pins σ H s) (k : ∀ b u, s.heap.get? b = some u → h'.get? b = some u) : Inv X pins σ H { s with heap := h', toks := t' } := I.un (Un.kept k) (I.hok.kept k)
/-- a new object laid and tracked -/
theorem Inv.laid {a : Addr} {o : HO} {t' : Nat} (I : Inv X pins σ H s) (k : ∀ b u, s.heap.get? b = some u → h'.get? b = some u) (hp : s.heap.objs.size ≤ a) (new : ObjOk X.prog X.w (upd H a o) h' a o) :
    Inv X pins σ (upd H a o) { s with heap := h', toks := t' } := I.un (Un.laid k hp (I.hok.fresh hp)) (I.hok.laid k hp new)
/-- an object written -/
theorem Inv.write {x e : Addr} {o : HO} {t' : Nat} (I : Inv X pins σ H s) (mu : Mut (H x)) (he : e = x ∨ H e = some (.own x)) (k : ∀ b u, b ≠ e → s.heap.get? b = some u → h'.get? b = some u) (heo : ∃ u, h'.get? e = some u)
    (new : ObjOk X.prog X.w (upd H x o) h' x o) : Inv X pins σ (upd H x o) { s with heap := h', toks := t' } := I.un (Un.write mu he k heo) (I.hok.write mu he k heo new)
/-- forgetting slots, pins -/
theorem Inv.weak {σ' : List (Option V)} (I : Inv X pins σ H s) (hl : σ'.length = σ.length) (w : ∀ (i : Nat) v, σ'[i]? = some (some v) → σ[i]? = some (some v)) : Inv X pins σ' H s :=
  ⟨I.ok, I.os, I.bare, I.base, let ⟨m, hn, hl'⟩ := I.loc; ⟨m, hn, fun i x v e1 e2 e3 => hl' i x v e1 (w i v e2) e3⟩, I.cell, I.free, I.freeC, I.pin, I.hok, hl.trans I.len⟩
theorem Inv.pins_of {pins' : List (Addr × Obj)} (I : Inv X pins σ H s) (h : ∀ p ∈ pins', s.heap.get? p.1 = some p.2 ∧ H p.1 = none ∧ p.1 ≠ X.env.locals ∧ p.1 ∉ X.fs ∧ ∀ v, p.2.data ≠ .cell v) : Inv X pins' σ H s :=
  ⟨I.ok, I.os, I.bare, I.base, I.loc, I.cell, I.free, I.freeC, fun p hp => (List.mem_append.mp hp).elim (fun z => I.pin p (List.mem_append_left _ z)) (h p), I.hok, I.len⟩

theorem nodup_ix {N : List Str} (hN : N.Nodup) {i j : Nat} {x : Str} (a : N[i]? = some x) (b : N[j]? = some x) : i = j := by
  obtain ⟨h1, e1⟩ := List.getElem?_eq_some_iff.mp a
  obtain ⟨h2, e2⟩ := List.getElem?_eq_some_iff.mp b
  exact (List.getElem_inj hN).mp (e1.trans e2.symm)

/-- a name is stored; what changed -/
theorem store_ok2 {M : Model} {A : Around} {E : Value → Shared → Prop} {i : Nat} {x : Str} {v : V} {u : Value} {Q : Unit → Shared → Prop} (I : Inv X pins σ H s) (hN : X.N.Nodup) (hi : X.N[i]? = some x) (hx : Loc X.env.scope x) (r : RelV v u)
    (h : ∀ s', Inv X pins (σ.set i (some v)) H s' → (∃ a, Heap.SameBut a s.heap s'.heap ∧ (a = X.env.locals ∨ X.env.cells.lookup x = some a)) → Q () s') (hf : X.fn x = true ∨ X.env.scope.names.lookup x = some .local := by first | exact .inl rfl | exact .inr rfl | assumption) : wpAny M A (storeName X.env x u) Q E s := by
  obtain ⟨m, hn, hl⟩ := id I.loc
  have hcls : (X.env.scope.kind == .class || (X.env.scope.kind == .module && X.env.locals != X.env.globals)) = false := by rw [I.ok.kind]; rfl
  have hiσ : i < σ.length := by rw [I.len]; exact (List.getElem?_eq_some_iff.mp hi).1
  have cne := I.cne
  have tracked : ∀ {a : Addr} {h' : Heap}, (∃ o, s.heap.get? a = some o ∧ H a = none) → Heap.SameBut a s.heap h' → HOk X.prog X.w H h' := fun {a h'} ha hs b ob e => by
    obtain ⟨_, _, hfree⟩ := ha
    refine (I.hok b ob e).stay (fun c w' hc q => (hs.2 c ?_).trans q) (fun _ q => q) fun _ _ q => q
    rintro rfl
    rcases hc with rfl | hc
    · rw [hfree] at e; cases e
    · rw [hfree] at hc; cases hc
  rcases hx with hk | hk
  · refine wpAny_storeName_local hk hn (fun h' hn' hs => ?_) hcls
    obtain ⟨oL, _, _, hoL, _⟩ := id hn
    refine h _ ⟨I.ok, I.os, I.bare, ⟨fun b o e n hb hx => ?_, fun b o e n hb hx => ?_, I.base.free, fun b o e hx => ?_, I.base.tups, I.base.frzs, I.base.tbls⟩, ⟨_, hn', fun j y v' e1 e2 e3 => ?_⟩, fun y c e => ?_, I.free, I.freeC, fun p hp => ?_, tracked ⟨oL, hoL, I.free⟩ hs, by simpa using I.len⟩ ⟨_, hs, .inl rfl⟩
    · exact (hs.2 b (Nat.ne_of_lt (Nat.lt_of_lt_of_le (Heap.lt_size e) I.ok.above))).trans (I.base.keep b o e n hb hx)
    · obtain ⟨sl, e1⟩ := I.base.slot b o e n hb hx
      exact ⟨sl, (hs.2 b (Nat.ne_of_lt (Nat.lt_of_lt_of_le (Heap.lt_size e) I.ok.above))).trans e1⟩
    · obtain ⟨o', e1⟩ := I.base.there b o e hx
      exact ⟨o', (hs.2 b (Nat.ne_of_lt (Nat.lt_of_lt_of_le (Heap.lt_size e) I.ok.above))).trans e1⟩
    · by_cases hj : j = i
      · subst hj
        rw [hi] at e1; cases e1
        rw [List.getElem?_set_self hiσ] at e2
        cases e2
        exact ⟨u, r, .inl ⟨hk, by simp⟩⟩
      · rw [List.getElem?_set_ne (Ne.symm hj)] at e2
        obtain ⟨u', r', q⟩ := hl j y v' e1 e2 e3
        refine ⟨u', r', ?_⟩
        rcases q with ⟨k, e⟩ | ⟨k, c, e, z⟩
        · refine .inl ⟨k, ?_⟩
          have : y ≠ x := fun e => hj (nodup_ix hN e1 (e ▸ hi))
          simp [this, e]
        · exact .inr ⟨k, c, e, z.sameBut hs (cne y c e)⟩
    · obtain ⟨w', z⟩ := I.cell y c e
      exact ⟨w', z.sameBut hs (cne y c e)⟩
    · obtain ⟨e, n, ne, nf, d⟩ := I.pin p hp
      exact ⟨(hs.2 p.1 ne).trans e, n, ne, nf, d⟩
  · have hfn : X.fn x = true := by
      rcases hf with z | z
      · exact z
      · rw [z] at hk; cases hk
    obtain ⟨c, hc⟩ := I.ok.has x (.inl hk)
    obtain ⟨w', z⟩ := I.cell x c hc
    refine wpAny_storeName_cell I.ok.kind hk hc z (fun h' hc' hs => ?_)
    obtain ⟨oc, hoc, hocd⟩ := id z
    refine h { s with heap := h' } ⟨I.ok, I.os, I.bare, ⟨fun b o e n hb hx => ?_, fun b o e n hb hx => ?_, I.base.free, fun b o e hx => ?_, I.base.tups, I.base.frzs, I.base.tbls⟩, ⟨m, hn.sameBut hs (Ne.symm (cne x c hc)), fun j y v' e1 e2 e3 => ?_⟩, fun y c' e => ?_, I.free, I.freeC, fun p hp => ?_, tracked ⟨oc, hoc, I.freeC x c hc⟩ hs, by simpa using I.len⟩ ⟨c, hs, .inr hc⟩
    · exact (hs.2 b (Nat.ne_of_lt (Nat.lt_of_lt_of_le (Heap.lt_size e) (I.ok.cab x c hfn hc)))).trans (I.base.keep b o e n hb hx)
    · obtain ⟨sl, e1⟩ := I.base.slot b o e n hb hx
      exact ⟨sl, (hs.2 b (Nat.ne_of_lt (Nat.lt_of_lt_of_le (Heap.lt_size e) (I.ok.cab x c hfn hc)))).trans e1⟩
    · obtain ⟨o', e1⟩ := I.base.there b o e hx
      exact ⟨o', (hs.2 b (Nat.ne_of_lt (Nat.lt_of_lt_of_le (Heap.lt_size e) (I.ok.cab x c hfn hc)))).trans e1⟩
    · by_cases hj : j = i
      · subst hj
        rw [hi] at e1; cases e1
        rw [List.getElem?_set_self hiσ] at e2
        cases e2
        exact ⟨u, r, .inr ⟨.inl hk, c, hc, hc'⟩⟩
      · rw [List.getElem?_set_ne (Ne.symm hj)] at e2
        obtain ⟨u', r', q⟩ := hl j y v' e1 e2 e3
        refine ⟨u', r', ?_⟩
        rcases q with q | ⟨k, c', e, z'⟩
        · exact .inl q
        · refine .inr ⟨k, c', e, z'.sameBut hs ?_⟩
          rintro rfl
          exact hj (nodup_ix hN e1 (I.ok.inj _ _ _ e hc ▸ hi))
    · by_cases hcc : c' = c
      · subst hcc; exact ⟨_, hc'⟩
      · obtain ⟨w2, z2⟩ := I.cell y c' e
        exact ⟨w2, z2.sameBut hs hcc⟩
    · obtain ⟨e, n, ne, nf, d⟩ := I.pin p hp
      refine ⟨(hs.2 p.1 ?_).trans e, n, ne, nf, d⟩
      intro q
      rw [q, hoc] at e
      have q' : oc = p.2 := Option.some.inj e
      exact d w' (by rw [← q']; exact hocd)
theorem store_ok {M : Model} {A : Around} {E : Value → Shared → Prop} {i : Nat} {x : Str} {v : V} {u : Value} {Q : Unit → Shared → Prop} (I : Inv X pins σ H s) (hN : X.N.Nodup) (hi : X.N[i]? = some x) (hx : Loc X.env.scope x) (r : RelV v u)
    (h : ∀ s', Inv X pins (σ.set i (some v)) H s' → Q () s') (hf : X.fn x = true ∨ X.env.scope.names.lookup x = some .local := by first | exact .inl rfl | exact .inr rfl | assumption) : wpAny M A (storeName X.env x u) Q E s :=
  store_ok2 I hN hi hx r (fun s' I' _ => h s' I') hf
/-- behind a call or a block, the state as it is -/
theorem Inv.call' {s' : Shared} {ch : List Addr} (I : Inv X pins σ H s) (ho : s'.os = s.os) (u : Un (frs X.stack) ch H H' s.heap s'.heap) (hok : HOk X.prog X.w H' s'.heap) (hg : AllBare s'.gens)
    (hch : ∀ b ∈ ch, (b ∈ X.ex ∨ X.s₀.heap.objs.size ≤ b) ∧ b ≠ X.env.locals ∧ (∀ x c, X.env.cells.lookup x = some c → c ≠ b) ∧ ∀ p ∈ X.pn ++ pins, p.1 ≠ b) : Inv X pins σ H' s' := by
  obtain ⟨h', g', d', t', o'⟩ := s'
  have e : o' = s.os := ho
  subst e
  exact I.call (g' := g') (t' := t') (d' := d') u hok hg hch
end

/-- an exception: its class, its own dict's address (where it has one), the abstract heap behind it -/
abbrev XK := Value → Option Addr → Hp → Prop
abbrev St := List (Option V)
abbrev VK := V → Hp → Prop
/-- an expression's reading; a test's; an argument list's -/
abbrev TE := St → Hp → VK → Prop
abbrev TT := St → Hp → (Bool → Hp → Prop) → Prop
abbrev TA := St → Hp → (List V → Hp → Prop) → Prop
/-- what is wanted behind a statement -/
structure Ends where
  nx : St → Hp → Prop
  rt : VK
  bk : St → Hp → Prop := fun _ _ => False
  ct : St → Hp → Prop := fun _ _ => False
abbrev TS := Ends → St → Hp → Prop

def EP (X : Cx) (pins : List (Addr × Obj)) (σ : St) (Q : VK) (u : Value) (s' : Shared) : Prop := ∃ v H', Inv X pins σ H' s' ∧ RelV v u ∧ Q v H'
def TP (X : Cx) (pins : List (Addr × Obj)) (σ : St) (Q : Bool → Hp → Prop) (b : Bool) (s' : Shared) : Prop := ∃ H', Inv X pins σ H' s' ∧ Q b H'
def AP (X : Cx) (pins : List (Addr × Obj)) (σ : St) (Q : List V → Hp → Prop) (us : List Value) (s' : Shared) : Prop := ∃ vs H', Inv X pins σ H' s' ∧ Vals vs us ∧ Q vs H'
def SP (X : Cx) (pins : List (Addr × Obj)) (D : Ends) (f : Flow) (s' : Shared) : Prop :=
  match f with
  | .next => ∃ σ' H', Inv X pins σ' H' s' ∧ D.nx σ' H'
  | .brk => ∃ σ' H', Inv X pins σ' H' s' ∧ D.bk σ' H'
  | .cont => ∃ σ' H', Inv X pins σ' H' s' ∧ D.ct σ' H'
  | .ret u => ∃ v σ' H', Inv X pins σ' H' s' ∧ RelV v u ∧ D.rt v H'

def PE (X : Cx) (e : Expr) (t : TE) : Prop :=
  ∀ (pins : List (Addr × Obj)) (s : Shared) (σ : St) (H : Hp) (Q : VK), Inv X pins σ H s → t σ H Q → wpAny (model X.prog X.w) X.A (eval e X.env) (EP X pins σ Q) X.xe s
def PT (X : Cx) (e : Expr) (t : TT) : Prop :=
  ∀ (pins : List (Addr × Obj)) (s : Shared) (σ : St) (H : Hp) (Q : Bool → Hp → Prop), Inv X pins σ H s → t σ H Q → wpAny (model X.prog X.w) X.A (isTrue e X.env (eval e X.env)) (TP X pins σ Q) X.xe s
/-- a test whatever its 'whole' is (and, or) -/
def PW (X : Cx) (e : Expr) (t : TT) : Prop :=
  ∀ (whole : Sem Value) (pins : List (Addr × Obj)) (s : Shared) (σ : St) (H : Hp) (Q : Bool → Hp → Prop), Inv X pins σ H s → t σ H Q → wpAny (model X.prog X.w) X.A (isTrue e X.env whole) (TP X pins σ Q) X.xe s
theorem PW.pt {X : Cx} {e : Expr} {t : TT} (h : PW X e t) : PT X e t := h _
/-- an argument list (no star), from the left -/
def PA (X : Cx) (es : List Expr) (t : TA) : Prop :=
  ∀ (pos : Pos) (pins : List (Addr × Obj)) (s : Shared) (σ : St) (H : Hp) (Q : List V → Hp → Prop), Inv X pins σ H s → t σ H Q → wpAny (model X.prog X.w) X.A (spliced (backTo pos (starEach es X.env))) (AP X pins σ Q) X.xe s
def PS (X : Cx) (st : Stmt) (t : TS) : Prop :=
  ∀ (pins : List (Addr × Obj)) (s : Shared) (σ : St) (H : Hp) (D : Ends), Inv X pins σ H s → t D σ H → wpAny (model X.prog X.w) X.A (exec st X.env) (SP X pins D) X.xe s
def PSs (X : Cx) (st : List Stmt) (t : TS) : Prop :=
  ∀ (pins : List (Addr × Obj)) (s : Shared) (σ : St) (H : Hp) (D : Ends), Inv X pins σ H s → t D σ H → wpAny (model X.prog X.w) X.A (execs st X.env) (SP X pins D) X.xe s
/-- weaken the end -/
theorem thn {α : Type} {t : Sem α} {Q Q' : α → Shared → Prop} {M : Model} {A : Around} {E : Value → Shared → Prop} {s : Shared} (h : wpAny M A t Q E s) (hQ : ∀ a s, Q a s → Q' a s) : wpAny M A t Q' E s := wpAny_mono h hQ fun _ _ x => x
end L2

namespace L2
open PySem PySem.Spec PyProof.Rows
section
variable {X : Cx}

/-- two expressions in a row -/
theorem bin {a b : Expr} {ta tb : TE} (ha : PE X a ta) (hb : PE X b tb) {pins : List (Addr × Obj)} {s : Shared} {σ : St} {H : Hp} {R : V → V → Hp → Prop} (I : Inv X pins σ H s) (h : ta σ H fun x H1 => tb σ H1 fun y H2 => R x y H2)
    {α : Type} {Q : α → Shared → Prop} {f : Value → Value → Sem α}
    (hf : ∀ v u s2 x y H2, Inv X pins σ H2 s2 → RelV x v → RelV y u → R x y H2 → wpAny (model X.prog X.w) X.A (f v u) Q X.xe s2) :
    wpAny (model X.prog X.w) X.A (eval a X.env) (fun v s₁ => wpAny (model X.prog X.w) X.A (eval b X.env) (fun u s₂ => wpAny (model X.prog X.w) X.A (f v u) Q X.xe s₂) X.xe s₁) X.xe s := by
  refine thn (ha pins s σ H _ I h) fun v s1 ⟨x, H1, I1, r1, q1⟩ => ?_
  refine thn (hb pins s1 σ H1 _ I1 q1) fun u s2 ⟨y, H2, I2, r2, q2⟩ => ?_
  exact hf v u s2 x y H2 I2 r1 r2 q2

def tVar (i : Nat) : TE := fun σ H Q => ∃ v, σ[i]? = some (some v) ∧ Q v H
def tC (v : V) : TE := fun _ H Q => Q v H
theorem pe_var {i : Nat} {x : Str} {pos : Pos} (hN : X.N[i]? = some x) (hv : Vis X.env.scope x) (hd : (x == ("__debug__" : Str)) = false := by decide) (hcd : (x == ("__classdict__" : Str)) = false := by decide) : PE X (.Name x pos) (tVar i) := by
  intro pins s σ H Q I h
  obtain ⟨v, e, h⟩ := h
  obtain ⟨m, hn, hl⟩ := I.loc
  obtain ⟨u, r, l⟩ := hl i x v hN e hv
  have fin : EP X pins σ Q u s := ⟨v, H, I, r, h⟩
  rcases l with ⟨hk, hm⟩ | ⟨hk, c, hc, hcell⟩
  · exact wpAny_Name (wpAny_loadName_local I.ok.kind hk hn hm fin) hd
  · rcases hk with hk | hk
    · exact wpAny_Name (wpAny_loadName_cell I.ok.kind hk hc hcell fin) hd
    · exact wpAny_Name (wpAny_loadName_free I.ok.kind hk hc hcell fin hcd) hd
theorem pe_int {i j pos} : PE X (.Constant (.int i) j pos) (tC (.int i)) := fun _ _ _ H _ I h => wpAny_Constant_int ⟨.int i, H, I.tok _, ⟨_, rfl⟩, h⟩
theorem pe_bl {b j pos} : PE X (.Constant (.bool b) j pos) (tC (.bl b)) := fun _ _ _ H _ I h => Constant_bool ⟨.bl b, H, I, rfl, h⟩
theorem pe_non {j pos} : PE X (.Constant .none j pos) (tC .non) := fun _ _ _ H _ I h => Constant_none ⟨.non, H, I, rfl, h⟩
theorem pe_str {x j pos} : PE X (.Constant (.str x) j pos) (tC (.str x)) := fun _ _ _ H _ I h => Calls.Constant_str ⟨.str x, H, I.tok _, ⟨_, rfl⟩, h⟩

/-- a global name of the def -/
def Gl (X : Cx) (x : Str) : Prop := X.env.kindOf x = some .globalImplicit
theorem ld_glob {E : Value → Shared → Prop} {pins : List (Addr × Obj)} {s : Shared} {σ : St} {H : Hp} {x : Str} {u : Value} {pos : Pos} {Q : Value → Shared → Prop} (I : Inv X pins σ H s) (hg : Gl X x) (hm : X.mg x = some u) (h : Q u s)
    (hd : (x == ("__debug__" : Str)) = false := by decide) : wpAny (model X.prog X.w) X.A (eval (.Name x pos) X.env) Q E s :=
  Calls.Name_function_global I.ok.kind hg (Calls.loadGlobal_global (by rw [I.ok.glob]; exact I.mod.glob.keeps I.bk) hm h) hd
theorem ld_blt {E : Value → Shared → Prop} {pins : List (Addr × Obj)} {s : Shared} {σ : St} {H : Hp} {x : Str} {u : Value} {pos : Pos} {Q : Value → Shared → Prop} (I : Inv X pins σ H s) (hg : Gl X x) (hm : X.mg x = none) (hv : bootBuiltins x = some u) (h : Q u s)
    (hn : x ≠ "__name__" := by decide) (hd : (x == ("__debug__" : Str)) = false := by decide) : wpAny (model X.prog X.w) X.A (eval (.Name x pos) X.env) Q E s := by
  obtain ⟨mb, h1, h2⟩ := I.mod.blt
  exact Calls.Name_function_global I.ok.kind hg (Calls.loadGlobal_builtin (by rw [I.ok.glob]; exact I.mod.glob.keeps I.bk) hm (by rw [I.ok.blt]; exact h1.keeps I.bk) ((h2 x hn).trans hv) h) hd
/-- a module's constant, a class, a function, as a value -/
theorem pe_glob {x : Str} {v : V} {u : Value} {pos : Pos} (hg : Gl X x) (hm : X.mg x = some u) (r : RelV v u) (hd : (x == ("__debug__" : Str)) = false := by decide) : PE X (.Name x pos) (tC v) :=
  fun _ _ _ H _ I h => ld_glob I hg hm ⟨v, H, I, r, h⟩ hd
theorem pe_bltn {x : Str} {v : V} {u : Value} {pos : Pos} (hg : Gl X x) (hm : X.mg x = none) (hv : bootBuiltins x = some u) (r : RelV v u) (hn : x ≠ "__name__" := by decide) (hd : (x == ("__debug__" : Str)) = false := by decide) : PE X (.Name x pos) (tC v) :=
  fun _ _ _ H _ I h => ld_blt I hg hm hv ⟨v, H, I, r, h⟩ hn hd

variable {a b : Expr} {ta tb : TE} {pos : Pos}
def PC (X : Cx) (op : CmpOp) (a b : Expr) (t : TE) : Prop :=
  ∀ (pins : List (Addr × Obj)) (s : Shared) (σ : St) (H : Hp) (Q : VK), Inv X pins σ H s → t σ H Q →
    wpAny (model X.prog X.w) X.A (eval a X.env) (fun v s₁ => wpAny (model X.prog X.w) X.A (eval b X.env) (fun u s₂ => wpAny (model X.prog X.w) X.A (compareOp op v u) (EP X pins σ Q) X.xe s₂) X.xe s₁) X.xe s
theorem nobehind (b : Expr) {op : CmpOp} (h : op ≠ .In) (h2 : op ≠ .NotIn) : behindInMarks op b = false := by
  have e1 : (op == CmpOp.In) = false := by cases op <;> first | rfl | exact absurd rfl h
  have e2 : (op == CmpOp.NotIn) = false := by cases op <;> first | rfl | exact absurd rfl h2
  cases b <;> simp [behindInMarks, e1, e2]
/-- is None -/
def tIsN (ta : TE) : TE := fun σ H Q => ta σ H fun x H1 => Q (.bl (decide (x = .non))) H1
def tNotN (ta : TE) : TE := fun σ H Q => ta σ H fun x H1 => Q (.bl (!decide (x = .non))) H1
theorem RelV.none_iff {x : V} {v : Value} (r : RelV x v) : (v == Value.none) = decide (x = .non) := by
  cases x with
  | non => cases r; rfl
  | bl _ => cases r; rfl
  | int _ => obtain ⟨t, rfl⟩ := r; rfl
  | str _ => obtain ⟨t, rfl⟩ := r; rfl
  | byt _ => obtain ⟨t, rfl⟩ := r; rfl
  | flt _ => obtain ⟨t, rfl⟩ := r; rfl
  | ref _ => cases r; rfl
  | ty _ => cases r; rfl
theorem pc_isN {j pos'} (ha : PE X a ta) : PC X .Is a (.Constant .none j pos') (tIsN ta) := by
  intro pins s σ H Q I h
  refine thn (ha pins s σ H _ I h) fun v s1 ⟨x, H1, I1, r1, q1⟩ => ?_
  exact Constant_none (is_none_gen ⟨.bl _, H1, I1, by rw [r1.none_iff]; rfl, q1⟩)
theorem pc_notN {j pos'} (ha : PE X a ta) : PC X .IsNot a (.Constant .none j pos') (tNotN ta) := by
  intro pins s σ H Q I h
  refine thn (ha pins s σ H _ I h) fun v s1 ⟨x, H1, I1, r1, q1⟩ => ?_
  exact Constant_none (isnot_none_gen ⟨.bl _, H1, I1, by rw [r1.none_iff]; rfl, q1⟩)
/-- a comparison as a value, as a test -/
def tB (t : TE) : TT := fun σ H Q => t σ H fun x H1 => ∃ c, x = .bl c ∧ Q c H1
theorem pt_cmp {op : CmpOp} {t : TE} (h : PC X op a b t) (h1 : behindInMarks op b = false := by first | exact nobehind _ (by decide) (by decide) | rfl) : PT X (.Compare a [op] [b] pos) (tB t) := by
  intro pins s σ H Q I hw
  refine wpAny_isTrue_Compare1 (thn (h pins s σ H _ I hw) fun v s1 h1 => thn h1 fun u s2 h2 => thn h2 fun c s3 ⟨x, H1, I1, r1, q1⟩ => ?_) h1
  obtain ⟨d, rfl, q⟩ := q1
  cases r1
  exact wpAny_truthy_bool ⟨H1, I1, q⟩
/-- an expression whose value is a bool, as a test -/
theorem pt_val {e : Expr} {t : TE} (h : PE X e t) (he : ∀ whole, isTrue e X.env whole = (do let v ← whole; standAt e.pos; holding [v] (truthy v)) := by intro _; rfl) : PT X e (tB t) := by
  intro pins s σ H Q I hw
  refine isTrue_plain (thn (h pins s σ H _ I hw) fun v s1 ⟨x, H1, I1, r1, q1⟩ => ?_) (he _)
  obtain ⟨d, rfl, q⟩ := q1
  cases r1
  exact wpAny_truthy_bool ⟨H1, I1, q⟩

variable {tA tB' : TT} {rest : List Expr}
def tAnd (t u : TT) : TT := fun σ H Q => t σ H fun c H1 => if c = true then u σ H1 Q else Q false H1
def tOr (t u : TT) : TT := fun σ H Q => t σ H fun c H1 => if c = true then Q true H1 else u σ H1 Q
def tNot (t : TT) : TT := fun σ H Q => t σ H fun c H1 => Q (!c) H1
theorem pw_and1 (ha : PT X a tA) : PW X (.BoolOp .And [a] pos) tA := by
  intro wh pins s σ H Q I h
  refine isTrue_and (thn (ha pins s σ H Q I h) fun c s1 e => ?_)
  cases c with
  | true => exact isTrue_and_nil e
  | false => exact e
theorem pw_or1 (ha : PT X a tA) : PW X (.BoolOp .Or [a] pos) tA := by
  intro wh pins s σ H Q I h
  refine isTrue_or (thn (ha pins s σ H Q I h) fun c s1 e => ?_)
  cases c with
  | false => exact isTrue_or_nil e
  | true => exact e
theorem pw_and (ha : PT X a tA) (hb : PW X (.BoolOp .And (b :: rest) pos) tB') : PW X (.BoolOp .And (a :: b :: rest) pos) (tAnd tA tB') := by
  intro wh pins s σ H Q I h
  refine isTrue_and (thn (ha pins s σ H _ I h) fun c s1 ⟨H1, I1, q1⟩ => ?_)
  cases c with
  | true => exact hb wh pins s1 σ H1 Q I1 q1
  | false => exact ⟨H1, I1, q1⟩
theorem pw_or (ha : PT X a tA) (hb : PW X (.BoolOp .Or (b :: rest) pos) tB') : PW X (.BoolOp .Or (a :: b :: rest) pos) (tOr tA tB') := by
  intro wh pins s σ H Q I h
  refine isTrue_or (thn (ha pins s σ H _ I h) fun c s1 ⟨H1, I1, q1⟩ => ?_)
  cases c with
  | true => exact ⟨H1, I1, q1⟩
  | false => exact hb wh pins s1 σ H1 Q I1 q1
theorem pt_not (ha : PT X a tA) : PT X (.UnaryOp .Not a pos) (tNot tA) := by
  intro pins s σ H Q I h
  exact isTrue_not (ha pins s σ H (fun c H1 => Q (!c) H1) I h)
/-- .. as values (bools) -/
def tAndV (ta tb : TE) : TE := fun σ H Q => ta σ H fun x H1 => ∃ c, x = .bl c ∧ if c = true then tb σ H1 Q else Q (.bl false) H1
def tNotV (ta : TE) : TE := fun σ H Q => ta σ H fun x H1 => ∃ c, x = .bl c ∧ Q (.bl (!c)) H1
theorem pe_one {op} {t : TE} (h : PE X a t) : PE X (.BoolOp op [a] pos) t := fun pins s σ H Q I hw => BoolOp_one (h pins s σ H Q I hw)
theorem pe_and (ha : PE X a ta) (hb : PE X (.BoolOp .And (b :: rest) pos) tb) : PE X (.BoolOp .And (a :: b :: rest) pos) (tAndV ta tb) := by
  intro pins s σ H Q I h
  refine BoolOp_and (thn (ha pins s σ H _ I h) fun v s1 ⟨x, H1, I1, r1, q1⟩ => ?_)
  obtain ⟨c, rfl, q1⟩ := q1
  cases r1
  refine wpAny_truthy_bool ?_
  cases c with
  | true => exact hb pins s1 σ H1 Q I1 q1
  | false => exact ⟨.bl false, H1, I1, rfl, q1⟩
theorem pe_not (ha : PE X a ta) : PE X (.UnaryOp .Not a pos) (tNotV ta) := by
  intro pins s σ H Q I h
  refine UnaryOp_ (thn (ha pins s σ H _ I h) fun v s1 ⟨x, H1, I1, r1, q1⟩ => ?_)
  obtain ⟨c, rfl, q1⟩ := q1
  cases r1
  exact not_of (wpAny_truthy_bool ⟨.bl (!c), H1, I1, rfl, q1⟩)
/-- a if t else b -/
def tIf (t : TT) (ta tb : TE) : TE := fun σ H Q => t σ H fun c H1 => if c = true then ta σ H1 Q else tb σ H1 Q
theorem pe_ifExp {c : Expr} (hc : PT X c tA) (ha : PE X a ta) (hb : PE X b tb) : PE X (.IfExp c a b pos) (tIf tA ta tb) := by
  intro pins s σ H Q I h
  refine wpAny_IfExp (thn (hc pins s σ H _ I h) fun d s1 ⟨H1, I1, q1⟩ => ?_)
  cases d with
  | true => exact ha pins s1 σ H1 Q I1 q1
  | false => exact hb pins s1 σ H1 Q I1 q1
end
end L2

namespace L2
open PySem PySem.Spec PyProof.Rows

def SqL (K : PySem.W.Frag) (H : Hp) (a : Addr) (xs : List V) : Prop :=
  Rd H a (.lst xs) ∨
    ∃ (o : Obj) (its : Array Value) (n : Nat), K.lookup a = some o ∧ o.cls = .type "list" ∧ o.dict = none ∧ o.data = .seq its n ∧ its.size ≤ sizeLine ∧ Vals xs its.toList
def SqT (K : PySem.W.Frag) (H : Hp) (a : Addr) (xs : List V) : Prop :=
  Rd H a (.tup xs) ∨
    ∃ (o : Obj) (its : Array Value) (n : Nat), K.lookup a = some o ∧ o.cls = .type "tuple" ∧ o.data = .seq its n ∧ its.size ≤ sizeLine ∧ Vals xs its.toList
def absV : Value → Option V
  | .none => some .non
  | .bool b => some (.bl b)
  | .int i _ => some (.int i)
  | .str x _ => some (.str x)
  | .bytes b _ => some (.byt b)
  | .float b _ => some (.flt b)
  | .ref a => some (.ref a)
  | .type n => some (.ty n)
  | _ => none
theorem RelV.abs {x : V} {u : Value} (r : RelV x u) : absV u = some x := by
  cases x with
  | non => cases r; rfl
  | bl _ => cases r; rfl
  | int _ => obtain ⟨t, rfl⟩ := r; rfl
  | str _ => obtain ⟨t, rfl⟩ := r; rfl
  | byt _ => obtain ⟨t, rfl⟩ := r; rfl
  | flt _ => obtain ⟨t, rfl⟩ := r; rfl
  | ref _ => cases r; rfl
  | ty _ => cases r; rfl
theorem RelV.inj {x y : V} {u : Value} (r : RelV x u) (q : RelV y u) : x = y := Option.some.inj (r.abs.symm.trans q.abs)
theorem Vals.inj : ∀ {xs ys : List V} {us : List Value}, Vals xs us → Vals ys us → xs = ys
  | _, _, _, .nil, .nil => rfl
  | _, _, _, .cons r t, .cons r' t' => by rw [r.inj r', Vals.inj t t']
section
variable {X : Cx} {pins : List (Addr × Obj)} {σ : St} {H : Hp} {s : Shared} {a : Addr} {xs ys : List V}
theorem SqL.of {K : PySem.W.Frag} (h : H a = some (.lst xs)) : SqL K H a xs := .inl (.inl h)
theorem SqT.of {K : PySem.W.Frag} (h : H a = some (.tup xs)) : SqT K H a xs := .inl (.inl h)
theorem Inv.list (I : Inv X pins σ H s) (h : SqL X.K H a xs) : ∃ its : List Value, Vals xs its ∧ PlainL s.heap a its.toArray ∧ xs.length ≤ sizeLine := by
  rcases h with h | ⟨o, its, n, hk, hc, hd, hs, hz, r⟩
  · obtain ⟨z, its, n, r, e⟩ := h.ok I.hok
    exact ⟨its, r, ⟨_, n, e, rfl, rfl, rfl⟩, z⟩
  · refine ⟨its.toList, r, ⟨o, n, I.kIn a o hk, hc, hd, by simpa using hs⟩, ?_⟩
    have e := r.length
    simp only [Array.length_toList] at e
    omega
theorem Inv.tuple (I : Inv X pins σ H s) (h : SqT X.K H a xs) : ∃ its : List Value, Vals xs its ∧ IsTup s.heap a its.toArray ∧ xs.length ≤ sizeLine := by
  rcases h with h | ⟨o, its, n, hk, hc, hs, hz, r⟩
  · obtain ⟨z, its, r, p⟩ := h.ok I.hok
    exact ⟨its, r, p, z⟩
  · refine ⟨its.toList, r, ⟨o, I.kIn a o hk, hc, n, by simpa using hs⟩, ?_⟩
    have e := r.length
    simp only [Array.length_toList] at e
    omega
theorem Inv.list_inj (I : Inv X pins σ H s) (h : SqL X.K H a xs) (h' : SqL X.K H a ys) : xs = ys := by
  obtain ⟨its, r, ⟨o, n, e, _, _, d⟩, _⟩ := I.list h
  obtain ⟨its', r', ⟨o', n', e', _, _, d'⟩, _⟩ := I.list h'
  rw [e] at e'; cases e'
  rw [d] at d'
  injection d' with d1 _
  have : its = its' := by simpa using congrArg Array.toList d1
  subst this
  exact r.inj r'
end

abbrev Cx.wish (X : Cx) (E : Value → Shared → Prop) : Cx := { X with xe := E }
/-- no exception leaves -/
abbrev Cx.nox (X : Cx) : Cx := X.wish fun _ _ => False
theorem Cx.Ok.wish {X : Cx} (ok : X.Ok) (E : Value → Shared → Prop) : (X.wish E).Ok :=
  ⟨ok.mod, ok.kind, ok.glob, ok.blt, ok.above, ok.inj, ok.has, ok.cab, ok.hd, ok.frames, ok.stk, ok.exf, ok.bs, ok.bsz, ok.noex, ok.exfs, ok.funs, ok.frf⟩
theorem Cx.Ok.unwish {X : Cx} {E : Value → Shared → Prop} (ok : (X.wish E).Ok) : X.Ok :=
  ⟨ok.mod, ok.kind, ok.glob, ok.blt, ok.above, ok.inj, ok.has, ok.cab, ok.hd, ok.frames, ok.stk, ok.exf, ok.bs, ok.bsz, ok.noex, ok.exfs, ok.funs, ok.frf⟩
section
variable {X : Cx} {pins : List (Addr × Obj)} {σ : St} {H : Hp} {s : Shared} {E : Value → Shared → Prop}
theorem Inv.wish (I : Inv X pins σ H s) (E : Value → Shared → Prop) : Inv (X.wish E) pins σ H s := ⟨I.ok.wish E, I.os, I.bare, I.base, I.loc, I.cell, I.free, I.freeC, I.pin, I.hok, I.len⟩
theorem Inv.unwish (I : Inv (X.wish E) pins σ H s) : Inv X pins σ H s := ⟨I.ok.unwish, I.os, I.bare, I.base, I.loc, I.cell, I.free, I.freeC, I.pin, I.hok, I.len⟩
theorem SP.unwish {D : Ends} {f : Flow} {s' : Shared} (h : SP (X.wish E) pins D f s') : SP X pins D f s' := by
  cases f with
  | next => obtain ⟨σ', H', I, q⟩ := h; exact ⟨σ', H', I.unwish, q⟩
  | brk => obtain ⟨σ', H', I, q⟩ := h; exact ⟨σ', H', I.unwish, q⟩
  | cont => obtain ⟨σ', H', I, q⟩ := h; exact ⟨σ', H', I.unwish, q⟩
  | ret u => obtain ⟨v, σ', H', I, r, q⟩ := h; exact ⟨v, σ', H', I.unwish, r, q⟩
theorem PSs.nox {st : List Stmt} {t : TS} (h : PSs X.nox st t) : PSs X st t := fun pins s σ H D I hw =>
  wpAny_mono (h pins s σ H D (I.wish _) hw) (fun _ _ q => q.unwish) fun _ _ z => False.elim z
end

section
variable {X : Cx} {st : Stmt} {rest : List Stmt} {t u : TS} {e : Expr} {te : TE} {pos : Pos}
def tNext : TS := fun D σ H => D.nx σ H
def tSeq (t u : TS) : TS := fun D σ H => t { D with nx := u D } σ H
theorem pss_nil : PSs X [] tNext := fun _ _ σ H _ I h => wpAny_execs_nil ⟨σ, H, I, h⟩
theorem pss_cons (h1 : PS X st t) (h2 : PSs X rest u) : PSs X (st :: rest) (tSeq t u) := by
  intro pins s σ H D I h
  refine wpAny_execs_cons (thn (h1 pins s σ H { D with nx := u D } I h) fun f s1 q => ?_)
  cases f with
  | next =>
    obtain ⟨σ', H', I', q⟩ := q
    exact h2 pins s1 σ' H' D I' q
  | ret v => exact q
  | brk => exact q
  | cont => exact q
theorem pss_one (h1 : PS X st t) : PSs X [st] t := by
  intro pins s σ H D I h
  refine wpAny_execs_cons (thn (h1 pins s σ H D I h) fun f s1 q => ?_)
  cases f with
  | next => exact wpAny_execs_nil q
  | ret v => exact q
  | brk => exact q
  | cont => exact q
/-- in a def's body nothing is shown -/
theorem Inv.quiet {pins : List (Addr × Obj)} {σ : St} {H : Hp} {s : Shared} (I : Inv X pins σ H s) : interactive X.env = false := by simp [interactive, I.ok.kind]
/-- an expression whose value is dropped -/
def tDrop (te : TE) : TS := fun D σ H => te σ H fun _ H1 => D.nx σ H1
theorem ps_expr (he : PE X e te) (hs : swapsWith e none pos.line X.env = pure false := by rfl) : PS X (.Expr e pos) (tDrop te) := by
  intro pins s σ H D I h
  exact wpAny_Expr_any (thn (he pins s σ H _ I h) fun v s1 ⟨x, H1, I1, r1, q1⟩ => ⟨σ, H1, I1, q1⟩) I.quiet hs
def tRet (te : TE) : TS := fun D σ H => te σ H D.rt
theorem ps_ret (he : PE X e te) : PS X (.Return (some e) pos) (tRet te) := by
  intro pins s σ H D I h
  exact wpAny_Return_some (thn (he pins s σ H _ I h) fun v s1 ⟨x, H1, I1, r1, q1⟩ => ⟨x, σ, H1, I1, r1, q1⟩)
def tIfS (c : TT) (t u : TS) : TS := fun D σ H => c σ H fun b H1 => if b = true then t D σ H1 else u D σ H1
theorem ps_if {c : Expr} {a b : List Stmt} {tc : TT} (hc : PT X c tc) (ha : PSs X a t) (hb : PSs X b u) : PS X (.If c a b pos) (tIfS tc t u) := by
  intro pins s σ H D I h
  refine wpAny_If (thn (hc pins s σ H _ I h) fun d s1 ⟨H1, I1, q1⟩ => ?_)
  cases d with
  | true => exact ha pins s1 σ H1 D I1 q1
  | false => exact hb pins s1 σ H1 D I1 q1
/-- code that the proof never comes to -/
def tNever : TS := fun _ _ _ => False
theorem ps_never : PS X st tNever := fun _ _ _ _ _ _ h => h.elim
theorem pss_never {sts : List Stmt} : PSs X sts tNever := fun _ _ _ _ _ _ h => h.elim
end

abbrev TG := V → St → Hp → (St → Hp → Prop) → Prop
abbrev TGs := List V → St → Hp → (St → Hp → Prop) → Prop
def PG (X : Cx) (target : Expr) (t : TG) : Prop :=
  ∀ (pins : List (Addr × Obj)) (s : Shared) (σ : St) (H : Hp) (v : V) (u : Value) (Q : St → Hp → Prop), Inv X pins σ H s → RelV v u → t v σ H Q →
    wpAny (model X.prog X.w) X.A (assign target X.env u) (fun _ s' => ∃ σ' H', Inv X pins σ' H' s' ∧ Q σ' H') X.xe s
/-- several targets, one after another -/
def PGs (X : Cx) (ts : List Expr) (t : TGs) : Prop :=
  ∀ (pins : List (Addr × Obj)) (s : Shared) (σ : St) (H : Hp) (vs : List V) (us : List Value) (Q : St → Hp → Prop), Inv X pins σ H s → Vals vs us → t vs σ H Q →
    wpAny (model X.prog X.w) X.A (assignInOrder ((assignEach ts X.env).map (·.2)) us) (fun _ s' => ∃ σ' H', Inv X pins σ' H' s' ∧ Q σ' H') X.xe s
/-- o[i] = v, by values -/
abbrev TSet := V → V → V → Hp → (Hp → Prop) → Prop
def PSet (X : Cx) (t : TSet) : Prop :=
  ∀ (pins : List (Addr × Obj)) (s : Shared) (σ : St) (H : Hp) (o i v : V) (ov iv u : Value) (Q : Hp → Prop), Inv X pins σ H s → RelV o ov → RelV i iv → RelV v u → t o i v H Q →
    wpAny (model X.prog X.w) X.A (setItem ov iv u) (fun _ s' => ∃ H', Inv X pins σ H' s' ∧ Q H') X.xe s
section
variable {X : Cx} {pos : Pos}
def gName (i : Nat) : TG := fun v σ H Q => Q (σ.set i (some v)) H
theorem pg_name {i : Nat} {x : Str} (hN : X.N.Nodup) (hi : X.N[i]? = some x) (hx : Loc X.env.scope x) (hf : X.fn x = true ∨ X.env.scope.names.lookup x = some .local := by first | exact .inl rfl | exact .inr rfl | assumption) : PG X (.Name x pos) (gName i) := by
  intro pins s σ H v u Q I r h
  exact wpAny_assign_Name (store_ok I hN hi hx r (fun s' I' => ⟨_, H, I', h⟩) hf)
def gNil : TGs := fun vs σ H Q => vs = [] ∧ Q σ H
def gCons (t : TG) (u : TGs) : TGs := fun vs σ H Q => ∃ v r, vs = v :: r ∧ t v σ H fun σ' H' => u r σ' H' Q
theorem pgs_nil : PGs X [] gNil := by
  intro pins s σ H vs us Q I r h
  obtain ⟨e, h⟩ := h
  subst e
  cases r
  exact assignInOrder_nil ⟨σ, H, I, h⟩
theorem pgs_cons {e : Expr} {es : List Expr} {t : TG} {u : TGs} (h1 : PG X e t) (h2 : PGs X es u)
    (hs : (assignEach (e :: es) X.env).map (·.2) = assign e X.env :: (assignEach es X.env).map (·.2) := by rfl) : PGs X (e :: es) (gCons t u) := by
  intro pins s σ H vs us Q I r h
  obtain ⟨v, vr, e1, h⟩ := h
  subst e1
  cases r with
  | cons r rr =>
    rw [hs]
    refine assignInOrder_cons (thn (h1 pins s σ H _ _ _ I r h) fun _ s1 ⟨σ1, H1, I1, q1⟩ => ?_)
    exact h2 pins s1 σ1 H1 _ _ Q I1 rr q1
/-- (a, b, ..) = a tuple of that length -/
def gTup (K : PySem.W.Frag) (n : Nat) (t : TGs) : TG := fun v σ H Q => ∃ a xs, v = .ref a ∧ SqT K H a xs ∧ xs.length = n ∧ t xs σ H Q
theorem pg_tup {es : List Expr} {k : Nat} {t : TGs} {n : Nat} (hc : X.calm = true) (h : PGs X es t)
    (hn : (assignEach es X.env).length = n := by rfl) (hst : (assignEach es X.env).findIdx? (·.1) = none := by rfl) : PG X (.Tuple es k pos) (gTup X.K n t) := by
  intro pins s σ H v u Q I r hw
  obtain ⟨a, xs, e1, hq, hl, hw⟩ := hw
  subst e1
  cases r
  obtain ⟨its, rv, ht, hz⟩ := I.tuple hq
  refine assign_Tuple_tuple (I.ok.hd hc) ht (by simp [hn, ← hl, rv.length]) hst fun h' hx => ?_
  have I1 : Inv X pins σ H { s with heap := h' } := I.kept (t' := s.toks) fun b o e => hx b o (Nat.ne_of_lt (Heap.lt_size e)) e
  exact h pins _ σ H xs _ Q I1 (by simpa using rv) hw
/-- o[i] = .. -/
def gSub (to ti : TE) (t : TSet) : TG := fun v σ H Q => to σ H fun o H1 => ti σ H1 fun i H2 => t o i v H2 fun H3 => Q σ H3
theorem pg_sub {o i : Expr} {to ti : TE} {t : TSet} (ho : PE X o to) (hi : PE X i ti) (hs : PSet X t)
    (ha : ∀ v, assign (.Subscript o i pos) X.env v = (do
      let ov ← holding [v] (eval o X.env)
      let iv ← holding [v, ov] (eval i X.env)
      standAt pos
      holding [v, ov, iv] (setItem ov iv v)
      release [v, ov, iv] []) := by intro _; rfl) : PG X (.Subscript o i pos) (gSub to ti t) := by
  intro pins s σ H v u Q I r h
  rw [ha]
  refine wpAny_bind (wpAny_holding (thn (ho pins s σ H _ I h) fun ov s1 ⟨x, H1, I1, r1, q1⟩ => ?_))
  refine wpAny_bind (wpAny_holding (thn (hi pins s1 σ H1 _ I1 q1) fun iv s2 ⟨y, H2, I2, r2, q2⟩ => ?_))
  refine wpAny_bind (wpAny_standAt (wpAny_bind (wpAny_holding (thn (hs pins s2 σ H2 x y v ov iv u _ I2 r1 r2 r q2) fun _ s3 ⟨H3, I3, q3⟩ => ?_))))
  exact wpAny_release ⟨σ, H3, I3, q3⟩
/-- target = value -/
def tAsg (te : TE) (g : TG) : TS := fun D σ H => te σ H fun x H1 => g x σ H1 D.nx
theorem ps_asg {tg e : Expr} {te : TE} {g : TG} (he : PE X e te) (hg : PG X tg g) (hs : swapsWithSole [tg] e pos.line X.env = pure false := by rfl) (hw : swappedStores [tg] e X.env = pure none := by rfl)
    (h1 : (assignEach [tg] X.env).map (·.2) = [assign tg X.env] := by rfl) : PS X (.Assign [tg] e pos) (tAsg te g) := by
  intro pins s σ H D I h
  refine wpAny_Assign_stores (thn (he pins s σ H _ I h) fun v s1 ⟨x, H1, I1, r1, q1⟩ => ?_) hs hw
  rw [h1]
  exact thn (hg pins s1 σ H1 x v _ I1 r1 q1) fun _ s2 q => q
/-- name = value -/
theorem ps_set {i : Nat} {x : Str} {e : Expr} {te : TE} {pos' : Pos} (hN : X.N.Nodup) (hi : X.N[i]? = some x) (hx : Loc X.env.scope x) (he : PE X e te) (hs : swapsWith e (some (.Name x pos')) pos.line X.env = pure false := by rfl) (hf : X.fn x = true ∨ X.env.scope.names.lookup x = some .local := by first | exact .inl rfl | exact .inr rfl | assumption) :
    PS X (.Assign [.Name x pos'] e pos) (tAsg te (gName i)) := by
  intro pins s σ H D I h
  refine wpAny_Assign_Name (thn (he pins s σ H _ I h) fun v s1 ⟨y, H1, I1, r1, q1⟩ => ?_) hs
  exact store_ok I1 hN hi hx r1 (fun s2 I2 => ⟨_, H1, I2, q1⟩) hf
end

section
variable {X : Cx} {pos : Pos}
end

/-- at turn i: it yields x (the heap may grow), or it stops -/
structure It where
  go : Nat → Hp → Prop
  yld : Nat → Hp → V → Hp → Prop
  stop : Nat → Hp → Prop
/-- the iterator's own objects may turn: they are not the frame's, not pinned, younger than the entry (or a comprehension's own) -/
def FpOk (X : Cx) (pins : List (Addr × Obj)) (H : Hp) (b : Addr) : Prop :=
  H b = none ∧ b ≠ X.env.locals ∧ b ∉ X.fs ∧ (b ∈ X.ex ∨ X.s₀.heap.objs.size ≤ b) ∧ (∀ x c, X.env.cells.lookup x = some c → c ≠ b) ∧ ∀ p ∈ X.pn ++ pins, p.1 ≠ b
theorem Inv.fpOk {X : Cx} {pins : List (Addr × Obj)} {σ : St} {H H' : Hp} {s : Shared} {b : Addr} (I : Inv X pins σ H s) (hb : s.heap.objs.size ≤ b) (hn : H' b = none) : FpOk X pins H' b := by
  refine ⟨hn, Nat.ne_of_gt (Nat.lt_of_lt_of_le I.lt hb), I.nofs hb, .inr (Nat.le_trans I.sz hb), fun x c e z => ?_, fun p hp z => ?_⟩
  · obtain ⟨v, q⟩ := I.cell x c e
    exact absurd (Nat.lt_of_lt_of_le q.lt (by rw [z]; exact hb)) (Nat.lt_irrefl _)
  · exact absurd (Nat.lt_of_lt_of_le (Heap.lt_size (I.pin p hp).1) (by rw [z]; exact hb)) (Nat.lt_irrefl _)
structure Turn (P : Program) (w : World) (K : PySem.W.Frag) (tg : Expr) (J : It) (fp : List Addr) (it : Addr) (tn : Nat → Heap → Prop) : Prop where
  mem : it ∈ fp
  obj : ∀ i h, tn i h → ∀ b ∈ fp, ∃ o, h.get? b = some o ∧ ∀ v, o.data ≠ .cell v
  keep : ∀ i h h', tn i h → (∀ b ∈ fp, ∀ o, h.get? b = some o → h'.get? b = some o) → tn i h'
  item : ∀ (X : Cx), X.prog = P → X.w = w → X.K = K → X.calm = true → ∀ (i : Nat) (pins : List (Addr × Obj)) (s : Shared) (σ : St) (H : Hp) (E : Value → Shared → Prop), Inv X pins σ H s → (∀ b ∈ fp, FpOk X pins H b) → tn i s.heap → J.go i H →
    wpAny (model P w) X.A (pyNext (.ref it)) (fun r s1 => ∃ u, r = some u ∧
      wpAny (model P w) X.A (letOwnedTupleGo tg (.ref it) u) (fun _ s2 => ∃ x H', Inv X pins σ H' s2 ∧ RelV x u ∧ J.yld i H x H' ∧ tn (i + 1) s2.heap ∧ ∀ b ∈ fp, H' b = none) E s1) E s
  done : ∀ (X : Cx), X.prog = P → X.w = w → X.K = K → X.calm = true → ∀ (i : Nat) (pins : List (Addr × Obj)) (s : Shared) (σ : St) (H : Hp) (E : Value → Shared → Prop), Inv X pins σ H s → (∀ b ∈ fp, FpOk X pins H b) → tn i s.heap → J.stop i H →
    wpAny (model P w) X.A (pyNext (.ref it)) (fun r s1 => r = none ∧ Inv X pins σ H s1) E s
  self : ∀ (A : Around) (i : Nat) (s : Shared) (Q : Value → Shared → Prop) (E : Value → Shared → Prop), tn i s.heap → Q (.ref it) s → wpAny (model P w) A (pyIter (.ref it)) Q E s
abbrev TI := St → Hp → (It → Hp → Prop) → Prop
/-- an iterator has come -/
def PIE (X : Cx) (pins : List (Addr × Obj)) (σ : St) (tg : Expr) (R : It → Hp → Prop) (itv : Value) (s2 : Shared) : Prop :=
  ∃ (it : Addr) (fp : List Addr) (tn : Nat → Heap → Prop) (J : It) (H' : Hp), itv = .ref it ∧ Inv X pins σ H' s2 ∧ Turn X.prog X.w X.K tg J fp it tn ∧ tn 0 s2.heap ∧ (∀ b ∈ fp, FpOk X pins H' b) ∧ R J H'
def PI (X : Cx) (tg iter : Expr) (wi : TI) : Prop :=
  ∀ (pins : List (Addr × Obj)) (s : Shared) (σ : St) (H : Hp) (R : It → Hp → Prop), Inv X pins σ H s → wi σ H R →
    wpAny (model X.prog X.w) X.A (eval iter X.env) (fun v s1 => wpAny (model X.prog X.w) X.A (pyIter v) (PIE X pins σ tg R) X.xe s1) X.xe s

/-- the step ahead of the store is nothing for an iterator that keeps no tuple -/
theorem go_of {M : Model} {A : Around} {E : Value → Shared → Prop} {s : Shared} {tg : Expr} {it : Addr} {u : Value} {o : Obj} {n : String} {vs : Array Value} {Q : Unit → Shared → Prop} (ho : s.heap.get? it = some o) (hc : o.cls = .type n) (hd : o.data = .fields vs)
    (hn : ["enumerate", "zip", "dict_itemiterator", "dict_reverseitemiterator", "odict_iterator", "itertools.zip_longest", "itertools.pairwise"].contains n = false) (hQ : Q () s) : wpAny M A (letOwnedTupleGo tg (.ref it) u) Q E s := by
  unfold letOwnedTupleGo
  cases tg <;> first
    | exact wpAny_pure hQ
    | (cases u <;> first
        | exact wpAny_pure hQ
        | (refine wpAny_bind (wpAny_load ho ?_)
           rw [hc, hd]
           show wpAny M A (if (["enumerate", "zip", "dict_itemiterator", "dict_reverseitemiterator", "odict_iterator", "itertools.zip_longest", "itertools.pairwise"].contains n && vs[0]? == some (rawInt _)) = true then _ else _) Q E s
           rw [if_neg (by intro h; rw [hn, Bool.false_and] at h; cases h)]
           exact wpAny_pure hQ))

/-- the list at a, as it stands at each turn (a loop may append to it) -/
def Itl (K : PySem.W.Frag) (a : Addr) : It :=
  ⟨fun i H => ∃ xs x, SqL K H a xs ∧ xs[i]? = some x, fun i H x H' => H' = H ∧ ∀ xs, SqL K H a xs → xs[i]? = some x, fun i H => ∃ xs, SqL K H a xs ∧ xs.length ≤ i⟩
/-- lo, lo + 1, .. (n of them) -/
def Itr (lo : Int) (n : Nat) : It := ⟨fun i _ => i < n, fun i H x H' => H' = H ∧ x = .int (lo + i), fun i _ => n ≤ i⟩
theorem turn_list {P : Program} {w : World} {K : PySem.W.Frag} {tg : Expr} (a it : Addr) : Turn P w K tg (Itl K a) [it] it (fun i h => h.IsListIter it a i) where
  mem := by simp
  obj := fun i h st b hb => by
    have e : b = it := by simpa using hb
    subst e
    obtain ⟨o, e, c, d⟩ := st
    exact ⟨o, e, fun v z => by rw [d] at z; cases z⟩
  keep := fun i h h' st k => st.at fun o e => k it (by simp) o e
  item := by
    intro X hP hw hK hc i pins s σ H E I hf st hg
    subst hP hw hK
    obtain ⟨xs, x, hq, hx⟩ := hg
    obtain ⟨its, rv, p, hz⟩ := I.list hq
    obtain ⟨u, hu, ru⟩ := rv.get hx
    obtain ⟨f0, f1, f2, f3, f4, f5⟩ := hf it (by simp)
    refine wpAny_pyNext_list_item st p.isList (x := u) (by simpa using hu) fun h' st' sb => ?_
    have I1 : Inv X pins σ H { s with heap := h' } := I.turned (t' := s.toks) (fun b o hb e => (sb.2 b hb).trans e) f0 f1 f3 f4 f5
    obtain ⟨o, e, c, d⟩ := id st'
    exact ⟨u, rfl, go_of (s := { s with heap := h' }) e c d (by decide) ⟨x, H, I1, ru, ⟨rfl, fun ys hy => by rw [I.list_inj hy hq]; exact hx⟩, st', fun b hb => (hf b hb).1⟩⟩
  done := by
    intro X hP hw hK hc i pins s σ H E I hf st hg
    subst hP hw hK
    obtain ⟨xs, hq, hx⟩ := hg
    obtain ⟨its, rv, p, hz⟩ := I.list hq
    obtain ⟨f0, f1, f2, f3, f4, f5⟩ := hf it (by simp)
    have hl := rv.length
    exact wpAny_pyNext_list_end (I.ok.hd hc) st p.isList (by simp; omega) fun h' eb => ⟨rfl, I.turned (t' := s.toks) (fun b o hb e => eb b o hb e) f0 f1 f3 f4 f5⟩
  self := fun _ _ _ _ _ st h => wpAny_pyIter_listiter st h
theorem turn_range {P : Program} {w : World} {K : PySem.W.Frag} {tg : Expr} (it : Addr) (lo : Int) (n : Nat) : Turn P w K tg (Itr lo n) [it] it (fun i h => IsRangeIter h it (lo + (i : Nat) * 1) ((n : Int) - (i : Nat)) 1) where
  mem := by simp
  obj := fun i h st b hb => by
    have e : b = it := by simpa using hb
    subst e
    exact ⟨_, st, fun v z => by
      have z' : Data.fields _ = Data.cell v := z
      cases z'⟩
  keep := fun i h h' st k => k it (by simp) _ st
  item := by
    intro X hP hw hK hc i pins s σ H E I hf st hg
    subst hP hw hK
    obtain ⟨f0, f1, f2, f3, f4, f5⟩ := hf it (by simp)
    have W := Walks.range (prog := X.prog) (w := X.w) (I.ok.hd hc) it lo 1 n
    refine W.item i s _ _ hg st fun v h' tk hv st' kk => ?_
    obtain ⟨t, rfl⟩ := hv
    have I1 : Inv X pins σ H { s with heap := h', toks := tk } := I.turned (fun b o hb e => kk b o (by simpa using hb) e) f0 f1 f3 f4 f5
    refine ⟨_, rfl, go_of (s := { s with heap := h', toks := tk }) (n := "range_iterator") st' rfl rfl (by decide) ⟨.int (lo + i), H, I1, ⟨t, ?_⟩, ⟨rfl, rfl⟩, st', fun b hb => (hf b hb).1⟩⟩
    rw [Int.mul_one]
  done := by
    intro X hP hw hK hc i pins s σ H E I hf st hg
    subst hP hw hK
    obtain ⟨f0, f1, f2, f3, f4, f5⟩ := hf it (by simp)
    exact wpAny_pyNext_range_end (I.ok.hd hc) st (by have : n ≤ i := hg; omega) fun h' eb => ⟨rfl, I.turned (t' := s.toks) (fun b o hb e => eb b o hb e) f0 f1 f3 f4 f5⟩
  self := fun _ _ _ _ _ st h => wpAny_pyIter_rangeiter st h
end L2

namespace L2
open PySem PySem.Spec PyProof.Rows
section
variable {X : Cx} {tg : Expr}
def iList (K : PySem.W.Frag) (tl : TE) : TI := fun σ H R => tl σ H fun x H1 => ∃ a, x = .ref a ∧ (∃ xs, SqL K H1 a xs) ∧ R (Itl K a) H1
theorem pi_list {l : Expr} {tl : TE} (hl : PE X l tl) : PI X tg l (iList X.K tl) := by
  intro pins s σ H R I h
  refine thn (hl pins s σ H _ I h) fun v s1 ⟨x, H1, I1, r1, q1⟩ => ?_
  obtain ⟨a, e, ⟨xs, hq⟩, q⟩ := q1
  subst e
  cases r1
  obtain ⟨its, rv, p, hz⟩ := I1.list hq
  refine wpAny_pyIter_list p.isList ?_
  refine ⟨s1.heap.objs.size, [s1.heap.objs.size], _, _, H1, rfl, I1.kept (t' := s1.toks) fun b o e => Heap.get?_push_of_some _ e, turn_list a _, ⟨_, Heap.get?_push_size _ rfl, rfl, rfl⟩, fun b hb => ?_, q⟩
  have e : b = s1.heap.objs.size := by simpa using hb
  subst e
  exact I1.fpOk (Nat.le_refl _) (I1.hok.fresh (Nat.le_refl _))
/-- a range object just made, walked -/
theorem range_it {pins : List (Addr × Obj)} {σ : St} {H : Hp} {s : Shared} {R : It → Hp → Prop} {E : Value → Shared → Prop} {lo hi : Int} {t u v : Tok} {tk : Nat} (I : Inv X pins σ H s) (h1 : -(2 ^ 62) ≤ lo) (h2 : lo < 2 ^ 62) (h3 : -(2 ^ 62) ≤ hi) (h4 : hi < 2 ^ 62)
    (q : R (Itr lo (hi - lo).toNat) H) : wpAny (model X.prog X.w) X.A (pyIter (.ref s.heap.objs.size)) (PIE X pins σ tg R) E { s with heap := s.heap.push { cls := .type "range", data := .fields #[.int lo t, .int hi u, .int 1 v] }, toks := tk } := by
  refine wpAny_pyIter_range (IsRange.new ..) (small_one h1 h2 h3 h4) ?_
  have I1 : Inv X pins σ H { s with heap := s.heap.push { cls := .type "range", data := .fields #[.int lo t, .int hi u, .int 1 v] }, toks := tk } := I.kept fun b o e => Heap.get?_push_of_some _ e
  refine ⟨(s.heap.push { cls := .type "range", data := .fields #[.int lo t, .int hi u, .int 1 v] }).objs.size, [(s.heap.push { cls := .type "range", data := .fields #[.int lo t, .int hi u, .int 1 v] }).objs.size], _, _, H, rfl,
    I1.kept (t' := tk) fun b o e => Heap.get?_push_of_some _ e, turn_range _ lo (hi - lo).toNat, ?_, fun b hb => ?_, q⟩
  · have e1 : lo + ((0 : Nat) : Int) * 1 = lo := by simp
    have e2 : (((hi - lo).toNat : Nat) : Int) - ((0 : Nat) : Int) = Builtin.Range.rangeSize lo hi 1 := by rw [rangeSize_one]; split <;> omega
    show IsRangeIter _ _ (lo + ((0 : Nat) : Int) * 1) ((((hi - lo).toNat : Nat) : Int) - ((0 : Nat) : Int)) 1
    rw [e1, e2]
    exact Heap.get?_push_size _ rfl
  · have e : b = (s.heap.push { cls := .type "range", data := .fields #[.int lo t, .int hi u, .int 1 v] }).objs.size := by simpa using hb
    subst e
    exact I1.fpOk (Nat.le_refl _) (I1.hok.fresh (Nat.le_refl _))
def iRng1 (ta : TA) : TI := fun σ H R => ta σ H fun vs H1 => ∃ j : Int, vs = [.int j] ∧ -(2 ^ 62) ≤ j ∧ j < 2 ^ 62 ∧ R (Itr 0 j.toNat) H1
theorem pi_range1 {a : Expr} {ta : TA} {p pos : Pos} (hg : Gl X "range") (hm : X.mg "range" = none) (ha : PA X [a] ta) (hs : starEach [a] X.env = [(false, eval a X.env)] := by rfl) : PI X tg (.Call (.Name "range" p) [a] [] pos) (iRng1 ta) := by
  intro pins s σ H R I h
  refine Call_ (ld_blt I hg hm boot_range (PyProof.Rows.callWith_type1 (thn (ha pos pins s σ H _ I h) fun us s1 ⟨vs, H1, I1, r1, q1⟩ => ?_) hs rfl))
  obtain ⟨j, e, q1, q2, q⟩ := q1
  subst e
  cases r1 with
  | cons r rr =>
    cases rr
    obtain ⟨t, rfl⟩ := r
    exact call_range_1 (range_it I1 (by omega) (by omega) q1 q2 (by simpa using q))
/-- W: the invariant by the turn and a measure; N: what the body is to reach -/
def tFor (wi : TI) (g : TG) (tb : TS) : TS := fun D σ H => wi σ H fun J H1 => ∃ W : Nat → Nat → St → Hp → Prop, (∃ m, W 0 m σ H1) ∧ ∀ i m σ H, W i m σ H →
  (J.stop i H ∧ D.nx σ H) ∨ (J.go i H ∧ ∃ N : St → Hp → Prop, (∀ σ' H', N σ' H' → ∃ m', m' < m ∧ W (i + 1) m' σ' H') ∧ ∀ x H', J.yld i H x H' → g x σ H' fun σ2 H2 => tb { D with nx := N, ct := N, bk := D.nx } σ2 H2)
/-- the records at fp as they stand -/
def pinsAt (fp : List Addr) (h : Heap) : List (Addr × Obj) := fp.filterMap fun b => (h.get? b).map fun o => (b, o)
theorem mem_pinsAt {fp : List Addr} {h : Heap} {b : Addr} {o : Obj} (hb : b ∈ fp) (e : h.get? b = some o) : (b, o) ∈ pinsAt fp h := List.mem_filterMap.mpr ⟨b, hb, by rw [e]; rfl⟩
theorem of_pinsAt {fp : List Addr} {h : Heap} {p : Addr × Obj} (hp : p ∈ pinsAt fp h) : p.1 ∈ fp ∧ h.get? p.1 = some p.2 := by
  obtain ⟨b, hb, e⟩ := List.mem_filterMap.mp hp
  cases q : h.get? b with
  | none => rw [q] at e; cases e
  | some o =>
    rw [q] at e
    have e' : (b, o) = p := Option.some.inj e
    subst e'
    exact ⟨hb, q⟩
theorem Inv.pinned {pins : List (Addr × Obj)} {σ : St} {H : Hp} {s : Shared} {fp : List Addr} (I : Inv X pins σ H s) (hf : ∀ b ∈ fp, FpOk X pins H b) (ho : ∀ b ∈ fp, ∃ o, s.heap.get? b = some o ∧ ∀ v, o.data ≠ .cell v) : Inv X (pins ++ pinsAt fp s.heap) σ H s :=
  I.pins_of fun p hp => (List.mem_append.mp hp).elim (fun z => I.pin p (List.mem_append_right _ z)) fun z => by
    obtain ⟨hb, e⟩ := of_pinsAt z
    obtain ⟨f0, f1, f2, _⟩ := hf p.1 hb
    obtain ⟨o, e', d⟩ := ho p.1 hb
    rw [e] at e'; cases e'
    exact ⟨e, f0, f1, f2, d⟩
theorem Inv.unpinned {pins pl : List (Addr × Obj)} {σ : St} {H : Hp} {s : Shared} (I : Inv X (pins ++ pl) σ H s) : Inv X pins σ H s := I.pins_of fun p hp => I.pin p (List.mem_append_right _ (List.mem_append_left _ hp))
theorem ps_for {iter : Expr} {body : List Stmt} {wi : TI} {g : TG} {tb : TS} {pos : Pos} (hp : PassesOwn (model X.prog X.w) X.A X.env X.xe) (hc : X.calm = true) (hi : PI X tg iter wi) (hg : PG X tg g) (hb : PSs X body tb)
    (hs : ∀ x, foldedSetIterable iter X.env x = pure x := by intro _; rfl) : PS X (.For tg iter body [] pos) (tFor wi g tb) := by
  intro pins s σ H D I h
  refine wpAny_For (thn (hi pins s σ H _ I h) fun v s1 h1 => thn h1 fun itv s2 h2 => ?_) hs
  obtain ⟨it, fp, tn, J, H2, e, I2, T, st2, f2, W, ⟨m0, w0⟩, turn⟩ := h2
  subst e
  -- what stays true of the iterator's objects through the loop
  have stat : ∀ {H' : Hp}, (∀ b ∈ fp, H' b = none) → ∀ b ∈ fp, FpOk X pins H' b := fun hn b hb => ⟨hn b hb, (f2 b hb).2⟩
  refine codeAny_forLoop_any (fun n s' => ∃ i σ' H', Inv X pins σ' H' s' ∧ tn i s'.heap ∧ (∀ b ∈ fp, H' b = none) ∧ W i n σ' H') ?_ m0 ⟨0, σ, H2, I2, st2, fun b hb => (f2 b hb).1, w0⟩
  rintro n s3 ⟨i, σ3, H3, I3, st3, fr3, w3⟩
  rcases turn i n σ3 H3 w3 with ⟨stop, qn⟩ | ⟨go, N, hN, step⟩
  · refine wpAny_passesOwn hp (thn (T.done X rfl rfl rfl hc i pins s3 σ3 H3 X.xe I3 (stat fr3) st3 stop) fun r s4 ⟨hr, I4⟩ => ?_)
    subst hr
    exact wpAny_execs_nil ⟨σ3, H3, I4, qn⟩
  · refine wpAny_passesOwn hp (thn (T.item X rfl rfl rfl hc i pins s3 σ3 H3 X.xe I3 (stat fr3) st3 go) fun r s4 ⟨u, hr, h4⟩ => ?_)
    subst hr
    refine wpAny_passesOwn hp (thn h4 fun _ s5 ⟨x, H5, I5, r5, y5, st5, fr5⟩ => ?_)
    have I5' := I5.pinned (stat fr5) (T.obj _ _ st5)
    refine wpAny_passesOwn hp (thn (hg _ s5 σ3 H5 x u _ I5' r5 (step x H5 y5)) fun _ s6 ⟨σ6, H6, I6, q6⟩ => ?_)
    refine wpAny_passesOwn hp (thn (hb _ s6 σ6 H6 _ I6 q6) fun f s7 q7 => ?_)
    have again : ∀ {σ7 : St} {H7 : Hp}, Inv X (pins ++ pinsAt fp s5.heap) σ7 H7 s7 → N σ7 H7 → ∃ m, m < n ∧ ∃ i σ' H', Inv X pins σ' H' s7 ∧ tn i s7.heap ∧ (∀ b ∈ fp, H' b = none) ∧ W i m σ' H' := fun {σ7 H7} I7 n7 => by
      obtain ⟨m', hm, w7⟩ := hN σ7 H7 n7
      refine ⟨m', hm, i + 1, σ7, H7, I7.unpinned, T.keep _ _ _ st5 fun b hb o e => (I7.pin (b, o) (List.mem_append_right _ (List.mem_append_right _ (mem_pinsAt hb e)))).1, fun b hb => ?_, w7⟩
      obtain ⟨o, e, d⟩ := T.obj _ _ st5 b hb
      exact (I7.pin (b, o) (List.mem_append_right _ (List.mem_append_right _ (mem_pinsAt hb e)))).2.1
    cases f with
    | next => obtain ⟨σ7, H7, I7, n7⟩ := q7; exact again I7 n7
    | cont => obtain ⟨σ7, H7, I7, n7⟩ := q7; exact again I7 n7
    | brk => obtain ⟨σ7, H7, I7, q7⟩ := q7; exact ⟨σ7, H7, I7.unpinned, q7⟩
    | ret v => obtain ⟨x7, σ7, H7, I7, r7, q7⟩ := q7; exact ⟨x7, σ7, H7, I7.unpinned, r7, q7⟩
end

/-- over a list that the body leaves as it is -/
theorem for_list {K : PySem.W.Frag} {a : Addr} {xs : List V} {g : TG} {tb : TS} {D : Ends} {σ : St} {H : Hp} (Pv : Nat → St → Hp → Prop) (h0 : Pv 0 σ H) (hl : ∀ i σ H, i ≤ xs.length → Pv i σ H → SqL K H a xs)
    (hs : ∀ i x σ H, xs[i]? = some x → Pv i σ H → g x σ H fun σ2 H2 => tb { D with nx := Pv (i + 1), ct := Pv (i + 1), bk := D.nx } σ2 H2) (hd : ∀ σ H, Pv xs.length σ H → D.nx σ H) :
    ∃ W : Nat → Nat → St → Hp → Prop, (∃ m, W 0 m σ H) ∧ ∀ i m σ H, W i m σ H →
      ((Itl K a).stop i H ∧ D.nx σ H) ∨ ((Itl K a).go i H ∧ ∃ N : St → Hp → Prop, (∀ σ' H', N σ' H' → ∃ m', m' < m ∧ W (i + 1) m' σ' H') ∧ ∀ x H', (Itl K a).yld i H x H' → g x σ H' fun σ2 H2 => tb { D with nx := N, ct := N, bk := D.nx } σ2 H2) := by
  refine ⟨fun i m σ H => m = xs.length - i ∧ i ≤ xs.length ∧ Pv i σ H, ⟨xs.length, by simp, Nat.zero_le _, h0⟩, ?_⟩
  rintro i m σ H ⟨rfl, hi, p⟩
  have q := hl i σ H hi p
  by_cases hlt : i < xs.length
  · refine .inr ⟨⟨xs, xs[i], q, by simp [hlt]⟩, Pv (i + 1), fun σ' H' p' => ⟨xs.length - (i + 1), by omega, rfl, hlt, p'⟩, fun x H' y => ?_⟩
    obtain ⟨e, y⟩ := y
    subst e
    exact hs i x σ _ (y xs q) p
  · have e : i = xs.length := by omega
    subst e
    exact .inl ⟨⟨xs, q, Nat.le_refl _⟩, hd σ H p⟩
theorem for_range {lo : Int} {n : Nat} {g : TG} {tb : TS} {D : Ends} {σ : St} {H : Hp} (Pv : Nat → St → Hp → Prop) (h0 : Pv 0 σ H)
    (hs : ∀ i σ H, i < n → Pv i σ H → g (.int (lo + i)) σ H fun σ2 H2 => tb { D with nx := Pv (i + 1), ct := Pv (i + 1), bk := D.nx } σ2 H2) (hd : ∀ σ H, Pv n σ H → D.nx σ H) :
    ∃ W : Nat → Nat → St → Hp → Prop, (∃ m, W 0 m σ H) ∧ ∀ i m σ H, W i m σ H →
      ((Itr lo n).stop i H ∧ D.nx σ H) ∨ ((Itr lo n).go i H ∧ ∃ N : St → Hp → Prop, (∀ σ' H', N σ' H' → ∃ m', m' < m ∧ W (i + 1) m' σ' H') ∧ ∀ x H', (Itr lo n).yld i H x H' → g x σ H' fun σ2 H2 => tb { D with nx := N, ct := N, bk := D.nx } σ2 H2) := by
  refine ⟨fun i m σ H => m = n - i ∧ i ≤ n ∧ Pv i σ H, ⟨n, by simp, Nat.zero_le _, h0⟩, ?_⟩
  rintro i m σ H ⟨rfl, hi, p⟩
  by_cases hlt : i < n
  · refine .inr ⟨hlt, Pv (i + 1), fun σ' H' p' => ⟨n - (i + 1), by omega, rfl, hlt, p'⟩, fun x H' y => ?_⟩
    obtain ⟨e, y⟩ := y
    subst e y
    exact hs i σ _ hlt p
  · have e : i = n := by omega
    subst e
    exact .inl ⟨Nat.le_refl _, hd σ H p⟩
end L2

namespace L2
open PySem PySem.Spec PyProof.Rows

abbrev R2 := V → V → Hp → VK → Prop
/-- a two-place operation on values: f is binaryOp op, inplaceOp op or compareOp op -/
def OpR (X : Cx) (f : Value → Value → Sem Value) (r : R2) : Prop :=
  ∀ (pins : List (Addr × Obj)) (s : Shared) (σ : St) (H : Hp) (x y : V) (v u : Value) (Q : VK), Inv X pins σ H s → RelV x v → RelV y u → r x y H Q →
    wpAny (model X.prog X.w) X.A (f v u) (EP X pins σ Q) X.xe s
/-- a one-place operation -/
def UnR (X : Cx) (f : Value → Sem Value) (r : V → Hp → VK → Prop) : Prop :=
  ∀ (pins : List (Addr × Obj)) (s : Shared) (σ : St) (H : Hp) (x : V) (v : Value) (Q : VK), Inv X pins σ H s → RelV x v → r x H Q →
    wpAny (model X.prog X.w) X.A (f v) (EP X pins σ Q) X.xe s
/-- a call of a value that is known (a builtin, a type) with values -/
def CallR (X : Cx) (f : Value) (r : List V → Hp → VK → Prop) : Prop :=
  ∀ (pins : List (Addr × Obj)) (s : Shared) (σ : St) (H : Hp) (xs : List V) (us : List Value) (Q : VK), Inv X pins σ H s → Vals xs us → r xs H Q →
    wpAny (model X.prog X.w) X.A (call f us) (EP X pins σ Q) X.xe s
def tOp (r : R2) (ta tb : TE) : TE := fun σ H Q => ta σ H fun x H1 => tb σ H1 fun y H2 => r x y H2 Q
def tUn (r : V → Hp → VK → Prop) (ta : TE) : TE := fun σ H Q => ta σ H fun x H1 => r x H1 Q
/-- ints in, under C, and a value out -/
def rI (C : Int → Int → Prop) (g : Int → Int → V) : R2 := fun x y H Q => ∃ i j, x = .int i ∧ y = .int j ∧ C i j ∧ Q (g i j) H
def rI0 (g : Int → Int → V) : R2 := fun x y H Q => ∃ i j, x = .int i ∧ y = .int j ∧ Q (g i j) H
def rU (g : Int → V) : V → Hp → VK → Prop := fun x H Q => ∃ i, x = .int i ∧ Q (g i) H

section
variable {X : Cx} {a b c : Expr} {ta tb tc : TE} {pos : Pos}

theorem binT (ha : PE X a ta) (hb : PE X b tb) {pins : List (Addr × Obj)} {s : Shared} {σ : St} {H : Hp} {R : V → V → Hp → Prop} (I : Inv X pins σ H s)
    (h : ta σ H fun x H1 => tb σ H1 fun y H2 => R x y H2) {Q : Value → Shared → Prop} {f : Value → Value → Sem Value}
    (hf : ∀ v u s2 x y H2, Inv X pins σ H2 s2 → RelV x v → RelV y u → R x y H2 → wpAny (model X.prog X.w) X.A (f v u) Q X.xe s2) :
    wpAny (model X.prog X.w) X.A (eval a X.env) (fun v s₁ => wpAny (model X.prog X.w) X.A (eval b X.env) (fun u s₂ => wpAny (model X.prog X.w) X.A (f v u) Q X.xe s₂) X.xe s₁) X.xe s := by
  refine thn (ha pins s σ H _ I h) fun v s1 ⟨x, H1, I1, r1, q1⟩ => ?_
  refine thn (hb pins s1 σ H1 _ I1 q1) fun u s2 ⟨y, H2, I2, r2, q2⟩ => ?_
  exact hf v u s2 x y H2 I2 r1 r2 q2

theorem pe_op {op : Operator} {r : R2} (ho : OpR X (binaryOp op) r) (ha : PE X a ta) (hb : PE X b tb) : PE X (.BinOp a op b pos) (tOp r ta tb) := by
  intro pins s σ H Q I h
  exact wpAny_BinOp (binT ha hb I h fun v u s2 x y H2 I2 rx ry q => ho pins s2 σ H2 x y v u Q I2 rx ry q)
theorem pe_un {op : UnaryOp} {r : V → Hp → VK → Prop} (ho : UnR X (unaryOp op) r) (ha : PE X a ta) : PE X (.UnaryOp op a pos) (tUn r ta) := by
  intro pins s σ H Q I h
  exact UnaryOp_ (thn (ha pins s σ H _ I h) fun v s1 ⟨x, H1, I1, r1, q1⟩ => ho pins s1 σ H1 x v Q I1 r1 q1)
theorem opI {f : Value → Value → Sem Value} {C : Int → Int → Prop} {g : Int → Int → Int}
    (rule : ∀ (i j : Int) (t u : Tok) (s : Shared) (Q : Value → Shared → Prop) (E : Value → Shared → Prop), C i j → Q (.int (g i j) s.toks) { s with toks := s.toks + 1 } → wpAny (model X.prog X.w) X.A (f (.int i t) (.int j u)) Q E s) :
    OpR X f (rI C fun i j => .int (g i j)) := by
  intro pins s σ H x y v u Q I rx ry h
  obtain ⟨i, j, rfl, rfl, hc, q⟩ := h
  obtain ⟨t, rfl⟩ := rx
  obtain ⟨t', rfl⟩ := ry
  exact rule i j t t' s _ _ hc ⟨.int (g i j), H, I.tok _, ⟨_, rfl⟩, q⟩
theorem opI0 {f : Value → Value → Sem Value} {g : Int → Int → Int}
    (rule : ∀ (i j : Int) (t u : Tok) (s : Shared) (Q : Value → Shared → Prop) (E : Value → Shared → Prop), Q (.int (g i j) s.toks) { s with toks := s.toks + 1 } → wpAny (model X.prog X.w) X.A (f (.int i t) (.int j u)) Q E s) :
    OpR X f (rI0 fun i j => .int (g i j)) := by
  intro pins s σ H x y v u Q I rx ry h
  obtain ⟨i, j, rfl, rfl, q⟩ := h
  obtain ⟨t, rfl⟩ := rx
  obtain ⟨t', rfl⟩ := ry
  exact rule i j t t' s _ _ ⟨.int (g i j), H, I.tok _, ⟨_, rfl⟩, q⟩
theorem opB0 {f : Value → Value → Sem Value} {g : Int → Int → Bool}
    (rule : ∀ (i j : Int) (t u : Tok) (s : Shared) (Q : Value → Shared → Prop) (E : Value → Shared → Prop), Q (.bool (g i j)) s → wpAny (model X.prog X.w) X.A (f (.int i t) (.int j u)) Q E s) :
    OpR X f (rI0 fun i j => .bl (g i j)) := by
  intro pins s σ H x y v u Q I rx ry h
  obtain ⟨i, j, rfl, rfl, q⟩ := h
  obtain ⟨t, rfl⟩ := rx
  obtain ⟨t', rfl⟩ := ry
  exact rule i j t t' s _ _ ⟨.bl (g i j), H, I, rfl, q⟩

def CDiv (i j : Int) : Prop := 0 < j ∧ j < 1073741824
def CPow (i j : Int) : Prop := 0 ≤ j ∧ j ≤ 1000000 ∧ i.natAbs < 2 ^ 64
def CMul (i j : Int) : Prop := (-(2 ^ 64) < i ∧ i < 2 ^ 64) ∨ (-(2 ^ 64) < j ∧ j < 2 ^ 64)
theorem CMul.ok {i j : Int} (h : CMul i j) : IntMulOk i j := by
  rcases h with ⟨h1, h2⟩ | ⟨h1, h2⟩
  · exact .of_left (intBits_le_64 h1 h2)
  · exact .of_right (intBits_le_64 h1 h2)
theorem op_add : OpR X (binaryOp .Add) (rI0 fun i j => .int (i + j)) := opI0 fun _ _ _ _ _ _ _ q => add_int q
theorem op_sub : OpR X (binaryOp .Sub) (rI0 fun i j => .int (i - j)) := opI0 fun _ _ _ _ _ _ _ q => sub_int q
theorem op_mul : OpR X (binaryOp .Mult) (rI CMul fun i j => .int (i * j)) := opI fun _ _ _ _ _ _ _ hc q => mul_int q hc.ok
/-- // by a positive divisor -/
theorem op_fdiv : OpR X (binaryOp .FloorDiv) (rI CDiv fun i j => .int (i / j)) := opI fun i j _ _ _ _ _ hc q => by
  have h1 : (0 : Int) < j := hc.1
  have h2 : j < 1073741824 := hc.2
  exact floordiv_int (by omega) (by rw [Int.fdiv_eq_ediv_of_nonneg i (by omega)]; exact q) (.inl (PyProof.noPylong_small (by omega)))
/-- % by a positive divisor of any size -/
theorem op_mod : OpR X (binaryOp .Mod) (rI (fun _ j => 0 < j) fun i j => .int (i % j)) := opI fun i j _ _ _ _ _ hc q => by
  have h1 : (0 : Int) < j := hc
  exact mod_int' (by omega) (by rw [Int.fmod_eq_emod_of_nonneg i (by omega)]; exact q)
theorem op_pow : OpR X (binaryOp .Pow) (rI CPow fun i j => .int (i ^ j.toNat)) := opI fun _ _ _ _ _ _ _ hc q => pow_int_small hc.1 hc.2.1 hc.2.2 q
theorem unI {f : Value → Sem Value} {g : Int → Int}
    (rule : ∀ (i : Int) (t : Tok) (s : Shared) (Q : Value → Shared → Prop) (E : Value → Shared → Prop), Q (.int (g i) s.toks) { s with toks := s.toks + 1 } → wpAny (model X.prog X.w) X.A (f (.int i t)) Q E s) :
    UnR X f (rU fun i => .int (g i)) := by
  intro pins s σ H x v Q I rx h
  obtain ⟨i, rfl, q⟩ := h
  obtain ⟨t, rfl⟩ := rx
  exact rule i t s _ _ ⟨.int (g i), H, I.tok _, ⟨_, rfl⟩, q⟩
theorem un_neg : UnR X (unaryOp .USub) (rU fun i => .int (-i)) := unI fun _ _ _ _ _ q => neg_int q
end

/-- the scalars that == tells apart as data does -/
def scal : V → V → Bool
  | .non, .non => true | .non, .int _ => true | .int _, .non => true | .non, .bl _ => true | .bl _, .non => true | .non, .str _ => true | .str _, .non => true
  | .int _, .int _ => true | .bl _, .bl _ => true | .str _, .str _ => true | .byt _, .byt _ => true
  | .int _, .str _ => true | .str _, .int _ => true | .bl _, .str _ => true | .str _, .bl _ => true
  | _, _ => false
def rEq : R2 := fun x y H Q => scal x y = true ∧ Q (.bl (decide (x = y))) H
def rNe : R2 := fun x y H Q => scal x y = true ∧ Q (.bl (!decide (x = y))) H

theorem dec_int {i j : Int} : decide (V.int i = V.int j) = (i == j) := by
  rw [Bool.eq_iff_iff]
  simp
theorem dec_bl {i j : Bool} : decide (V.bl i = V.bl j) = (i == j) := by
  rw [Bool.eq_iff_iff]
  simp
theorem dec_str {i j : Str} : decide (V.str i = V.str j) = (i == j) := by
  rw [Bool.eq_iff_iff]
  simp
theorem dec_byt {i j : Array UInt8} : decide (V.byt i = V.byt j) = (i.toList == j.toList) := by
  rw [Bool.eq_iff_iff]
  cases i
  cases j
  simp

section
variable {X : Cx} {a b c : Expr} {ta tb tc : TE} {pos : Pos}
theorem fin_bl {pins : List (Addr × Obj)} {σ : St} {H : Hp} {s : Shared} {Q : VK} {k k' : Bool} (I : Inv X pins σ H s) (q : Q (.bl k) H) (e : k = k') : EP X pins σ Q (.bool k') s := by
  subst e
  exact ⟨.bl k, H, I, rfl, q⟩
theorem op_eq : OpR X (compareOp .Eq) rEq := by
  intro pins s σ H x y v u Q I rx ry h
  obtain ⟨hs, q⟩ := h
  cases x with
  | non =>
    cases rx
    cases y with
    | non => cases ry; exact PySem.EqNone.eq_none_none (fin_bl I q (by simp))
    | bl j => cases ry; exact PySem.EqNone.eq_none_bool (fin_bl I q (by simp))
    | int j => obtain ⟨t', rfl⟩ := ry; exact PySem.EqNone.eq_none_int (fin_bl I q (by simp))
    | str j => obtain ⟨t', rfl⟩ := ry; exact PySem.EqNone.eq_none_str (fin_bl I q (by simp))
    | _ => exact absurd (show false = true from hs) Bool.false_ne_true
  | bl i =>
    cases rx
    cases y with
    | non => cases ry; exact PySem.EqNone.eq_bool_none (fin_bl I q (by simp))
    | bl j => cases ry; exact eq_bool (fin_bl I q dec_bl)
    | str j => obtain ⟨t', rfl⟩ := ry; exact PySem.EqMixed.eq_bool_str (fin_bl I q (by simp))
    | _ => exact absurd (show false = true from hs) Bool.false_ne_true
  | int i =>
    obtain ⟨t, rfl⟩ := rx
    cases y with
    | non => cases ry; exact PySem.EqNone.eq_int_none (fin_bl I q (by simp))
    | int j => obtain ⟨t', rfl⟩ := ry; exact eq_int (fin_bl I q dec_int)
    | str j => obtain ⟨t', rfl⟩ := ry; exact PySem.EqMixed.eq_int_str (fin_bl I q (by simp))
    | _ => exact absurd (show false = true from hs) Bool.false_ne_true
  | str i =>
    obtain ⟨t, rfl⟩ := rx
    cases y with
    | non => cases ry; exact PySem.EqNone.eq_str_none (fin_bl I q (by simp))
    | bl j => cases ry; exact PySem.EqMixed.eq_str_bool (fin_bl I q (by simp))
    | int j => obtain ⟨t', rfl⟩ := ry; exact PySem.EqMixed.eq_str_int (fin_bl I q (by simp))
    | str j => obtain ⟨t', rfl⟩ := ry; exact eq_str (fin_bl I q dec_str)
    | _ => exact absurd (show false = true from hs) Bool.false_ne_true
  | byt i =>
    obtain ⟨t, rfl⟩ := rx
    cases y with
    | byt j => obtain ⟨t', rfl⟩ := ry; exact PySem.W.eq_bytes (fin_bl I q dec_byt)
    | _ => exact absurd (show false = true from hs) Bool.false_ne_true
  | _ => cases y <;> exact absurd (show false = true from hs) Bool.false_ne_true
theorem op_ne : OpR X (compareOp .NotEq) rNe := by
  intro pins s σ H x y v u Q I rx ry h
  obtain ⟨hs, q⟩ := h
  cases x with
  | non =>
    cases rx
    cases y with
    | non => cases ry; exact PySem.EqNone.ne_none_none (fin_bl I q (by simp))
    | bl j => cases ry; exact PySem.EqNone.ne_none_bool (fin_bl I q (by simp))
    | int j => obtain ⟨t', rfl⟩ := ry; exact PySem.EqNone.ne_none_int (fin_bl I q (by simp))
    | str j => obtain ⟨t', rfl⟩ := ry; exact PySem.EqNone.ne_none_str (fin_bl I q (by simp))
    | _ => exact absurd (show false = true from hs) Bool.false_ne_true
  | bl i =>
    cases rx
    cases y with
    | non => cases ry; exact PySem.EqNone.ne_bool_none (fin_bl I q (by simp))
    | bl j => cases ry; exact ne_bool (fin_bl I q (congrArg not dec_bl))
    | str j => obtain ⟨t', rfl⟩ := ry; exact PySem.EqMixed.ne_bool_str (fin_bl I q (by simp))
    | _ => exact absurd (show false = true from hs) Bool.false_ne_true
  | int i =>
    obtain ⟨t, rfl⟩ := rx
    cases y with
    | non => cases ry; exact PySem.EqNone.ne_int_none (fin_bl I q (by simp))
    | int j => obtain ⟨t', rfl⟩ := ry; exact ne_int (fin_bl I q (congrArg not dec_int))
    | str j => obtain ⟨t', rfl⟩ := ry; exact PySem.EqMixed.ne_int_str (fin_bl I q (by simp))
    | _ => exact absurd (show false = true from hs) Bool.false_ne_true
  | str i =>
    obtain ⟨t, rfl⟩ := rx
    cases y with
    | non => cases ry; exact PySem.EqNone.ne_str_none (fin_bl I q (by simp))
    | bl j => cases ry; exact PySem.EqMixed.ne_str_bool (fin_bl I q (by simp))
    | int j => obtain ⟨t', rfl⟩ := ry; exact PySem.EqMixed.ne_str_int (fin_bl I q (by simp))
    | str j => obtain ⟨t', rfl⟩ := ry; exact ne_str (fin_bl I q (congrArg not dec_str))
    | _ => exact absurd (show false = true from hs) Bool.false_ne_true
  | byt i =>
    obtain ⟨t, rfl⟩ := rx
    cases y with
    | byt j => obtain ⟨t', rfl⟩ := ry; exact PySem.W.ne_bytes (fin_bl I q (congrArg not dec_byt))
    | _ => exact absurd (show false = true from hs) Bool.false_ne_true
  | _ => cases y <;> exact absurd (show false = true from hs) Bool.false_ne_true

theorem op_lt : OpR X (compareOp .Lt) (rI0 fun i j => .bl (decide (i < j))) := opB0 fun _ _ _ _ _ _ _ q => lt_int q
theorem op_le : OpR X (compareOp .LtE) (rI0 fun i j => .bl (decide (i ≤ j))) := opB0 fun _ _ _ _ _ _ _ q => le_int q
theorem op_gt : OpR X (compareOp .Gt) (rI0 fun i j => .bl (decide (j < i))) := opB0 fun _ _ _ _ _ _ _ q => gt_int q
theorem op_ge : OpR X (compareOp .GtE) (rI0 fun i j => .bl (decide (j ≤ i))) := opB0 fun _ _ _ _ _ _ _ q => ge_int q
theorem nomark (b : Expr) {op : CmpOp} (h : op ≠ .In := by decide) (h2 : op ≠ .NotIn := by decide) : behindInMarks op b = false := by
  have e1 : (op == CmpOp.In) = false := by cases op <;> first | rfl | exact absurd rfl h
  have e2 : (op == CmpOp.NotIn) = false := by cases op <;> first | rfl | exact absurd rfl h2
  cases b <;> simp [behindInMarks, e1, e2]
/-- a comparison as a value; hm: nomark b, or (for in, not in) by with_unfolding_all rfl -/
theorem pe_cmpR {op : CmpOp} {r : R2} (ho : OpR X (compareOp op) r) (ha : PE X a ta) (hb : PE X b tb) (hm : behindInMarks op b = false) : PE X (.Compare a [op] [b] pos) (tOp r ta tb) := by
  intro pins s σ H Q I h
  exact wpAny_Compare1 (binT ha hb I h fun v u s2 x y H2 I2 rx ry q => ho pins s2 σ H2 x y v u Q I2 rx ry q) hm
/-- a reading of a value as a test -/
def tTest (t : TE) : TT := fun σ H Q => t σ H fun x H' => ∃ k, x = .bl k ∧ Q k H'
theorem pt_cmpR {op : CmpOp} {r : R2} (ho : OpR X (compareOp op) r) (ha : PE X a ta) (hb : PE X b tb) (hm : behindInMarks op b = false) : PT X (.Compare a [op] [b] pos) (tTest (tOp r ta tb)) := by
  intro pins s σ H Q I h
  refine wpAny_isTrue_Compare1 (thn (ha pins s σ H _ I h) fun v s1 ⟨x, H1, I1, r1, q1⟩ => thn (hb pins s1 σ H1 _ I1 q1) fun u s2 ⟨y, H2, I2, r2, q2⟩ =>
    thn (ho pins s2 σ H2 x y v u _ I2 r1 r2 q2) fun c s3 ⟨z, H3, I3, r3, k, e, q3⟩ => ?_) hm
  subst e
  cases r3
  exact wpAny_truthy_bool ⟨H3, I3, q3⟩
theorem line63 : (sizeLine : Nat) < 2 ^ 63 := by rw [sizeLine_eq]; decide
theorem op_add_str : OpR X (binaryOp .Add) (fun x y H Q => ∃ i j, x = .str i ∧ y = .str j ∧ i.length + j.length ≤ sizeLine ∧ Q (.str (i ++ j)) H) := by
  intro pins s σ H x y v u Q I rx ry h
  obtain ⟨i, j, rfl, rfl, hz, q⟩ := h
  obtain ⟨t, rfl⟩ := rx
  obtain ⟨t', rfl⟩ := ry
  exact add_str (fun t' tk => ⟨.str (i ++ j), H, I.tok _, ⟨_, rfl⟩, q⟩) hz
theorem vals1 {x : V} {us : List Value} (r : Vals [x] us) : ∃ u, us = [u] ∧ RelV x u := by
  cases r with
  | cons r1 r2 => cases r2; exact ⟨_, rfl, r1⟩
theorem vals2 {x y : V} {us : List Value} (r : Vals [x, y] us) : ∃ u w', us = [u, w'] ∧ RelV x u ∧ RelV y w' := by
  cases r with
  | cons r1 r2 =>
    cases r2 with
    | cons r3 r4 => cases r4; exact ⟨_, _, rfl, r1, r3⟩
theorem call_abs : CallR X (.builtin "abs") (fun xs H Q => ∃ i, xs = [.int i] ∧ Q (.int (if i < 0 then -i else i)) H) := by
  intro pins s σ H xs us Q I r h
  obtain ⟨i, rfl, q⟩ := h
  obtain ⟨u, rfl, t, rfl⟩ := vals1 r
  exact call_abs_int fun u tk => ⟨.int (if i < 0 then -i else i), H, I.tok _, ⟨_, rfl⟩, q⟩
theorem call_max2 (hc : X.calm = true) : CallR X (.builtin "max") (fun xs H Q => ∃ i j, xs = [.int i, .int j] ∧ Q (.int (if j > i then j else i)) H) := by
  intro pins s σ H xs us Q I r h
  obtain ⟨i, j, rfl, q⟩ := h
  obtain ⟨u, w', rfl, ⟨t, rfl⟩, ⟨t', rfl⟩⟩ := vals2 r
  refine max_two_ints (I.ok.hd hc) fun h' tk k => ⟨_, H, I.kept k, ?_, q⟩
  by_cases hj : j > i
  · rw [if_pos hj, if_pos hj]; exact ⟨_, rfl⟩
  · rw [if_neg hj, if_neg hj]; exact ⟨_, rfl⟩
theorem call_min2 (hc : X.calm = true) : CallR X (.builtin "min") (fun xs H Q => ∃ i j, xs = [.int i, .int j] ∧ Q (.int (if j < i then j else i)) H) := by
  intro pins s σ H xs us Q I r h
  obtain ⟨i, j, rfl, q⟩ := h
  obtain ⟨u, w', rfl, ⟨t, rfl⟩, ⟨t', rfl⟩⟩ := vals2 r
  refine min_two_ints (I.ok.hd hc) fun h' tk k => ⟨_, H, I.kept k, ?_, q⟩
  by_cases hj : j < i
  · rw [if_pos hj, if_pos hj]; exact ⟨_, rfl⟩
  · rw [if_neg hj, if_neg hj]; exact ⟨_, rfl⟩
theorem call_str_int : CallR X (.type "str") (fun xs H Q => ∃ i, xs = [.int i] ∧ i.natAbs.log2 < 1920 ∧ Q (.str (toString i)) H) := by
  intro pins s σ H xs us Q I r h
  obtain ⟨i, rfl, hz, q⟩ := h
  obtain ⟨u, rfl, t, rfl⟩ := vals1 r
  exact PySem.P.str_of_int hz ⟨.str _, H, I.tok _, ⟨_, rfl⟩, q⟩
end
end L2

namespace L2
open PySem PySem.Spec PyProof.Rows

structure ObjM (h : Heap) (x dx C : Addr) (mA : Str → Option Value) : Prop where
  obj : h.get? x = some (PySem.W.instObj C dx)
  ns : h.Ns1 dx mA
  ne : dx ≠ x

theorem lookIn_ns {h : Heap} {dx : Addr} {mA : Str → Option Value} (n : h.Ns1 dx mA) : ∃ od, h.get? dx = some od ∧ ∀ name, PySem.W.lookIn name od = some (mA name) := by
  obtain ⟨o, es, ep, ho, hd, hk, _, hm⟩ := n
  refine ⟨o, ho, fun name => ?_⟩
  have e := hm name
  unfold nsFind findBy at e
  rw [← Array.find?_toList] at e
  unfold PySem.W.lookIn
  rw [hd]
  dsimp only
  split
  · rename_i y q
    rw [q] at e
    exact congrArg some e
  · rename_i q
    rw [q] at e
    have a : es.toList.any (·.refKey) = false := by
      rw [List.any_eq_false]
      intro y hy
      obtain ⟨z, t, hkey⟩ := hk y (Array.mem_toList_iff.mp hy)
      simp [DictEntry.refKey, hkey]
    have a' : ¬ es.toList.any (·.refKey) = true := by rw [a]; exact Bool.false_ne_true
    rw [if_neg a']
    exact congrArg some e

theorem ObjM.look {h : Heap} {x dx C : Addr} {mA : Str → Option Value} (I : ObjM h x dx C mA) : ∃ od, PySem.W.InstAt h x (PySem.W.instObj C dx) C (some od) ∧ ∀ name, PySem.W.lookIn name od = some (mA name) :=
  let ⟨od, ho, hl⟩ := lookIn_ns I.ns
  ⟨od, ⟨I.obj, rfl, rfl, ho⟩, hl⟩

section
variable {prog : Program} {w : World} {A : Around} {E : Value → Shared → Prop} {s : Shared} {K : PySem.W.Frag} {x dx C f : Addr} {mA : Str → Option Value} {name : Str} {v : Value}

end

def putF (f : Str) (v : V) : List (Str × V) → List (Str × V)
  | [] => [(f, v)]
  | (g, x) :: r => if g = f then (g, v) :: r else (g, x) :: putF f v r
theorem lookup_putF (f g : Str) (v : V) : ∀ fs : List (Str × V), (putF f v fs).lookup g = if g = f then some v else fs.lookup g
  | [] => by
    show List.lookup g [(f, v)] = _
    by_cases h : g = f
    · have hb : (g == f) = true := beq_iff_eq.mpr h
      simp only [List.lookup, hb, if_pos h]
    · have hb : (g == f) = false := beq_eq_false_iff_ne.mpr h
      simp only [List.lookup, hb, if_neg h]
  | (k, x) :: r => by
    have ih := lookup_putF f g v r
    rw [show putF f v ((k, x) :: r) = (if k = f then (k, v) :: r else (k, x) :: putF f v r) from rfl]
    by_cases hk : k = f
    · rw [if_pos hk]
      by_cases h : g = k
      · have hb : (g == k) = true := beq_iff_eq.mpr h
        simp only [List.lookup, hb, if_pos (h.trans hk)]
      · have hb : (g == k) = false := beq_eq_false_iff_ne.mpr h
        simp only [List.lookup, hb, if_neg (fun e : g = f => h (e.trans hk.symm))]
    · rw [if_neg hk]
      by_cases h : g = k
      · have hb : (g == k) = true := beq_iff_eq.mpr h
        simp only [List.lookup, hb, if_neg (fun e : g = f => hk (h.symm.trans e))]
      · have hb : (g == k) = false := beq_eq_false_iff_ne.mpr h
        simp only [List.lookup, hb]
        exact ih
theorem keys_putF (f : Str) (v : V) : ∀ fs : List (Str × V), f ∈ (putF f v fs).map (·.1) ∧ ∀ g, g ∈ fs.map (·.1) → g ∈ (putF f v fs).map (·.1)
  | [] => ⟨by simp [putF], fun g h => by simp at h⟩
  | (k, x) :: r => by
    obtain ⟨i1, i2⟩ := keys_putF f v r
    rw [show putF f v ((k, x) :: r) = (if k = f then (k, v) :: r else (k, x) :: putF f v r) from rfl]
    by_cases hk : k = f
    · rw [if_pos hk]
      subst hk
      exact ⟨by simp, fun g h => by simpa using h⟩
    · rw [if_neg hk]
      refine ⟨?_, fun g h => ?_⟩
      · rw [List.map_cons]
        exact List.mem_cons_of_mem _ i1
      · rw [List.map_cons] at h ⊢
        rcases List.mem_cons.mp h with e | e
        · exact List.mem_cons.mpr (.inl e)
        · exact List.mem_cons_of_mem _ (i2 g e)
theorem length_putF (f : Str) (v : V) : ∀ fs : List (Str × V), (putF f v fs).length ≤ fs.length + 1
  | [] => by simp [putF]
  | (k, x) :: r => by
    have ih := length_putF f v r
    rw [show putF f v ((k, x) :: r) = (if k = f then (k, v) :: r else (k, x) :: putF f v r) from rfl]
    by_cases hk : k = f
    · rw [if_pos hk, List.length_cons, List.length_cons]; omega
    · rw [if_neg hk, List.length_cons, List.length_cons]; omega

theorem RelO.some_of {v : V} {o : Option Value} (r : RelO (some v) o) : ∃ u, o = some u ∧ RelV v u := by
  cases o with
  | none => exact (show False from r).elim
  | some u => exact ⟨u, rfl, r⟩
theorem handed_of {v : V} {u : Value} (r : RelV v u) : PySem.W.handedIn u = true := by
  cases v with
  | non => cases (show u = Value.none from r); rfl
  | bl b => cases (show u = Value.bool b from r); rfl
  | int i => obtain ⟨t, e⟩ := (show ∃ t, u = Value.int i t from r); cases e; rfl
  | str x => obtain ⟨t, e⟩ := (show ∃ t, u = Value.str x t from r); cases e; rfl
  | byt b => obtain ⟨t, e⟩ := (show ∃ t, u = Value.bytes b t from r); cases e; rfl
  | flt b => obtain ⟨t, e⟩ := (show ∃ t, u = Value.float b t from r); cases e; rfl
  | ref a => cases (show u = Value.ref a from r); rfl
  | ty n => cases (show u = Value.type n from r); rfl

section
variable {P : Program} {w : World} {H H' : Hp} {h h' : Heap} {a C dx : Addr} {fs fs' : List (Str × V)}
theorem ins_get (hok : HOk P w H h) (e : H a = some (.ins C dx fs)) : ∃ mA, ObjM h a dx C mA ∧ (∀ f, RelO (fs.lookup f) (mA f)) ∧ PySem.Within mA (fs.map (·.1)) ∧ fs.length ≤ 1000 ∧ H dx = some (.own a) := by
  obtain ⟨d, z, ne, ob, mA, n, r, q⟩ := (show ObjOk P w H h a (.ins C dx fs) from hok a _ e)
  exact ⟨mA, ⟨ob, n, ne⟩, r, q, z, d⟩
end

structure Cls (K : PySem.W.Frag) (C : Addr) : Prop where
  pg : PySem.W.plainGet K C Str.empty = true
  hd : PySem.W.hasDictIn K C = true
  po : PySem.W.plainOver K C = true
  sa : PySem.W.findIn K (.ref C) "__setattr__" = some (some (.builtin "object.__setattr__"))
theorem Cls.get {K : PySem.W.Frag} {C : Addr} (c : Cls K C) (f : Str) : PySem.W.plainGet K C f = true := c.pg
section
variable {X : Cx} {pins : List (Addr × Obj)} {σ : St} {H : Hp} {s : Shared} {a C dx : Addr} {fs : List (Str × V)} {f : Str} {v : V} {A : Around} {E : Value → Shared → Prop}

/-- e.f where nothing but the object is asked: through attributeBase (super) and the last hold -/
theorem attr_of {prog : Program} {w : World} {env : Env} {e : Expr} {f : Str} {pos : Pos} {s : Shared} {Q : Value → Shared → Prop} (hb : attributeBase e f env (eval e env) = eval e env)
    (h : wpAny (model prog w) A (eval e env) (fun o s₁ => wpAny (model prog w) A (getAttr o f true) Q E s₁) E s) : wpAny (model prog w) A (eval (.Attribute e f pos) env) Q E s :=
  Attribute_any_ h (by rw [arm_eval_Attribute, hb])
end

section
variable {X : Cx} {o e value : Expr} {f : Str} {pos pos' tpos : Pos} {ta tv : TE}
end

section
variable {X : Cx} {pins : List (Addr × Obj)} {σ : St} {H : Hp} {s : Shared} {A : Around} {E : Value → Shared → Prop} {Q : Value → Shared → Prop} {c : Value} {b : Bool}
/-- the type of a value, as the fragment's deciders take it; for an instance its class -/
inductive TyOf (K : PySem.W.Frag) (H : Hp) : V → Value → Prop where
  | non : TyOf K H .non (.type "NoneType")
  | bl (x : Bool) : TyOf K H (.bl x) (.type "bool")
  | int (i : Int) : TyOf K H (.int i) (.type "int")
  | str (x : Str) : TyOf K H (.str x) (.type "str")
  | flt (x : UInt64) : TyOf K H (.flt x) (.type "float")
  | lst {a : Addr} {xs : List V} (e : H a = some (.lst xs)) : TyOf K H (.ref a) (.type "list")
  | frz {a : Addr} {o : Obj} {xs : List V} (e : H a = some (.frz o (.lst xs))) : TyOf K H (.ref a) (.type "list")
  | tup {a : Addr} {xs : List V} (e : H a = some (.tup xs)) : TyOf K H (.ref a) (.type "tuple")
  | dK {a : Addr} {kvs : List (Key × V)} (e : H a = some (.dK kvs)) : TyOf K H (.ref a) (.type "dict")
  | dT {a : Addr} {kvs : List (List Key × V)} (e : H a = some (.dT kvs)) : TyOf K H (.ref a) (.type "dict")
  | ins {a C dx : Addr} {fs : List (Str × V)} (e : H a = some (.ins C dx fs)) (cl : Cls K C) (ha : PySem.W.findIn K (.ref C) "__class__" = some (some (.builtin "object.__class__")))
      (hn : PySem.W.specialIn K (.builtin "object.__class__") "__get__" = some (some (.builtin "getset_descriptor.__get__"))) (htk : PySem.W.takesIn K (.builtin "object.__class__") = some true)
      (hm : PySem.W.mroIn K C (.type "object") = some true) : TyOf K H (.ref a) (.ref C)
/-- isinstance(x, c) for one class c, a built-in or an own one: kitOne's answer -/
theorem isinst_ok {x : V} {u t : Value} (I : Inv X pins σ H s) (rx : RelV x u) (ty : TyOf X.K H x t) (e : PySem.W.kitOne X.K t c = some b) (h : ∀ tk, Q (.bool b) { s with toks := tk }) :
    wpAny (model X.prog X.w) A (call (.builtin "isinstance") [u, c]) Q E s := by
  cases ty with
  | non => cases (show u = Value.none from rx); exact PySem.W.kia_one PySem.W.kitx_none I.kIn True.intro e (fun z => nomatch z) h
  | bl y => cases (show u = Value.bool y from rx); exact PySem.W.kia_one PySem.W.kitx_bool I.kIn True.intro e (fun z => nomatch z) h
  | int i => obtain ⟨t, q⟩ := (show ∃ t, u = Value.int i t from rx); cases q; exact PySem.W.kia_one PySem.W.kitx_int I.kIn True.intro e (fun z => nomatch z) h
  | str y => obtain ⟨t, q⟩ := (show ∃ t, u = Value.str y t from rx); cases q; exact PySem.W.kia_one PySem.W.kitx_str I.kIn True.intro e (fun z => nomatch z) h
  | flt y => obtain ⟨t, q⟩ := (show ∃ t, u = Value.float y t from rx); cases q; exact PySem.W.kia_one PySem.W.kitx_float I.kIn True.intro e (fun z => nomatch z) h
  | @lst a xs ea =>
    cases (show u = Value.ref a from rx)
    obtain ⟨_, _, n, _, h1⟩ := (show ObjOk X.prog X.w H s.heap a (.lst xs) from I.hok a _ ea)
    exact PySem.W.kia_one PySem.W.kitx_list I.kIn ⟨_, h1, rfl⟩ e (fun z => nomatch z) h
  | @frz a ob xs ea =>
    cases (show u = Value.ref a from rx)
    obtain ⟨_, _, _, n, _, h1⟩ := (show ObjOk X.prog X.w H s.heap a (.frz ob (.lst xs)) from I.hok a _ ea)
    exact PySem.W.kia_one PySem.W.kitx_list I.kIn ⟨_, h1, rfl⟩ e (fun z => nomatch z) h
  | @tup a xs ea =>
    cases (show u = Value.ref a from rx)
    obtain ⟨_, _, _, p⟩ := (show ObjOk X.prog X.w H s.heap a (.tup xs) from I.hok a _ ea)
    obtain ⟨o, h1, h2, _⟩ := p
    exact PySem.W.kia_one PySem.W.kitx_tuple I.kIn ⟨o, h1, h2⟩ e (fun z => nomatch z) h
  | @dK a kvs ea =>
    cases (show u = Value.ref a from rx)
    obtain ⟨_, _, vs, _, p⟩ := (show ObjOk X.prog X.w H s.heap a (.dK kvs) from I.hok a _ ea)
    obtain ⟨o, es, ep, h1, h2, _⟩ := p
    exact PySem.W.kia_one PySem.W.kitx_dict I.kIn ⟨o, h1, h2.1⟩ e (fun z => nomatch z) h
  | @dT a kvs ea =>
    cases (show u = Value.ref a from rx)
    obtain ⟨_, _, xs, _, o, es, ep, h1, h2, _⟩ := (show ObjOk X.prog X.w H s.heap a (.dT kvs) from I.hok a _ ea)
    exact PySem.W.kia_one PySem.W.kitx_dict I.kIn ⟨o, h1, h2.1⟩ e (fun z => nomatch z) h
  | @ins a C dx fs ea cl ha hn htk hm =>
    cases (show u = Value.ref a from rx)
    obtain ⟨mA, O, _⟩ := ins_get I.hok ea
    obtain ⟨od, J, _⟩ := O.look
    exact PySem.W.kia_one (PySem.W.kitx_own (cl.get _) cl.hd ha hn htk hm) I.kIn J e (fun z => nomatch z) h
end
end L2

namespace L2
open PySem PySem.Spec PyProof.Rows

structure Room (k : Nat) (A : Around) : Prop where
  hd : A.handled = none
  dp : A.depth + 3 * k + 5 < recursionLimit
  un : A.units + 16 * k + 200 < cLine
  gd : A.guards = some []
theorem Room.mono {j k : Nat} {A : Around} (r : Room k A) (h : j ≤ k) : Room j A := ⟨r.hd, by have := r.dp; omega, by have := r.un; omega, r.gd⟩
theorem Room.deeper {k : Nat} {A : Around} (r : Room (k + 1) A) (env : Env) : Room k (A.deeper env) :=
  ⟨r.hd, by have := r.dp; show A.depth + 1 + 3 * k + 5 < _; omega, by have := r.un; show A.units + 3 + 16 * k + 200 < _; omega, r.gd⟩
theorem make_depth {A : Around} {C : Addr} {us : List Value} {kw : List (Str × Value)} : (A.under (.builtin "type.__call__" ⟨.ref C :: us, kw⟩)).depth = A.depth + 1 := by
  first | rfl | simp [Around.under, Code.weight, Code.isCreation, Code.isGuard, Code.isCaller, Code.frames, Code.isFrame, guardIds]
theorem make_units {A : Around} {C : Addr} {us : List Value} {kw : List (Str × Value)} : (A.under (.builtin "type.__call__" ⟨.ref C :: us, kw⟩)).units = A.units + 1 := by
  first | rfl | simp [Around.under, Code.cUnits, Code.frames, Code.isFrame]
theorem make_guards {A : Around} {C : Addr} {us : List Value} {kw : List (Str × Value)} : (A.under (.builtin "type.__call__" ⟨.ref C :: us, kw⟩)).guards = A.guards := by
  first | rfl | (unfold Around.under Code.guards; cases A.guards <;> simp [pushGuards, Code.isGuard, guardIds])
theorem Room.make {k : Nat} {A : Around} (r : Room (k + 1) A) (C : Addr) (us : List Value) (kw : List (Str × Value)) : Room k (A.under (.builtin "type.__call__" ⟨.ref C :: us, kw⟩)) :=
  ⟨r.hd, by have := r.dp; rw [make_depth]; omega, by have := r.un; rw [make_units]; omega, by rw [make_guards]; exact r.gd⟩
theorem Room.depth {k : Nat} {A : Around} (r : Room k A) : A.depth < recursionLimit := by have := r.dp; omega
theorem Room.units {k : Nat} {A : Around} (r : Room k A) : A.units + 64 < cLine := by have := r.un; omega
def tNil : TA := fun _ H Q => Q [] H
def tCons (ta : TE) (tr : TA) : TA := fun σ H Q => ta σ H fun x H1 => tr σ H1 fun xs H2 => Q (x :: xs) H2
section
variable {X : Cx} {e : Expr} {es : List Expr} {te : TE} {t : TA} {pos : Pos}
theorem pa_nil : PA X [] tNil := fun _ _ _ _ H Q I h => Calls.spliced_nil ⟨[], H, I, .nil, h⟩
theorem pa_cons (ha : PE X e te) (hr : PA X es t) (hs : starEach (e :: es) X.env = (false, eval e X.env) :: starEach es X.env := by rfl) : PA X (e :: es) (tCons te t) := by
  intro pos pins s σ H Q I h
  rw [hs]
  show wpAny _ _ (spliced ((false, eval e X.env) :: backTo pos (starEach es X.env))) _ _ s
  refine Calls.spliced_cons (thn (ha pins s σ H _ I h) fun u s1 ⟨x, H1, I1, r1, q1⟩ => ?_)
  exact thn (hr pos pins s1 σ H1 _ I1 q1) fun us s2 ⟨xs, H2, I2, r2, q2⟩ => ⟨x :: xs, H2, I2, .cons r1 r2, q2⟩

/-- a tuple, a list of written items -/
def tTup (t : TA) : TE := fun σ H Q => t σ H fun xs H1 => xs.length ≤ sizeLine ∧ ∀ p, H1 p = none → Q (.ref p) (upd H1 p (.tup xs))
def tLst (t : TA) : TE := fun σ H Q => t σ H fun xs H1 => xs.length ≤ sizeLine ∧ ∀ p, H1 p = none → Q (.ref p) (upd H1 p (.lst xs))
theorem pe_tup {x1} (h : PA X es t) : PE X (.Tuple es x1 pos) (tTup t) := by
  intro pins s σ H Q I hq
  refine wpAny_Tuple_spliced (thn (h pos pins s σ H _ I hq) fun us s1 ⟨xs, H1, I1, r, z, q⟩ => ⟨by rw [← r.length]; exact z, ?_⟩)
  have hf : H1 s1.heap.objs.size = none := I1.hok.fresh (Nat.le_refl _)
  refine ⟨.ref s1.heap.objs.size, upd H1 s1.heap.objs.size (.tup xs), I1.laid (t' := s1.toks) (fun b u e => Heap.get?_push_of_some _ e) (Nat.le_refl _) ?_, rfl, q _ hf⟩
  exact ⟨z, us, r, ⟨_, Heap.get?_push_size _ rfl, rfl, _, rfl⟩⟩
theorem pe_lst (h : PA X es t) : PE X (.List es pos) (tLst t) := by
  intro pins s σ H Q I hq
  refine wpAny_List_spliced (thn (h pos pins s σ H _ I hq) fun us s1 ⟨xs, H1, I1, r, z, q⟩ => ⟨by rw [← r.length]; exact z, ?_⟩)
  have hf : H1 s1.heap.objs.size = none := I1.hok.fresh (Nat.le_refl _)
  refine ⟨.ref s1.heap.objs.size, upd H1 s1.heap.objs.size (.lst xs), I1.laid (t' := s1.toks) (fun b u e => Heap.get?_push_of_some _ e) (Nat.le_refl _) ?_, rfl, q _ hf⟩
  exact ⟨z, us, 0, r, Heap.get?_push_size _ rfl⟩
end

/-- a def's promise: the bound arguments in the parameters' order, the heap, the wanted end, the wanted exception -/
abbrev Sp := List V → Hp → VK → XK → Prop
/-- how an exception lies behind a call (file 08 gives it): the callers' frames, abstract heap and state ahead of the call, the wish, the exception, the state -/
abbrev CXT := List Env → Hp → Shared → XK → Value → Shared → Prop

/-- the state at a call -/
structure Env0 (P : Program) (w : World) (K : PySem.W.Frag) (mg : Str → Option Value) (base : Heap) (A : Around) (outer : List Env) (s : Shared) (H : Hp) : Prop where
  frames : A.frames = some outer
  mod : Mod K mg base
  bs : ∀ b o, base.get? b = some o → s.heap.get? b = some o ∧ H b = none
  bsz : base.objs.size ≤ s.heap.objs.size
  funs : s.heap.FunFrames base outer
  frf : ∀ b ∈ frs outer, H b = none
  hok : HOk P w H s.heap
  bare : AllBare s.gens
/-- a call's end -/
def CE (outer : List Env) (P : Program) (w : World) (H : Hp) (s : Shared) (Q : VK) (u : Value) (s' : Shared) : Prop :=
  ∃ v H', s'.os = s.os ∧ AllBare s'.gens ∧ Un (frs outer) [] H H' s.heap s'.heap ∧ HOk P w H' s'.heap ∧ RelV v u ∧ Q v H'
def CR (CX : CXT) (outer : List Env) (P : Program) (w : World) (H : Hp) (s : Shared) (Q : VK) (E : XK) (r : Result) (s' : Shared) : Prop :=
  match r with
  | .ok (.ret u) => CE outer P w H s Q u s'
  | .ok _ => False
  | .error e => CX outer H s E e s'
structure FnOk (P : Program) (w : World) (K : PySem.W.Frag) (mg : Str → Option Value) (base : Heap) (CX : CXT) (k : Nat) (f : Addr) (fd : FuncData) (ps : List Str) (sp : Sp) : Prop where
  len : ∀ vs H Q E, sp vs H Q E → vs.length = ps.length
  run : ∀ (A : Around) (outer : List Env) (s : Shared) (H : Hp) (args : Args) (us : List Value) (vs : List V) (Q : VK) (E : XK), Room k A → Env0 P w K mg base A outer s H → BindsTo s fd args (ps.zip us) → Vals vs us → sp vs H Q E →
    codeAny (model P w) A (.call (.ref f) args) (CR CX outer P w H s Q E) s
theorem Env0.make {P : Program} {w : World} {K : PySem.W.Frag} {mg : Str → Option Value} {base : Heap} {A : Around} {outer : List Env} {s : Shared} {H : Hp} (e : Env0 P w K mg base A outer s H) (C : Addr) (us : List Value) (kw : List (Str × Value)) :
    Env0 P w K mg base (A.under (.builtin "type.__call__" ⟨.ref C :: us, kw⟩)) outer s H := ⟨by first | exact e.frames | (simpa [Around.under, Code.envs, Code.isFrame, pushEnvs] using e.frames), e.mod, e.bs, e.bsz, e.funs, e.frf, e.hok, e.bare⟩
section
variable {X : Cx} {pins : List (Addr × Obj)} {σ : St} {H : Hp} {s s' : Shared}
/-- from a body: what a callee wants -/
theorem Inv.env0 (I : Inv X pins σ H s) : Env0 X.prog X.w X.K X.mg X.base X.A X.stack s H :=
  ⟨I.ok.frames, I.ok.mod, I.bs, Nat.le_trans I.ok.bsz I.sz, I.stack, I.stkFree, I.hok, I.bare⟩
/-- behind a call -/
theorem Inv.after {Q : VK} {u : Value} (I : Inv X pins σ H s) (h : CE X.stack X.prog X.w H s Q u s') : EP X pins σ Q u s' := by
  obtain ⟨v, H', os, bare, un, hok, r, q⟩ := h
  obtain ⟨hh, g, d, t, os'⟩ := s'
  obtain rfl : os' = s.os := os
  exact ⟨v, H', I.call (h' := hh) (g' := g) (d' := d) (t' := t) (ch := []) un hok bare (fun b z => absurd z (by simp)), r, q⟩
end

/-- f(..): the written arguments, then the defaults dvs; E: what is wanted of an exception -/
def tCall (sp : Sp) (dvs : List V) (E : XK) (t : TA) : TE := fun σ H Q => t σ H fun vs H1 => sp (vs ++ dvs) H1 Q E
/-- how the parameters are bound: us the positional arguments, kw the keywords' values by name, ds the defaults that fill up -/
def Binds (K : PySem.W.Frag) (fd : FuncData) (ps : List Str) (ds : List Value) : Prop :=
  ∀ (s : Shared) (us : List Value), K.In s.heap → (us ++ ds).length = ps.length → BindsTo s fd ⟨us, []⟩ (ps.zip (us ++ ds))
/-- every parameter is given -/
theorem Binds.all {K : PySem.W.Frag} {fd : FuncData} {ps : List Str} (h : ∀ us : List Value, us.length = ps.length → bindArgs fd ⟨us, []⟩ = pure (ps.zip us)) : Binds K fd ps [] := fun s us _ hl => by
  rw [List.append_nil] at hl ⊢
  exact .of_eq (h us hl)

/-- an exception of a callee reaches what this body wants of exceptions -/
def Passes (CX : CXT) (X : Cx) (E : XK) : Prop := ∀ (pins : List (Addr × Obj)) (σ : St) (H : Hp) (s : Shared) (e : Value) (s' : Shared), Inv X pins σ H s → CX X.stack H s E e s' → X.xe e s'

section
variable {X : Cx} {CX : CXT} {k : Nat} {f C : Addr} {fd : FuncData} {ps : List Str} {sp : Sp} {dvs : List V} {ds : List Value} {E : XK} {x m : Str} {p pos apos : Pos} {e o : Expr} {es : List Expr} {ta : TE} {t : TA}

/-- the callee runs -/
theorem run_fn {pins : List (Addr × Obj)} {σ : St} {H : Hp} {s : Shared} {Q : VK} {us : List Value} {vs : List V} (F : FnOk X.prog X.w X.K X.mg X.base CX k f fd ps sp) (hr : Room k X.A) (hb : Binds X.K fd ps ds) (hd : Vals dvs ds) (hx : Passes CX X E)
    (I : Inv X pins σ H s) (r : Vals vs us) (h : sp (vs ++ dvs) H Q E) : wpAny (model X.prog X.w) X.A (call (.ref f) us) (EP X pins σ Q) X.xe s := by
  have r2 : Vals (vs ++ dvs) (us ++ ds) := r.append hd
  have hl : (us ++ ds).length = ps.length := by rw [← r2.length]; exact F.len _ _ _ _ h
  refine wpAny_call (codeAny_mono (F.run X.A X.stack s H ⟨us, []⟩ (us ++ ds) (vs ++ dvs) Q E hr I.env0 (hb s us I.kIn hl) r2 h) fun r s' hq => ?_)
  cases r with
  | error e => exact hx pins σ H s e s' I hq
  | ok fl =>
    cases fl with
    | ret u => exact I.after hq
    | next => exact False.elim hq
    | brk => exact False.elim hq
    | cont => exact False.elim hq

theorem pe_call (F : FnOk X.prog X.w X.K X.mg X.base CX k f fd ps sp) (hr : Room k X.A) (hg : Gl X x) (hm : X.mg x = some (.ref f)) (hk : PySem.W.keepIn X.K (.ref f) = true) (hb : Binds X.K fd ps ds) (hd : Vals dvs ds) (hx : Passes CX X E)
    (ha : PA X (e :: es) t) (hdb : (x == ("__debug__" : Str)) = false := by decide) (he : starEach (e :: es) X.env = (false, eval e X.env) :: starEach es X.env := by rfl) (hpl : (backTo pos (starEach es X.env)).any (·.1) = false := by rfl) :
    PE X (.Call (.Name x p) (e :: es) [] pos) (tCall sp dvs E t) := by
  intro pins s σ H Q I h
  refine wpAny_Call_Name_kw (ld_glob I hg hm ?_ hdb)
  refine PySem.W.callWith_K (h₀ := X.base) I.ok.mod.kin hk (thn (ha pos pins s σ H _ I h) fun us s1 ⟨vs, H1, I1, r, q⟩ => ⟨I1.kIn, ?_⟩) he hpl
  exact run_fn F hr hb hd hx I1 r q
end

section
variable {X : Cx} {CX : CXT} {k : Nat} {f C : Addr} {fd : FuncData} {ps ks : List Str} {sp : Sp} {E : XK} {x m : Str} {p pos apos kpos : Pos} {e o : Expr} {es : List Expr} {kws : List Keyword} {te ta : TE} {t tk : TA} {nm : Option Str}
variable {g : List Value → List Value → List Value} {gV : List V → List V → List V}
end

/-- names: the parameters first -/
structure FnScope (N P : List Str) (sc : Scope) : Prop where
  kind : sc.kind = .function
  co : sc.isCoroutine = false
  gen : sc.isGenerator = false
  nd : N.Nodup
  pre : N.take P.length = P
  par : ∀ x ∈ P, sc.names.lookup x = some .local ∨ sc.names.lookup x = some .cell
  nofree : ∀ y ∈ sc.names, y.2 ≠ .free

theorem bindL_out {kindOf : Str → Option NameKind} {x : Str} : ∀ {binds : List (Str × Value)} {m : Str → Option Value}, (∀ v, (x, v) ∉ binds) → bindL kindOf binds m x = m x
  | [], _, _ => rfl
  | (n, v) :: r, m, h => by
    unfold bindL
    rw [bindL_out fun w hw => h w (List.mem_cons_of_mem _ hw)]
    split
    · have : x ≠ n := by rintro rfl; exact h v List.mem_cons_self
      simp [this]
    · rfl
theorem bindC_out {kindOf : Str → Option NameKind} {x : Str} : ∀ {binds : List (Str × Value)} {m : Str → Option Value}, (∀ v, (x, v) ∉ binds) → bindC kindOf binds m x = m x
  | [], _, _ => rfl
  | (n, v) :: r, m, h => by
    unfold bindC
    rw [bindC_out fun w hw => h w (List.mem_cons_of_mem _ hw)]
    split
    · rfl
    · have : x ≠ n := by rintro rfl; exact h v List.mem_cons_self
      simp [this]
theorem bindL_get {kindOf : Str → Option NameKind} {x : Str} {v : Value} : ∀ {P : List Str} {vs : List Value} {i : Nat} {m : Str → Option Value}, P.Nodup → P[i]? = some x → vs[i]? = some v → kindOf x = some .local →
    bindL kindOf (P.zip vs) m x = some v
  | [], _, _, _, _, h, _, _ => by simp at h
  | _ :: _, [], _, _, _, _, h, _ => by simp at h
  | p :: P, w :: vs, 0, m, nd, h1, h2, hk => by
    simp at h1 h2; subst h1; subst h2
    show bindL kindOf ((p, w) :: P.zip vs) m p = _
    unfold bindL
    rw [bindL_out fun v hv => (List.nodup_cons.mp nd).1 (List.of_mem_zip hv).1, if_pos hk]
    simp
  | p :: P, w :: vs, i + 1, m, nd, h1, h2, hk => by
    show bindL kindOf ((p, w) :: P.zip vs) m x = _
    unfold bindL
    exact bindL_get (i := i) (List.nodup_cons.mp nd).2 (by simpa using h1) (by simpa using h2) hk
theorem bindC_get {kindOf : Str → Option NameKind} {x : Str} {v : Value} : ∀ {P : List Str} {vs : List Value} {i : Nat} {m : Str → Option Value}, P.Nodup → P[i]? = some x → vs[i]? = some v → kindOf x ≠ some .local →
    bindC kindOf (P.zip vs) m x = some v
  | [], _, _, _, _, h, _, _ => by simp at h
  | _ :: _, [], _, _, _, _, h, _ => by simp at h
  | p :: P, w :: vs, 0, m, nd, h1, h2, hk => by
    simp at h1 h2; subst h1; subst h2
    show bindC kindOf ((p, w) :: P.zip vs) m p = _
    unfold bindC
    rw [bindC_out fun v hv => (List.nodup_cons.mp nd).1 (List.of_mem_zip hv).1, if_neg hk]
    simp
  | p :: P, w :: vs, i + 1, m, nd, h1, h2, hk => by
    show bindC kindOf ((p, w) :: P.zip vs) m x = _
    unfold bindC
    exact bindC_get (i := i) (List.nodup_cons.mp nd).2 (by simpa using h1) (by simpa using h2) hk

/-- the names' values at the entry -/
def start (N : List Str) (vs : List V) : St := vs.map some ++ List.replicate (N.length - vs.length) none

/-- the context of a def's body, at its entry; an exception leaves the frame, then lies as CX says -/
def cxOf (CX : CXT) (P : Program) (w : World) (K : PySem.W.Frag) (mg : Str → Option Value) (base : Heap) (N : List Str) (qual : Str) (scope : Scope) (f : Addr) (cd : Value) (A : Around) (outer : List Env) (s : Shared) (H : Hp) (E : XK) : Cx where
  prog := P
  w := w
  K := K
  mg := mg
  base := base
  A := A.deeper (envOfC qual scope s.heap.objs.size f cd)
  N := N
  s₀ := s
  H₀ := H
  env := envOfC qual scope s.heap.objs.size f cd
  outer := outer
  stack := envOfC qual scope s.heap.objs.size f cd :: outer
  ex := []
  calm := true
  fn := fun _ => true
  pn := []
  xe := fun e s' => wpAny (model P w) (A.deeper (envOfC qual scope s.heap.objs.size f cd)) (leaving (envOfC qual scope s.heap.objs.size f cd) e) (fun _ s'' => CX outer H s E e s'') (fun e' s'' => CX outer H s E e' s'') s'

theorem cell_has {sc : Scope} {n : Nat} {x : Str} (h : sc.names.lookup x = some .cell) : ∃ c, (cellsFrom n sc.names []).lookup x = some c := by
  have q := PySem.W.cellsFrom_some sc.names n [] (.inl h)
  exact Option.isSome_iff_exists.mp q

theorem inv_start {CX : CXT} {P : Program} {w : World} {K : PySem.W.Frag} {mg : Str → Option Value} {base : Heap} {N ps : List Str} {qual : Str} {scope : Scope} {f : Addr} {cd : Value} {A : Around} {outer : List Env} {s s1 : Shared} {H : Hp} {E : XK} {us : List Value} {vs : List V}
    (S : FnScope N ps scope) (hd : A.handled = none) (e0 : Env0 P w K mg base A outer s H) (hl : vs.length = ps.length) (r : Vals vs us)
    (x : InCallC s s.heap.objs.size (bindL (envOfC qual scope s.heap.objs.size f cd).kindOf (ps.zip us) fun _ => none) (cellsFrom (s.heap.objs.size + 1) scope.names []) (bindC (envOfC qual scope s.heap.objs.size f cd).kindOf (ps.zip us) fun _ => none) s1) :
    Inv (cxOf CX P w K mg base N qual scope f cd A outer s H E) [] (start N vs) H s1 := by
  have hpl : ps.length ≤ N.length := by have := congrArg List.length S.pre; rw [List.length_take] at this; omega
  obtain ⟨h1, tk, rfl, hk⟩ := x.done
  have noA : ∀ b : Addr, b ∉ (cxOf CX P w K mg base N qual scope f cd A outer s H E).ex := fun b z => absurd (show b ∈ ([] : List Addr) from z) (by simp)
  refine ⟨⟨e0.mod, S.kind, rfl, rfl, Nat.le_refl _, fun y z c h1 h2 => ?_, fun y hy => ?_, fun y c _ h => ?_, fun _ => hd, Around.frames_deeper e0.frames, .inr ⟨rfl, rfl⟩, fun b z => absurd z (noA b), e0.bs, e0.bsz, fun b _ _ => noA b, fun b z => absurd z (noA b), e0.funs, e0.frf⟩,
    rfl, e0.bare, Un.kept hk, ⟨_, x.toInCall.ns, fun i y v h1 h2 h3 => ?_⟩, fun y c h => ⟨_, x.cell y c h⟩, e0.hok.fresh (Nat.le_refl _), fun y c h => ?_, fun p hp => absurd (show p ∈ ([] : List (Addr × Obj)) from hp) (by simp), e0.hok.kept hk, ?_⟩
  · exact name_of_addr x.apart (PySem.mem_of_lookup h1) (PySem.mem_of_lookup h2)
  · have hy : scope.names.lookup y = some .cell ∨ scope.names.lookup y = some .free := hy
    rcases hy with hy | hy
    · exact cell_has hy
    · exact absurd rfl (S.nofree _ (PySem.mem_of_lookup hy))
  · exact Nat.le_of_lt (x.above y c (PySem.mem_of_lookup h))
  · have hi : i < vs.length := by
      unfold start at h2
      by_cases hi : i < vs.length
      · exact hi
      · rw [List.getElem?_append_right (by simpa using hi)] at h2
        rw [List.getElem?_replicate] at h2
        split at h2 <;> cases h2
    have ha : vs[i]? = some v := by
      unfold start at h2
      rw [List.getElem?_append_left (by simpa using hi), List.getElem?_map] at h2
      cases e : vs[i]? with
      | none => rw [e] at h2; cases h2
      | some a => rw [e] at h2; cases h2; rfl
    obtain ⟨u, hu, rv⟩ := r.get ha
    have hp : ps[i]? = some y := by
      rw [← S.pre, List.getElem?_take_of_lt (by omega)]; exact h1
    have ndP : ps.Nodup := by rw [← S.pre]; exact S.nd.sublist (List.take_sublist _ _)
    refine ⟨u, rv, ?_⟩
    rcases S.par y (List.mem_of_getElem? hp) with k | k
    · exact .inl ⟨k, bindL_get ndP hp hu k⟩
    · obtain ⟨c, e⟩ := cell_has (n := s.heap.objs.size + 1) k
      refine .inr ⟨.inl k, c, e, ?_⟩
      have q := x.cell y c e
      rw [bindC_get ndP hp hu (by show scope.names.lookup y ≠ _; rw [k]; decide)] at q
      exact q
  · exact e0.hok.fresh (Nat.le_of_lt (x.above y c (PySem.mem_of_lookup h)))
  · unfold start
    show _ = N.length
    rw [List.length_append, List.length_map, List.length_replicate]
    omega

/-- THE RULE: a def (or a method) of the text, by its body. The body's reading t is chosen for each entry; it is run at the parameters' values -/
theorem fn_of {CX : CXT} {P : Program} {w : World} {K : PySem.W.Frag} {mg : Str → Option Value} {base : Heap} {k : Nat} {f : Addr} {name qual : Str} {params : Arguments} {body : List Stmt} {scope : Scope} {dV kV doc pm cdv ct oc : Value} {an od : Option Addr}
    {osl : Array (Option Value)} {N ps : List Str} {sp : Sp} (lk : K.lookup f = some ⟨oc, od, .func (PySem.W.fnOf name qual params body scope dV kV doc pm an cdv ct), osl⟩) (hcd : PySem.W.codeIn K cdv qual = true) (S : FnScope N ps scope)
    (len : ∀ vs H Q E, sp vs H Q E → vs.length = ps.length)
    (hbody : ∀ (A : Around) (outer : List Env) (s : Shared) (H : Hp) (vs : List V) (Q : VK) (E : XK), Room k (A.deeper (envOfC qual scope s.heap.objs.size f cdv)) → sp vs H Q E →
      ∃ t, PSs (cxOf CX P w K mg base N qual scope f cdv A outer s H E) body t ∧ t { nx := fun _ H' => Q .non H', rt := Q } (start N vs) H) :
    FnOk P w K mg base CX (k + 1) f (PySem.W.fnOf name qual params body scope dV kV doc pm an cdv ct) ps sp := by
  refine ⟨len, fun A outer s H args us vs Q E hr e0 hb r hsp => ?_⟩
  have hl := len _ _ _ _ hsp
  have KX : K.In s.heap := e0.mod.kin.keeps fun b o e => (e0.bs b o e).1
  have lim : s.heap.NoLimit := e0.mod.nolimit.keeps fun b o e => (e0.bs b o e).1
  have hkind : ∀ y ∈ ps.zip us, scope.names.lookup y.1 = some .local ∨ (scope.names.lookup y.1 = some .cell ∧ ((cellsFrom (s.heap.objs.size + 1) scope.names []).lookup y.1).isSome = true) := fun ⟨n, v⟩ hy => by
    rcases S.par n (List.of_mem_zip hy).1 with q | q
    · exact .inl q
    · exact .inr ⟨q, PySem.W.cellsFrom_some _ _ _ (.inl q)⟩
  refine codeAny_call_function hr.depth (KX _ _ lk) rfl S.co S.gen rfl (PySem.W.codeRec_of KX hcd) (hb _ _ _ _ ?_)
  refine wpAny_newFunctionEnv_cells S.kind hkind fun env he s1 x => ?_
  subst he
  refine ⟨lim.keeps x.toInCall.keep, codeAny_func ?_⟩
  obtain ⟨t, ht, hq⟩ := hbody A outer s H vs Q E (hr.deeper _) hsp
  have I : Inv (cxOf CX P w K mg base N qual scope f cdv A outer s H E) [] (start N vs) H s1 := inv_start S hr.hd e0 hl r x
  refine wpAny_mono (ht [] s1 (start N vs) H _ I hq) (fun fl s' hs => ?_) fun e s' hs => hs
  have fin : ∀ {σ' : St} {H' : Hp} {v : V} {u : Value}, Inv (cxOf CX P w K mg base N qual scope f cdv A outer s H E) [] σ' H' s' → RelV v u → Q v H' → CE outer P w H s Q u s' :=
    fun {σ' H' v u} J rv q => ⟨v, H', J.os, J.bare, J.base, J.hok, rv, q⟩
  cases fl with
  | ret u =>
    obtain ⟨v, σ', H', J, rv, q⟩ := hs
    exact fin J rv q
  | next =>
    obtain ⟨σ', H', J, q⟩ := hs
    exact fin (v := V.non) (u := Value.none) J rfl q
  | brk =>
    obtain ⟨_, _, _, q⟩ := hs
    exact False.elim q
  | cont =>
    obtain ⟨_, _, _, q⟩ := hs
    exact False.elim q
end L2

namespace L2
open PySem PySem.Spec PyProof.Rows
section
variable {X : Cx} {x : Str} {p pos : Pos} {e : Expr} {es : List Expr} {t : TA} {id T : String} {r : List V → Hp → VK → Prop}

def tCB (r : List V → Hp → VK → Prop) (t : TA) : TE := fun σ H Q => t σ H fun vs H1 => r vs H1 Q
/-- f(e, ..), f a built-in function -/
theorem pe_callB (hc : CallR X (.builtin id) r) (hg : Gl X x) (hm : X.mg x = none) (hv : bootBuiltins x = some (.builtin id)) (ha : PA X (e :: es) t) (hn : x ≠ "__name__" := by decide) (hdb : (x == ("__debug__" : Str)) = false := by decide)
    (he : starEach (e :: es) X.env = (false, eval e X.env) :: starEach es X.env := by rfl) (hpl : (backTo pos (starEach es X.env)).any (·.1) = false := by rfl) : PE X (.Call (.Name x p) (e :: es) [] pos) (tCB r t) := by
  intro pins s σ H Q I h
  refine wpAny_Call_Name_kw (ld_blt I hg hm hv ?_ hn hdb)
  exact PyProof.Rows.callWith_builtin1 (thn (ha pos pins s σ H _ I h) fun us s1 ⟨vs, H1, I1, r1, q1⟩ => hc pins s1 σ H1 vs us Q I1 r1 q1) he hpl
/-- T(e, ..), T a built-in type -/
theorem pe_callTy (hc : CallR X (.type T) r) (hg : Gl X x) (hm : X.mg x = none) (hv : bootBuiltins x = some (.type T)) (ha : PA X (e :: es) t) (hn : x ≠ "__name__" := by decide) (hdb : (x == ("__debug__" : Str)) = false := by decide)
    (he : starEach (e :: es) X.env = (false, eval e X.env) :: starEach es X.env := by rfl) (hpl : (backTo pos (starEach es X.env)).any (·.1) = false := by rfl) : PE X (.Call (.Name x p) (e :: es) [] pos) (tCB r t) := by
  intro pins s σ H Q I h
  refine wpAny_Call_Name_kw (ld_blt I hg hm hv ?_ hn hdb)
  exact PyProof.Rows.callWith_type1 (thn (ha pos pins s σ H _ I h) fun us s1 ⟨vs, H1, I1, r1, q1⟩ => hc pins s1 σ H1 vs us Q I1 r1 q1) he hpl
end
end L2

namespace HT
open PySem PyProof.Rows

section
open PySem.SeqAt
open PySem.AutoSeq1 (wpAny_loadPart')
open PySem.MeetsSeq PySem.MeetsSeq2 PySem.MeetsSeq3

end

section
variable {prog : Program} {w : World} {A : Around} {E : Value → Shared → Prop} {s : Shared}

/-- a slice's bound as a place among n (d where it is left out) -/
def sIx (n d : Nat) : Option Int → Nat
  | none => d
  | some v => if v < 0 then (v + (n : Int)).toNat else min v.toNat n
theorem sIx_none (n d : Nat) : sIx n d none = d := rfl
theorem sIx_nat (n d k : Nat) : sIx n d (some (k : Int)) = min k n := by
  show (if (k : Int) < 0 then ((k : Int) + (n : Int)).toNat else min (k : Int).toNat n) = min k n
  rw [if_neg (by omega), Int.toNat_natCast]
end
end HT

namespace L2
open PySem PySem.Spec PyProof.Rows

abbrev TO := St → Hp → (Option Int → Hp → Prop) → Prop
/-- a slice's part (left out, or an int) -/
def PO (X : Cx) (e : Option Expr) (t : TO) : Prop :=
  ∀ (pins : List (Addr × Obj)) (s : Shared) (σ : St) (H : Hp) (Q : Option Int → Hp → Prop), Inv X pins σ H s → t σ H Q →
    wpAny (model X.prog X.w) X.A (evalPart e X.env) (fun u s' => ∃ o H', Inv X pins σ H' s' ∧ IsPart u o ∧ Q o H') X.xe s
def tNoPart : TO := fun _ H Q => Q none H
def tPart (t : TE) : TO := fun σ H Q => t σ H fun x H1 => ∃ i, x = .int i ∧ Q (some i) H1

theorem intsAre_of {ns : List Int} : ∀ {us : List Value}, Vals (ns.map V.int) us → IntsAre us ns := by
  induction ns with
  | nil => intro us r; rw [List.map_nil] at r; cases r; exact .nil
  | cons n ns ih =>
    intro us r
    rw [List.map_cons] at r
    cases r with
    | cons r1 r2 =>
      obtain ⟨t, e⟩ := r1
      subst e
      exact .cons n t (ih r2)

section
variable {X : Cx} {e : Expr} {te : TE} {lo hi : Option Expr} {tl th : TO} {pos p2 : Pos}

theorem po_none : PO X none tNoPart := by
  intro pins s σ H Q I h
  rw [evalPart_none]
  exact wpAny_pure ⟨none, H, I, .none, h⟩
theorem po_some (h : PE X e te) : PO X (some e) (tPart te) := by
  intro pins s σ H Q I hw
  rw [evalPart_some]
  refine thn (h pins s σ H _ I hw) fun u s1 ⟨x, H1, I1, r1, q1⟩ => ?_
  obtain ⟨i, rfl, q⟩ := q1
  obtain ⟨t, rfl⟩ := r1
  exact ⟨some i, H1, I1, .int i t, q⟩

/-- what a slice of a value is, by values: the slice object stands at sl -/
def SlR (X : Cx) (r : V → Option Int → Option Int → Hp → VK → Prop) : Prop :=
  ∀ (pins : List (Addr × Obj)) (s : Shared) (σ : St) (H : Hp) (x : V) (v vl vu : Value) (lo hi : Option Int) (sl : Addr) (Q : VK), Inv X pins σ H s → RelV x v → s.heap.IsSliceOf sl vl vu .none → IsPart vl lo → IsPart vu hi → r x lo hi H Q →
    ∃ T id, typeLookup (.type T) "__getitem__" = pure (some (.builtin id)) ∧ s.TypeIs v T ∧ wpAny (model X.prog X.w) X.A (getItem v (.ref sl)) (EP X pins σ Q) X.xe s
def tSl (r : V → Option Int → Option Int → Hp → VK → Prop) (te : TE) (tl th : TO) : TE := fun σ H Q => te σ H fun x H1 => tl σ H1 fun l H2 => th σ H2 fun u H3 => r x l u H3 Q
/-- a[lo:hi], any a -/
theorem pe_slice {r : V → Option Int → Option Int → Hp → VK → Prop} (hr : SlR X r) (he : PE X e te) (hl : PO X lo tl) (hu : PO X hi th) : PE X (.Subscript e (.Slice lo hi none p2) pos) (tSl r te tl th) := by
  intro pins s σ H Q I h
  refine Subscript_ (thn (he pins s σ H _ I h) fun v s1 ⟨x, H1, I1, r1, q1⟩ => ?_)
  refine wpAny_Slice (thn (hl pins s1 σ H1 _ I1 q1) fun vl s2 ⟨l, H2, I2, pl, q2⟩ => thn (hu pins s2 σ H2 _ I2 q2) fun vu s3 ⟨u, H3, I3, pu, q3⟩ => ?_)
  rw [evalPart_none]
  refine wpAny_pure ?_
  have I4 : Inv X pins σ H3 { s3 with heap := s3.heap.push { cls := .type "slice", data := .fields #[vl, vu, .none] } } := I3.kept (t' := s3.toks) fun b ob q => Heap.get?_push_of_some _ q
  obtain ⟨T, id, hT, ht, hg⟩ := hr pins { s3 with heap := s3.heap.push { cls := .type "slice", data := .fields #[vl, vu, .none] } } σ H3 x v vl vu l u s3.heap.objs.size Q I4 r1 (Heap.IsSliceOf.new ..) pl pu q3
  show wpAny (model X.prog X.w) X.A (subscriptTail e (.Slice lo hi none p2) v (.ref s3.heap.objs.size)) (EP X pins σ Q) X.xe { s3 with heap := s3.heap.push { cls := .type "slice", data := .fields #[vl, vu, .none] } }
  exact tail_any (ops := [.ref s3.heap.objs.size, v]) ht hT hg (by with_unfolding_all rfl)

/-- the items of xs[lo:hi] -/
def cutV (xs : List V) (lo hi : Option Int) : List V := (xs.drop (HT.sIx xs.length 0 lo)).take (HT.sIx xs.length xs.length hi - HT.sIx xs.length 0 lo)
theorem cutV_length (xs : List V) (lo hi : Option Int) : (cutV xs lo hi).length ≤ xs.length := by
  unfold cutV
  rw [List.length_take, List.length_drop]
  omega
end
end L2

namespace L2
open PySem PySem.Spec PyProof.Rows

/-- the place that an index of any sign means -/
def ixN (n : Nat) (i : Int) : Option Nat := if 0 ≤ i then (if i < n then some i.toNat else none) else if -(n : Int) ≤ i then some (i + n).toNat else none
def atI {α : Type} (xs : List α) (i : Int) : Option α := (ixN xs.length i).bind fun j => xs[j]?
theorem ixN_seq {n : Nat} {i : Int} {j : Nat} (h : ixN n i = some j) : seqIndex? i n = some j ∧ j < n ∧ -(n : Int) ≤ i ∧ i < n := by
  unfold ixN at h
  by_cases h0 : 0 ≤ i
  · rw [if_pos h0] at h
    by_cases h1 : i < n
    · rw [if_pos h1] at h
      have e : i.toNat = j := Option.some.inj h
      exact ⟨by rw [seqIndex_of h0 h1, e], by omega, by omega, h1⟩
    · rw [if_neg h1] at h; cases h
  · rw [if_neg h0] at h
    by_cases h1 : -(n : Int) ≤ i
    · rw [if_pos h1] at h
      have e : (i + n).toNat = j := Option.some.inj h
      exact ⟨by rw [seqIndex_neg (by omega) h1, e], by omega, h1, by omega⟩
    · rw [if_neg h1] at h; cases h
theorem atI_get {α : Type} {xs : List α} {i : Int} {v : α} (h : atI xs i = some v) : ∃ j, seqIndex? i xs.length = some j ∧ xs[j]? = some v ∧ j < xs.length ∧ -(xs.length : Int) ≤ i ∧ i < xs.length := by
  unfold atI at h
  cases e : ixN xs.length i with
  | none => rw [e] at h; cases h
  | some j =>
    rw [e] at h
    obtain ⟨h1, h2, h3, h4⟩ := ixN_seq e
    exact ⟨j, h1, h, h2, h3, h4⟩
theorem atI_nat {α : Type} {xs : List α} {j : Nat} {v : α} (h : xs[j]? = some v) : atI xs (j : Int) = some v := by
  have hj : j < xs.length := (List.getElem?_eq_some_iff.mp h).1
  have e : ixN xs.length (j : Int) = some j := by
    unfold ixN
    rw [if_pos (by omega), if_pos (by omega)]; simp
  unfold atI; rw [e]; exact h
/-- what stands as an index of a plain subscript -/
def PlainIx (b : Expr) : Prop := ∀ o i, subscripted b false o i = operate [o, i] (getItem o i)
/-- a subscript by values -/
def IxR (X : Cx) (r : R2) : Prop :=
  ∀ (value slice : Expr) (pins : List (Addr × Obj)) (s : Shared) (σ : St) (H : Hp) (x y : V) (v u : Value) (Q : VK), Inv X pins σ H s → RelV x v → RelV y u → r x y H Q →
    subscripted slice false v u = operate [v, u] (getItem v u) → wpAny (model X.prog X.w) X.A (subscriptTail value slice v u) (EP X pins σ Q) X.xe s
/-- a call of a builtin's method by values: the receiver, the arguments -/
def MtR (X : Cx) (id : String) (r : V → List V → Hp → VK → Prop) : Prop :=
  ∀ (pins : List (Addr × Obj)) (s : Shared) (σ : St) (H : Hp) (x : V) (xs : List V) (v : Value) (us : List Value) (Q : VK), Inv X pins σ H s → RelV x v → Vals xs us → r x xs H Q →
    wpAny (model X.prog X.w) X.A (call (.builtin id) (v :: us)) (EP X pins σ Q) X.xe s
section
variable {X : Cx} {a b : Expr} {ta tb : TE} {pos : Pos}
theorem IxR.or {r r' : R2} (h : IxR X r) (h' : IxR X r') : IxR X (fun x y H Q => r x y H Q ∨ r' x y H Q) := by
  intro value slice pins s σ H x y v u Q I rx ry q hs
  rcases q with q | q
  · exact h value slice pins s σ H x y v u Q I rx ry q hs
  · exact h' value slice pins s σ H x y v u Q I rx ry q hs
/-- a[b] -/
theorem pe_ix {r : R2} (hr : IxR X r) (ha : PE X a ta) (hb : PE X b tb) (hs : PlainIx b) : PE X (.Subscript a b pos) (tOp r ta tb) := by
  intro pins s σ H Q I h
  exact Subscript_ (binT ha hb I h fun v u s2 x y H2 I2 rx ry q => hr a b pins s2 σ H2 x y v u Q I2 rx ry q (hs _ _))

def rIxL (K : PySem.W.Frag) : R2 := fun x y H Q => ∃ p xs i v, x = .ref p ∧ y = .int i ∧ SqL K H p xs ∧ atI xs i = some v ∧ Q v H
def rIxT (K : PySem.W.Frag) : R2 := fun x y H Q => ∃ p xs i v, x = .ref p ∧ y = .int i ∧ SqT K H p xs ∧ atI xs i = some v ∧ Q v H
def rIxS : R2 := fun x y H Q => ∃ z i c, x = .str z ∧ y = .int i ∧ z.length ≤ sizeLine ∧ atI z.cps.toList i = some c ∧ Q (.str ⟨#[c]⟩) H
theorem ix_list : IxR X (rIxL X.K) := by
  intro value slice pins s σ H x y v u Q I rx ry h hs
  obtain ⟨p, xs, i, z, rfl, rfl, hq, he, q⟩ := h
  cases rx
  obtain ⟨t, rfl⟩ := ry
  obtain ⟨its, r, pl, hz⟩ := I.list hq
  obtain ⟨j, h1, h2, h3, h4, h5⟩ := atI_get he
  obtain ⟨w, ew, rw'⟩ := r.get h2
  have hl := r.length
  have hn := line63
  have fin : EP X pins σ Q w s := ⟨z, H, I, rw', q⟩
  by_cases h0 : 0 ≤ i
  · have hj : i.toNat = j := by
      rw [seqIndex_of h0 h5] at h1
      exact Option.some.inj h1
    exact item_listR pl.isList h0 (by omega) (by rw [hj]; simpa using ew) fin hs
  · have hj : (i + (its.toArray.size : Int)).toNat = j := by
      rw [seqIndex_neg (by omega) h4] at h1
      rw [List.size_toArray, ← hl]
      exact Option.some.inj h1
    exact subscriptTail_builtinR (x := w) pl.isList.typeIs slot_list_getitem.lookup
      (wpAny_getItem_list_neg (Q := fun r s' => r = w ∧ EP X pins σ Q r s') pl.isList (by omega) (by rw [List.size_toArray] <;> omega) (by omega) (by rw [hj]; simpa using ew) ⟨rfl, fin⟩) hs
theorem ix_tup : IxR X (rIxT X.K) := by
  intro value slice pins s σ H x y v u Q I rx ry h hs
  obtain ⟨p, xs, i, z, rfl, rfl, hq, he, q⟩ := h
  cases rx
  obtain ⟨t, rfl⟩ := ry
  obtain ⟨its, r, pl, hz⟩ := I.tuple hq
  obtain ⟨j, h1, h2, h3, h4, h5⟩ := atI_get he
  obtain ⟨w, ew, rw'⟩ := r.get h2
  have hl := r.length
  have hn := line63
  have fin : EP X pins σ Q w s := ⟨z, H, I, rw', q⟩
  exact subscriptTail_builtinR (x := w) pl.typeIs slot_tuple_getitem.lookup
    (getItem_tuple (j := j) (Q := fun r s' => r = w ∧ EP X pins σ Q r s') pl (by omega) (by omega) (by rw [List.size_toArray, ← hl]; exact h1) (by simpa using ew) ⟨rfl, fin⟩) hs
theorem ix_str : IxR X rIxS := by
  intro value slice pins s σ H x y v u Q I rx ry h hs
  obtain ⟨z, i, c, rfl, rfl, hz, he, q⟩ := h
  obtain ⟨t, rfl⟩ := rx
  obtain ⟨t', rfl⟩ := ry
  obtain ⟨j, h1, h2, h3, h4, h5⟩ := atI_get he
  have hl : z.cps.toList.length = z.length := by simp [Str.length]
  rw [hl] at h1 h4 h5
  have hn := line63
  exact tail_any (typeIs_str s z t) slot_str_getitem.lookup (getItem_str (c := c) (by
    have e1 : decide (i < -(2 ^ 63 : Int)) = false := decide_eq_false (by omega)
    have e2 : decide (i ≥ 2 ^ 63) = false := decide_eq_false (by omega)
    rw [e1, e2, Bool.or_false]) (by rw [h1]; simpa using h2) ⟨.str ⟨#[c]⟩, H, I.tok _, ⟨_, rfl⟩, q⟩) hs
/-- list, tuple or str -/
def rIx (K : PySem.W.Frag) : R2 := fun x y H Q => rIxL K x y H Q ∨ rIxT K x y H Q ∨ rIxS x y H Q
theorem ix_seq : IxR X (rIx X.K) := ix_list.or (ix_tup.or ix_str)

/-- the list's object behind a store -/
theorem mapSeq_set (its : List Value) (n j : Nat) (u : Value) : Obj.mapSeq (·.setIfInBounds j u) { cls := .type "list", data := .seq its.toArray n } = { cls := .type "list", data := .seq (its.set j u).toArray n } := by
  simp [Obj.mapSeq]
theorem Inv.lst {pins : List (Addr × Obj)} {σ : St} {H : Hp} {s : Shared} {p : Addr} {xs : List V} (I : Inv X pins σ H s) (h : H p = some (.lst xs)) :
    ∃ (its : List Value) (n : Nat), Vals xs its ∧ s.heap.get? p = some { cls := .type "list", data := .seq its.toArray n } ∧ xs.length ≤ sizeLine := by
  obtain ⟨z, its, n, r, e⟩ := I.hok p _ h
  exact ⟨its, n, r, e, z⟩
/-- the list at p is written by an update of its object -/
theorem Inv.lstUpd {pins : List (Addr × Obj)} {σ : St} {H : Hp} {s : Shared} {p : Addr} {xs ys : List V} {its its' : List Value} {n n' : Nat} {f : Obj → Obj} (I : Inv X pins σ H s) (h : H p = some (.lst xs))
    (ho : s.heap.get? p = some { cls := .type "list", data := .seq its.toArray n }) (hf : f { cls := .type "list", data := .seq its.toArray n } = { cls := .type "list", data := .seq its'.toArray n' }) (r : Vals ys its') (hz : ys.length ≤ sizeLine) (t : Nat) :
    Inv X pins σ (upd H p (.lst ys)) { s with heap := s.heap.update p f, toks := t } := by
  have e : (s.heap.update p f).get? p = some { cls := .type "list", data := .seq its'.toArray n' } := by
    rw [Heap.get?_update_self f ho (by rw [hf] <;> rfl), hf]
  refine I.write (x := p) (e := p) (by rw [h]; trivial) (.inl rfl) (fun b u hb q => (Heap.get?_update_other _ _ (Ne.symm hb)).trans q) ⟨_, e⟩ ?_
  exact ⟨hz, its', n', r, e⟩
def rSetL : V → V → V → Hp → (Hp → Prop) → Prop := fun o i v H Q => ∃ p xs k j, o = .ref p ∧ i = .int k ∧ H p = some (.lst xs) ∧ ixN xs.length k = some j ∧ Q (upd H p (.lst (xs.set j v)))
theorem set_list : PSet X rSetL := by
  intro pins s σ H o i v ov iv u Q I ro ri rv h
  obtain ⟨p, xs, k, j, rfl, rfl, hp, hj, q⟩ := h
  cases ro
  obtain ⟨t, rfl⟩ := ri
  obtain ⟨its, n, r, ho, hz⟩ := I.lst hp
  obtain ⟨h1, h2, h3, h4⟩ := ixN_seq hj
  have hl := r.length
  have hn := line63
  have I' : Inv X pins σ (upd H p (.lst (xs.set j v))) { s with heap := s.heap.update p (Obj.mapSeq (·.setIfInBounds j u)) } :=
    I.lstUpd hp ho (mapSeq_set its n j u) (r.set rv j) (by rw [List.length_set]; exact hz) s.toks
  by_cases h0 : 0 ≤ k
  · have hk : k.toNat = j := by
      rw [seqIndex_of h0 h4] at h1
      exact Option.some.inj h1
    exact PySem.W.ki_setAt ho h0 (by omega) (by rw [List.size_toArray, ← hl]; exact h4) (by rw [hk]; exact ⟨_, I', q⟩)
  · have hk : (k + (its.toArray.size : Int)).toNat = j := by
      rw [seqIndex_neg (by omega) h3] at h1
      rw [List.size_toArray, ← hl]
      exact Option.some.inj h1
    exact PySem.W.ki_setBack ho (by omega) (by rw [List.size_toArray, ← hl]; exact h3) (by omega) (by rw [hk]; exact ⟨_, I', q⟩)

theorem slice_bounds (lo hi : Option Int) (n : Nat) : (sliceBounds lo hi none n).1 = ((HT.sIx n 0 lo : Nat) : Int) ∧ (sliceBounds lo hi none n).2.1 = ((HT.sIx n n hi : Nat) : Int) ∧ (sliceBounds lo hi none n).2.2 = 1 := by
  refine ⟨?_, ?_, rfl⟩
  · cases lo with
    | none => simp [sliceBounds, HT.sIx]
    | some i =>
      simp only [sliceBounds, HT.sIx, Option.getD_none, show (1 : Int) > 0 by decide, if_true]
      by_cases h : i < 0
      · simp only [h, if_true] <;> omega
      · simp only [h, if_false] <;> omega
  · cases hi with
    | none => simp [sliceBounds, HT.sIx]
    | some i =>
      simp only [sliceBounds, HT.sIx, Option.getD_none, show (1 : Int) > 0 by decide, if_true]
      by_cases h : i < 0
      · simp only [h, if_true] <;> omega
      · simp only [h, if_false] <;> omega
theorem slicePick_cut (its : List Value) (lo hi : Option Int) : slicePick its.toArray lo hi none = ((its.drop (HT.sIx its.length 0 lo)).take (HT.sIx its.length its.length hi - HT.sIx its.length 0 lo)).toArray := by
  obtain ⟨h1, h2, h3⟩ := slice_bounds lo hi its.toArray.size
  unfold slicePick
  rw [h1, h2, h3]
  simp only [sliceRange_one, pick_run, List.size_toArray] <;> rfl
/-- xs[lo:hi] of a list: a new list -/
def rSlL (K : PySem.W.Frag) : V → Option Int → Option Int → Hp → VK → Prop := fun x lo hi H Q => ∃ a xs, x = .ref a ∧ SqL K H a xs ∧ ∀ p, H p = none → Q (.ref p) (upd H p (.lst (cutV xs lo hi)))
theorem sl_list : SlR X (rSlL X.K) := by
  intro pins s σ H x v vl vu lo hi sl Q I rx hs pl pu h
  obtain ⟨a, xs, rfl, hx, q⟩ := h
  cases rx
  obtain ⟨its, r, ht, hz⟩ := I.list hx
  have hlen := r.length
  refine ⟨"list", _, slot_list_getitem.lookup, ht.isList.typeIs, ?_⟩
  refine wpAny_getItem_list_slice ht.isList hs pl pu .none (by simp) ?_ (by rw [List.size_toArray] <;> omega)
  rw [slicePick_cut, ← hlen]
  refine ⟨.ref s.heap.objs.size, _, I.laid (t' := s.toks) (o := .lst (cutV xs lo hi)) (fun b ob q => Heap.get?_push_of_some _ q) (Nat.le_refl _) ?_, rfl, q _ (I.hok.fresh (Nat.le_refl _))⟩
  exact ⟨Nat.le_trans (cutV_length xs lo hi) hz, _, 0, (r.drop (HT.sIx xs.length 0 lo)).take (HT.sIx xs.length xs.length hi - HT.sIx xs.length 0 lo), Heap.get?_push_size _ rfl⟩

def flatV : V → Bool
  | .non => true
  | .bl _ => true
  | .int _ => true
  | .str _ => true
  | _ => false
/-- == of flat values -/
def eqV : V → V → Bool
  | .non, .non => true
  | .bl a, .bl b => a == b
  | .bl a, .int b => (if a then 1 else 0) == b
  | .int a, .bl b => a == (if b then 1 else 0)
  | .int a, .int b => a == b
  | .str a, .str b => a == b
  | _, _ => false
theorem eqAt_V {A : Around} {s : Shared} {y x : V} {u v : Value} (ry : RelV y u) (rx : RelV x v) (fy : flatV y = true) (fx : flatV x = true) : SeqAt.EqAt A s u v (eqV y x) := by
  cases y with
  | non =>
    cases ry
    cases x with
    | non => cases rx; exact SeqAt.EqAt.same _
    | bl b => cases rx; exact SeqAt.EqAt.none_bool b
    | int b => obtain ⟨t, rfl⟩ := rx; exact SeqAt.EqAt.none_int b t
    | str b => obtain ⟨t, rfl⟩ := rx; exact SeqAt.EqAt.none_str b t
    | _ => exact absurd (show false = true from fx) Bool.false_ne_true
  | bl a =>
    cases ry
    cases x with
    | non => cases rx; exact SeqAt.EqAt.bool_none a
    | bl b => cases rx; exact SeqAt.EqAt.bool_bool a b
    | int b => obtain ⟨t, rfl⟩ := rx; exact SeqAt.EqAt.bool_int a b t
    | str b => obtain ⟨t, rfl⟩ := rx; exact SeqAt.EqAt.bool_str a b t
    | _ => exact absurd (show false = true from fx) Bool.false_ne_true
  | int a =>
    obtain ⟨t', rfl⟩ := ry
    cases x with
    | non => cases rx; exact SeqAt.EqAt.int_none a t'
    | bl b => cases rx; exact SeqAt.EqAt.int_bool a t' b
    | int b => obtain ⟨t, rfl⟩ := rx; exact SeqAt.EqAt.int_int a t' b t
    | str b => obtain ⟨t, rfl⟩ := rx; exact SeqAt.EqAt.int_str a t' b t
    | _ => exact absurd (show false = true from fx) Bool.false_ne_true
  | str a =>
    obtain ⟨t', rfl⟩ := ry
    cases x with
    | non => cases rx; exact SeqAt.EqAt.str_none a t'
    | bl b => cases rx; exact SeqAt.EqAt.str_bool a t' b
    | int b => obtain ⟨t, rfl⟩ := rx; exact SeqAt.EqAt.str_int a t' b t
    | str b => obtain ⟨t, rfl⟩ := rx; exact SeqAt.EqAt.str_str a t' b t
    | _ => exact absurd (show false = true from fx) Bool.false_ne_true
  | _ => exact absurd (show false = true from fy) Bool.false_ne_true
/-- the items' answers, read off the values (a value's own answer does not lean on its token) -/
def eqU (x : V) (u : Value) : Bool := match u with
  | .none => eqV .non x
  | .bool b => eqV (.bl b) x
  | .int i _ => eqV (.int i) x
  | .str z _ => eqV (.str z) x
  | _ => false
theorem eqU_of {x y : V} {u : Value} (r : RelV y u) (f : flatV y = true) : eqU x u = eqV y x := by
  cases y with
  | non => cases r; rfl
  | bl b => cases r; rfl
  | int i => obtain ⟨t, rfl⟩ := r; rfl
  | str z => obtain ⟨t, rfl⟩ := r; rfl
  | _ => exact absurd (show false = true from f) Bool.false_ne_true
theorem any_eqU {x : V} : ∀ {xs : List V} {us : List Value}, Vals xs us → xs.all flatV = true → us.any (eqU x) = xs.any fun y => eqV y x
  | _, _, .nil, _ => rfl
  | y :: xs, u :: us, .cons r t, f => by
    rw [List.all_cons, Bool.and_eq_true] at f
    rw [List.any_cons, List.any_cons, eqU_of r f.1, any_eqU t f.2]
theorem mem_eqAt {A : Around} {s : Shared} {x : V} {v : Value} (rx : RelV x v) (fx : flatV x = true) : ∀ {xs : List V} {us : List Value}, Vals xs us → xs.all flatV = true → ∀ u ∈ us, SeqAt.EqAt A s u v (eqU x u)
  | _, _, .nil, _ => fun u hu => by cases hu
  | y :: xs, u :: us, .cons r t, f => fun u' hu => by
    rw [List.all_cons, Bool.and_eq_true] at f
    rcases List.mem_cons.mp hu with rfl | hu
    · rw [eqU_of r f.1]; exact eqAt_V r rx f.1 fx
    · exact mem_eqAt rx fx t f.2 u' hu
def inV (x : V) (xs : List V) : Bool := xs.any fun y => eqV y x
/-- x in a list or tuple of flat items -/
def rIn (K : PySem.W.Frag) (neg : Bool) : R2 := fun x y H Q => ∃ p xs, y = .ref p ∧ (SqL K H p xs ∨ SqT K H p xs) ∧ flatV x = true ∧ xs.all flatV = true ∧ Q (.bl (if neg then !inV x xs else inV x xs)) H
theorem op_in_seq : OpR X (compareOp .In) (rIn X.K false) := by
  intro pins s σ H x y v u Q I rx ry h
  obtain ⟨p, xs, rfl, hq, fx, fs, q⟩ := h
  cases ry
  rcases hq with hq | hq
  · obtain ⟨its, r, pl, hz⟩ := I.list hq
    refine SeqAt.in_listAt (eqU x) pl.isList (fun w hw => mem_eqAt rx fx r fs w (by simpa using hw)) ⟨.bl _, H, I, rfl, ?_⟩
    rw [show its.toArray.any (eqU x) = its.any (eqU x) by simp, any_eqU r fs]
    exact q
  · obtain ⟨its, r, pl, hz⟩ := I.tuple hq
    refine SeqAt.in_tupleAt (eqU x) pl (fun w hw => mem_eqAt rx fx r fs w (by simpa using hw)) ⟨.bl _, H, I, rfl, ?_⟩
    rw [show its.toArray.any (eqU x) = its.any (eqU x) by simp, any_eqU r fs]
    exact q
theorem op_notIn_seq : OpR X (compareOp .NotIn) (rIn X.K true) := by
  intro pins s σ H x y v u Q I rx ry h
  obtain ⟨p, xs, rfl, hq, fx, fs, q⟩ := h
  cases ry
  rcases hq with hq | hq
  · obtain ⟨its, r, pl, hz⟩ := I.list hq
    refine SeqAt.notIn_listAt (eqU x) pl.isList (fun w hw => mem_eqAt rx fx r fs w (by simpa using hw)) ⟨.bl _, H, I, rfl, ?_⟩
    rw [show its.toArray.any (eqU x) = its.any (eqU x) by simp, any_eqU r fs]
    exact q
  · obtain ⟨its, r, pl, hz⟩ := I.tuple hq
    refine SeqAt.notIn_tupleAt (eqU x) pl (fun w hw => mem_eqAt rx fx r fs w (by simpa using hw)) ⟨.bl _, H, I, rfl, ?_⟩
    rw [show its.toArray.any (eqU x) = its.any (eqU x) by simp, any_eqU r fs]
    exact q
theorem call_len_seq : CallR X (.builtin "len") (fun xs H Q => ∃ p ys, xs = [.ref p] ∧ (SqL X.K H p ys ∨ SqT X.K H p ys) ∧ Q (.int ys.length) H) := by
  intro pins s σ H xs us Q I r h
  obtain ⟨p, ys, rfl, hq, q⟩ := h
  obtain ⟨u, rfl, rx⟩ := vals1 r
  cases rx
  have hn := line63
  rcases hq with hq | hq
  · obtain ⟨its, r', pl, hz⟩ := I.list hq
    have hlen := r'.length
    exact Calls.call_len_list pl.isList (by simp only [List.size_toArray] <;> omega) ⟨.int ys.length, H, I.tok _, ⟨s.toks + 1, by rw [List.size_toArray, hlen]⟩, q⟩
  · obtain ⟨its, r', pl, hz⟩ := I.tuple hq
    have hlen := r'.length
    exact len_tuple pl (by simp only [List.size_toArray] <;> omega) ⟨.int ys.length, H, I.tok _, ⟨s.toks + 1, by rw [List.size_toArray, hlen]⟩, q⟩
theorem call_tuple_of : CallR X (.type "tuple") (fun xs H Q => ∃ p ys, xs = [.ref p] ∧ ((SqL X.K H p ys ∧ ∀ l, H l = none → Q (.ref l) (upd H l (.tup ys))) ∨ (SqT X.K H p ys ∧ Q (.ref p) H))) := by
  intro pins s σ H xs us Q I r h
  obtain ⟨p, ys, rfl, h⟩ := h
  obtain ⟨u, rfl, rx⟩ := vals1 r
  cases rx
  rcases h with ⟨hq, q⟩ | ⟨hq, q⟩
  · obtain ⟨its, r', pl, hz⟩ := I.list hq
    have hlen := r'.length
    refine call_tuple_list pl.isList (fun h' kp => ?_) (by simp only [List.size_toArray] <;> omega)
    have I1 : Inv X pins σ H { s with heap := h' } := I.kept (t' := s.toks) kp
    have I2 : Inv X pins σ (upd H h'.objs.size (.tup ys)) { s with heap := h'.push { cls := .type "tuple", data := .seq its.toArray } } :=
      I1.laid (t' := s.toks) (fun b o e => Heap.get?_push_of_some _ e) (Nat.le_refl _) (show ObjOk X.prog X.w _ _ _ (.tup ys) from ⟨hz, its, r', IsTup.new _ _⟩)
    exact ⟨.ref h'.objs.size, _, I2, rfl, q _ (I1.hok.fresh (Nat.le_refl _))⟩
  · obtain ⟨its, r', pl, hz⟩ := I.tuple hq
    exact call_tuple_same pl ⟨.ref p, H, I, rfl, q⟩

/-- the value is of that builtin type -/
def tyV (K : PySem.W.Frag) (T : String) (x : V) (H : Hp) : Prop := match x with
  | .str _ => T = "str"
  | .int _ => T = "int"
  | .ref p => (T = "list" ∧ ∃ xs, SqL K H p xs) ∨ (T = "tuple" ∧ ∃ o, K.lookup p = some o ∧ o.cls = .type "tuple" ∧ o.dict = none) ∨
      (T = "dict" ∧ ((∃ kvs, H p = some (.dK kvs)) ∨ ∃ kvs, H p = some (.dT kvs))) ∨ (T = "set" ∧ ∃ S n, H p = some (.set S n))
  | _ => False
theorem tyV_is {pins : List (Addr × Obj)} {σ : St} {H : Hp} {s : Shared} {T : String} {x : V} {v : Value} (I : Inv X pins σ H s) (r : RelV x v) (ty : tyV X.K T x H) :
    s.TypeIs v T ∧ ∀ a, v = .ref a → ∃ ob, s.heap.get? a = some ob ∧ ob.dict = none := by
  cases x with
  | str z =>
    obtain ⟨t, rfl⟩ := r
    cases (show T = "str" from ty)
    exact ⟨typeIs_str s z t, fun _ e => nomatch e⟩
  | int i =>
    obtain ⟨t, rfl⟩ := r
    cases (show T = "int" from ty)
    exact ⟨typeIs_int s i t, fun _ e => nomatch e⟩
  | ref p =>
    cases r
    rcases ty with ⟨rfl, xs, hq⟩ | ⟨rfl, o, hk, hc, hd⟩ | ⟨rfl, hk⟩ | ⟨rfl, S, n, hk⟩
    · obtain ⟨its, _, pl, _⟩ := I.list hq
      refine ⟨pl.isList.typeIs, fun a e => ?_⟩
      cases e
      obtain ⟨o, n, e, c, hd, _⟩ := pl
      exact ⟨o, e, hd⟩
    · refine ⟨⟨o, I.kIn p o hk, hc⟩, fun a e => ?_⟩
      cases e
      exact ⟨o, I.kIn _ o hk, hd⟩
    · have z : ∃ o, s.heap.get? p = some o ∧ o.ExactDict := by
        rcases hk with ⟨kvs, hk⟩ | ⟨kvs, hk⟩
        · obtain ⟨_, _, _, _, o, _, _, e, ex, _⟩ := I.hok p _ hk
          exact ⟨o, e, ex⟩
        · obtain ⟨_, _, _, _, o, _, _, e, ex, _⟩ := I.hok p _ hk
          exact ⟨o, e, ex⟩
      obtain ⟨o, e, ex⟩ := z
      refine ⟨⟨o, e, ex.1⟩, fun a e2 => ?_⟩
      cases e2
      exact ⟨o, e, ex.2.1⟩
    · obtain ⟨o, _, _, _, e, ex, _⟩ := I.hok p _ hk
      refine ⟨⟨o, e, ex.1⟩, fun a e2 => ?_⟩
      cases e2
      exact ⟨o, e, ex.2.1⟩
  | _ => exact False.elim ty
def tBM (K : PySem.W.Frag) (T : String) (r : V → List V → Hp → VK → Prop) (to : TE) (t : TA) : TE := fun σ H Q => to σ H fun x H1 => tyV K T x H1 ∧ t σ H1 fun xs H2 => r x xs H2 Q
variable {o e : Expr} {es : List Expr} {to : TE} {t : TA} {name : Str} {apos cpos : Pos} {T id : String} {r : V → List V → Hp → VK → Prop}
theorem pe_bm (pa : PlainAttrs T) (slot : Slot T name id) (hty : typeOf (.builtin id) = pure (.type "method_descriptor")) (hm : MtR X id r) (ho : PE X o to) (ha : PA X (e :: es) t)
    (hbase : attributeBase o name X.env (eval o X.env) = eval o X.env := by rfl)
    (hfew : ((backTo cpos (starEach (e :: es) X.env)).all (fun x => !x.1) && (backToKw cpos (keywordEach [] X.env)).all (fun x => x.1.isSome)
      && decide ((e :: es).length + ([] : List Keyword).length + (if ([] : List Keyword).isEmpty then 0 else 1) < 30)) = true := by rfl)
    (hline : (apos.endLine == cpos.line) = true := by rfl) (hs : starEach (e :: es) X.env = (false, eval e X.env) :: starEach es X.env := by rfl) (hplain : (backTo cpos (starEach es X.env)).any (·.1) = false := by rfl) :
    PE X (.Call (.Attribute o name apos) (e :: es) [] cpos) (tBM X.K T r to t) := by
  intro pins s σ H Q I h
  refine wpAny_Call_method_late hbase hfew hline rfl (thn (ho pins s σ H _ I h) fun v s1 ⟨x, H1, I1, r1, ty, q1⟩ => ?_)
  obtain ⟨h1, h2⟩ := tyV_is I1 r1 ty
  refine ⟨T, id, pa, slot, hty, h1, h2, ?_⟩
  have hA := ha cpos pins s1 σ H1 _ I1 q1
  rw [hs] at hA ⊢
  refine Calls.callWith_builtin (by show (false || (backTo cpos (starEach es X.env)).any (·.1)) = false; rw [hplain] <;> rfl) (Calls.evalArgs_plain ?_)
  exact thn hA fun us s2 ⟨vs, H2, I2, r2, q2⟩ => hm pins s2 σ H2 x vs v us Q I2 r1 r2 q2
/- xs.append(e), list.index on a module's tuple .. are MtR facts of 06m -/
end
end L2

namespace L2
open PySem PySem.Spec PyProof.Rows

def MtM (X : Cx) (id : String) (r : V → List V → Hp → VK → Prop) : Prop :=
  ∀ (pins : List (Addr × Obj)) (s : Shared) (σ : St) (H : Hp) (x : V) (xs : List V) (v : Value) (us : List Value) (Q : VK), Inv X pins σ H s → RelV x v → Vals xs us → r x xs H Q →
    wpAny (model X.prog X.w) X.A (call (.builtin id) (v :: us)) (EP X pins σ Q) X.xe s

theorem Vals.one : ∀ {x : V} {us : List Value}, Vals [x] us → ∃ u, us = [u] ∧ RelV x u
  | _, _, .cons r .nil => ⟨_, rfl, r⟩
theorem Vals.rep {xs : List V} {us : List Value} (h : Vals xs us) : ∀ k : Nat, Vals (List.replicate k xs).flatten (List.replicate k us).flatten
  | 0 => .nil
  | k + 1 => by
    rw [List.replicate_succ, List.replicate_succ, List.flatten_cons, List.flatten_cons]
    exact Vals.append h (Vals.rep h k)
theorem foldl_rep (its : List Value) : ∀ (k : Nat) (acc : List Value),
    List.foldl (fun x1 x2 => x1 ++ x2) acc.toArray (List.replicate k its.toArray) = (acc ++ (List.replicate k its).flatten).toArray
  | 0, acc => by simp
  | k + 1, acc => by
    have e : acc.toArray ++ its.toArray = (acc ++ its).toArray := by simp
    have e2 : (acc ++ its) ++ (List.replicate k its).flatten = acc ++ (List.replicate (k + 1) its).flatten := by
      rw [List.replicate_succ, List.flatten_cons, List.append_assoc]
    rw [← e2, ← foldl_rep its k (acc ++ its), ← e, List.replicate_succ, List.foldl_cons]

section
variable {X : Cx} {pins : List (Addr × Obj)} {σ : St} {H : Hp} {s : Shared} {l b : Addr} {xs ys zs : List V}

theorem Inv.lset {its its' : List Value} {n : Nat} {f : Array Value → Array Value} {t' : Nat} (I : Inv X pins σ H s) (hH : H l = some (.lst xs))
    (e : s.heap.get? l = some { cls := .type "list", data := .seq its.toArray n }) (hf : f its.toArray = its'.toArray) (hv : Vals ys its') (hz : ys.length ≤ sizeLine) :
    Inv X pins σ (upd H l (.lst ys)) { s with heap := s.heap.update l (Obj.mapSeq f), toks := t' } := by
  have q := PySem.IsL.update e f
  rw [hf] at q
  refine I.write (x := l) (e := l) (by rw [hH]; exact trivial) (.inl rfl) (fun b' u hb hu => (Heap.get?_update_other s.heap (Obj.mapSeq f) (Ne.symm hb)).trans hu) ⟨_, q⟩ ?_
  exact ⟨hz, its', _, hv, q⟩
theorem Inv.lnew {its : List Value} {t' : Nat} (I : Inv X pins σ H s) (hv : Vals ys its) (hz : ys.length ≤ sizeLine) :
    Inv X pins σ (upd H s.heap.objs.size (.lst ys)) { s with heap := s.heap.push { cls := .type "list", data := .seq its.toArray }, toks := t' } :=
  I.laid (fun _ _ q => Heap.get?_push_of_some _ q) (Nat.le_refl _) ⟨hz, its, 0, hv, Heap.get?_push_size _ rfl⟩
theorem Inv.fresh (I : Inv X pins σ H s) : H s.heap.objs.size = none := I.hok.fresh (Nat.le_refl _)
theorem Inv.lstM (I : Inv X pins σ H s) (hH : H l = some (.lst xs)) : xs.length ≤ sizeLine ∧ ∃ (its : List Value) (n : Nat), Vals xs its ∧ xs.length = its.length ∧ s.heap.get? l = some { cls := .type "list", data := .seq its.toArray n } := by
  obtain ⟨z, its, n, r, e⟩ := I.hok l _ hH
  exact ⟨z, its, n, r, r.length, e⟩

theorem notLongL {n : Nat} (h : n ≤ sizeLine) : Builtin.List.listTooLong n = false := by
  unfold Builtin.List.listTooLong
  exact decide_eq_false (by omega)
end

section
variable {X : Cx}

def rAppend : V → List V → Hp → VK → Prop := fun x vs H Q => ∃ l xs y, x = .ref l ∧ vs = [y] ∧ H l = some (.lst xs) ∧ xs.length < sizeLine ∧ Q .non (upd H l (.lst (xs ++ [y])))
theorem mt_append : MtM X "list.append" rAppend := by
  intro pins s σ H x vs v us Q I rx rv h
  obtain ⟨l, xs, y, rfl, rfl, hH, hz, q⟩ := h
  cases rx
  obtain ⟨u, rfl, ru⟩ := rv.one
  obtain ⟨z, its, n, r, hl, e⟩ := I.lstM hH
  refine call_meets F.slot_list_append ⟨_, e, rfl⟩ F.entry_list_append (F.args_list_append_2 _ _) (PySem.list_append l its.toArray n u (by rw [List.size_toArray]; omega)) ⟨e, ?_⟩
  refine ⟨.non, _, I.lset (its' := its ++ [u]) hH e (by simp) (r.append (.cons ru .nil)) ?_, rfl, q⟩
  rw [List.length_append, List.length_singleton]
  omega

def rExtend : V → List V → Hp → VK → Prop := fun x vs H Q => ∃ l b xs zs, x = .ref l ∧ vs = [.ref b] ∧ H l = some (.lst xs) ∧ H b = some (.lst zs) ∧ xs.length + zs.length ≤ sizeLine ∧ Q .non (upd H l (.lst (xs ++ zs)))
theorem mt_extend : MtM X "list.extend" rExtend := by
  intro pins s σ H x vs v us Q I rx rv h
  obtain ⟨l, b, xs, zs, rfl, rfl, hH, hB, hz, q⟩ := h
  cases rx
  obtain ⟨u, rfl, ru⟩ := rv.one
  cases ru
  obtain ⟨z, its, n, r, hl, e⟩ := I.lstM hH
  obtain ⟨z2, its2, n2, r2, hl2, e2⟩ := I.lstM hB
  have hsz : its.toArray.size + its2.toArray.size ≤ sizeLine := by rw [List.size_toArray, List.size_toArray]; omega
  have hlong : ¬ (!its.toArray.isEmpty && Builtin.List.listTooLong (its.toArray.size + its2.toArray.size)) = true := by
    rw [notLongL hsz, Bool.and_false]
    exact Bool.false_ne_true
  refine call_meets F.slot_list_extend ⟨_, e, rfl⟩ F.entry_list_extend (F.args_list_extend_2 _ _)
    (AutoSeq1.list_extend_list_list_0 l its.toArray n b its2.toArray n2 hlong (by rw [List.size_toArray]; omega) (by omega)) ⟨e, e2, ?_⟩
  refine ⟨.non, _, I.lset (its' := its ++ its2) hH e (by simp) (r.append r2) ?_, rfl, q⟩
  rw [List.length_append]
  omega

def rCat : R2 := fun x y H Q => ∃ l b xs zs, x = .ref l ∧ y = .ref b ∧ H l = some (.lst xs) ∧ H b = some (.lst zs) ∧ xs.length + zs.length ≤ sizeLine ∧ ∀ p, H p = none → Q (.ref p) (upd H p (.lst (xs ++ zs)))
theorem op_cat : OpR X (binaryOp .Add) rCat := by
  intro pins s σ H x y v u Q I rx ry h
  obtain ⟨l, b, xs, zs, rfl, rfl, hH, hB, hz, q⟩ := h
  cases rx
  cases ry
  obtain ⟨z, its, n, r, hl, e⟩ := I.lstM hH
  obtain ⟨z2, its2, n2, r2, hl2, e2⟩ := I.lstM hB
  refine PySem.P.add_list e e2 ?_ (by rw [List.size_toArray, List.size_toArray]; omega)
  have ea : its.toArray ++ its2.toArray = (its ++ its2).toArray := by simp
  rw [ea]
  exact ⟨.ref _, _, I.lnew (t' := s.toks) (r.append r2) (by rw [List.length_append]; omega), rfl, q _ I.fresh⟩
/-- a list times an int (a negative one is nothing) -/
def rRep : R2 := fun x y H Q => ∃ l k xs, x = .ref l ∧ y = .int k ∧ H l = some (.lst xs) ∧ -(2 ^ 63) ≤ k ∧ k < 2 ^ 63 ∧ xs.length * k.toNat ≤ sizeLine ∧
  ∀ p, H p = none → Q (.ref p) (upd H p (.lst (List.replicate k.toNat xs).flatten))
theorem len_rep {α : Type} (xs : List α) (k : Nat) : (List.replicate k xs).flatten.length = k * xs.length := by
  induction k with
  | zero => simp
  | succ k ih => rw [List.replicate_succ, List.flatten_cons, List.length_append, ih, Nat.succ_mul, Nat.add_comm]
theorem op_rep : OpR X (binaryOp .Mult) rRep := by
  intro pins s σ H x y v u Q I rx ry h
  obtain ⟨l, k, xs, rfl, rfl, hH, h1, h2, hz, q⟩ := h
  cases rx
  obtain ⟨t, rfl⟩ := ry
  obtain ⟨z, its, n, r, hl, e⟩ := I.lstM hH
  have hlen : its.toArray.size * k.toNat ≤ sizeLine := by rw [List.size_toArray, ← hl]; exact hz
  have hcap : ¬ its.toArray.size * k.toNat > (2 ^ 63 - 1) / 8 := by
    have : (sizeLine : Nat) ≤ (2 ^ 63 - 1) / 8 := by decide
    omega
  have hfit : ¬ (!Builtin.List.listFitsIndex k) = true := by
    rw [fitsIndex_both h1 h2]
    exact Bool.false_ne_true
  have hlong : ¬ Builtin.List.listTooLong (its.toArray.size * k.toNat) = true := by
    rw [notLongL hlen]
    exact Bool.false_ne_true
  have hnew : List.foldl (fun x1 x2 => x1 ++ x2) #[] (List.replicate (if its.toArray.isEmpty = true then 0 else k.toNat) its.toArray) = (List.replicate k.toNat its).flatten.toArray := by
    have f0 : ∀ m : Nat, List.foldl (fun x1 x2 => x1 ++ x2) #[] (List.replicate m its.toArray) = (List.replicate m its).flatten.toArray := fun m => by
      have := foldl_rep its m []
      rw [List.nil_append] at this
      exact this
    rw [f0]
    cases its with
    | nil => simp
    | cons a r' => rw [if_neg (by simp)]
  refine wpAny_binaryOp_repeat_ref (T := "list") (U := "int") (by decide) ⟨_, e, rfl⟩ (fun s' => typeIs_int s' k t) noFill_list_mul F.fills_int_mul F.slot_int_rmul repeat_list F.slot_int_index.lookup
    (call_meets F.slot_int_rmul (typeIs_int s k t) F.entry_int_rmul (F.args_int_rmul_2 _ _) (int___rmul___int_list k t l its.toArray n)
      ⟨e, rfl, ⟨_, e, rfl⟩, call_meets F.slot_list_mul ⟨_, e, rfl⟩ F.entry_list_mul (F.args_list_mul_2 _ _) (AutoListH.list___mul___list_int_3 l its.toArray n k t hfit hcap hlong) ⟨e, ?_⟩⟩)
  rw [hnew]
  exact ⟨.ref _, _, I.lnew (t' := s.toks) (r.rep k.toNat) (by rw [len_rep, Nat.mul_comm]; exact hz), rfl, q _ I.fresh⟩

end

section
variable {prog : Program} {w : World} {A : Around} {E : Value → Shared → Prop} {s : Shared}
end

section
variable {X : Cx}
end
end L2

namespace Att
open PySem PySem.W PySem.Calls PyProof.Rows

theorem ints_of_wellAll {P : Params} {h : Heap} : ∀ (ns : List Int) (vs : List Value), WellAll P h vs (ns.map WData.int) → IntsAre vs ns := by
  intro ns
  induction ns with
  | nil =>
    intro vs w
    rw [List.map_nil] at w
    cases w
    exact .nil
  | cons n ns ih =>
    intro vs w
    rw [List.map_cons] at w
    cases w with
    | cons a b =>
      cases a
      exact .cons _ _ (ih _ b)

theorem script_of {l : OpenLaw} {n : Nat} (hn : l.most = some n) {P : Params} {h : Heap} {args : List WData} {vals : List Value}
    (hpre : l.row.toRowW.claim.pre args = true) (hwl : WellAll P h vals args) :
    ∃ a vs ns, vals = [Value.ref a] ∧ args = [WData.list (ns.map WData.int)] ∧ h.get? a = some { cls := .type "list", data := .seq vs.toArray } ∧ IntsAre vs ns ∧ ns.length ≤ n := by
  have hsh : WShape.hasAll [] args [.list .int] = true := (pre_splitW hpre).1
  have hc : l.pre.holds [] { args := args } = true := (pre_splitW hpre).2
  obtain ⟨d, r, rfl, h1, h2⟩ := hasAllW_cons hsh
  obtain rfl := hasAllW_nil h2
  obtain ⟨xs, rfl, h3⟩ := hasW_list h1
  obtain ⟨ns, rfl⟩ := items_int h3
  have hlen : ns.length ≤ n := by
    unfold OpenLaw.pre at hc
    have h4 : (WTm.not (.lt (.lit (.int (n : Int))) (.len (.arg 0)))).holds [] { args := [.list (ns.map .int)] } = true := by
      have h4 := (holds_andW hc).1
      rw [hn] at h4
      exact h4
    have h5 := condW_of h4 (w_not (w_lt w_lit (w_len_list (w_arg rfl))))
    rw [List.length_map] at h5
    refine Nat.le_of_not_lt fun q => ?_
    have q' : (n : Int) < ((ns.length : Nat) : Int) := by omega
    first
      | (rw [decide_eq_true q'] at h5; exact absurd h5 (by decide))
      | (simp at h5; omega)
  cases hwl with
  | cons w1 w2 =>
    cases w2
    cases w1 with
    | list ho hall => exact ⟨_, _, ns, rfl, rfl, ho, ints_of_wellAll ns _ hall, hlen⟩

theorem post_true (l : OpenLaw) (args : List WData) : l.row.toRowW.claim.post args (.bool true) args = true :=
  postW_of (r := l.row.toRowW) (X := (true == true))
    (show WShape.has [] (.bool true) .bool = true by first | rfl | decide | simp [WShape.has, WShape.arms, WShape.armsAll])
    (show (WTm.eq .res (.lit (.bool true))).value [] { args := args, res := some (.bool true), after := args } = some (.bool (true == true)) from w_eq_bool (w_res rfl) w_lit) rfl

/-- the same from a codeAny of the CALL (for a layer whose function contracts speak of calls) -/
theorem attach_call {l : OpenLaw} {n : Nat} {q : Program} {loose : List Str} {XP : (Str → Option Value) → Heap → Prop} {YP : World → Heap → Prop} {d : DefRec}
    (hn : l.most = some n) (hdf : d.params.defaults = [])
    (call : ∀ (w : World) (s₀ s₁ : Shared) (mg mb : Str → Option Value) (fa : Addr) (o : Obj) (pm cd doc : Value) (a : Addr) (vs : List Value) (ns : List Int),
      Ground q loose [] XP w s₀ mg mb s₁.heap → YP w s₁.heap →
      s₁.heap.get? fa = some o → o.data = .func (docDef d.name d.params d.body d.scope pm cd doc) → s₁.heap.CodeRec cd d.name → mg d.name = some (.ref fa) →
      s₁.heap.get? a = some { cls := .type "list", data := .seq vs.toArray } → IntsAre vs ns → ns.length ≤ n → s₁.gens = #[] →
      codeAny (model l.prog w) callerA (.call (.ref fa) ⟨[.ref a], []⟩) (fun r s' => r = .ok (.ret (.bool true)) ∧ OldK s₁.heap s'.heap ∧ s'.os = s₁.os ∧ AllBare s'.gens) s₁) :
    WalkO q loose XP YP l.row.toRowW d [] (fun f vs => PySem.call f vs) := by
  intro w s₀ s₁ mg mb G Y fa o pm cd doc dV kV ho hd hcd hD hmg hg args vals as hpre hlay hrd hwl hlo
  obtain rfl : dV = .none := Dflts.none hD hdf
  obtain rfl : kV = .none := Dflts.noKw hD
  obtain ⟨a, vs, ns, rfl, rfl, hobj, hints, hlen⟩ := script_of hn hpre hwl
  refine enter_call (codeAny_mono (call w s₀ s₁ mg mb fa o pm cd doc a vs ns G Y ho (fd_plain hd) hcd hmg hobj hints hlen hg) fun r s' hq => ?_)
  obtain ⟨rfl, h2, h3, h4⟩ := hq
  exact ⟨.inl ⟨.bool true, .bool true, [], rfl, fun _ => rfl, .bool true, post_true l _, fun _ => ⟨List.Pairwise.nil, fun _ hm => (nomatch hm)⟩⟩, h2, h3, h4⟩

section
variable {prog : Program} {w : World} {A : Around} {E : Value → Shared → Prop} {s : Shared} {K : Frag}

end
end Att

namespace L2
open PySem PySem.Spec PyProof.Rows

theorem vals_ints : ∀ {vs : List Value} {ns : List Int}, IntsAre vs ns → Vals (ns.map V.int) vs
  | _, _, .nil => .nil
  | _, _, .cons n t h => .cons ⟨t, rfl⟩ (vals_ints h)

/-- nothing is tracked but the script, known to the object (or it is an object of the module) -/
def Only (H : Hp) : Prop := ∀ b, H b = none ∨ ∃ o xs, H b = some (.frz o (.lst xs))

/-- THE HEAD: the law's promise, at the heap behind the top. F, the promise of the law's def, may use that base is part of the heap (so K.In base, base.Ns mainGlobals mg stand in Mod) -/
theorem law_call {P : Program} {w : World} {K : PySem.W.Frag} {mg mb : Str → Option Value} {CX : CXT} {k : Nat} {fa a : Addr} {fd : FuncData} {x : Str} {sp : Sp} {s₁ : Shared} {vs : List Value} {ns : List Int}
    (KX : K.In s₁.heap) (hns : s₁.heap.Ns mainGlobals mg) (hb : s₁.heap.Ns builtinsNs mb) (hbb : ∀ x : Str, x ≠ "__name__" → mb x = bootBuiltins x) (hlim : s₁.heap.NoLimit) (hg : s₁.gens = #[])
    (ha : s₁.heap.get? a = some { cls := .type "list", data := .seq vs.toArray }) (hi : IntsAre vs ns) (hl : ns.length ≤ sizeLine) (hr : Room k callerA)
    (F : ∀ base : Heap, K.In base → base.Ns mainGlobals mg → FnOk P w K mg base CX k fa fd [x] sp) (hbind : ∀ (s : Shared) (u : Value), BindsTo s fd ⟨[u], []⟩ [(x, u)])
    (hsp : ∀ H : Hp, Only H → SqL K H a (ns.map V.int) → sp [.ref a] H (fun v _ => v = .bl true) fun _ _ _ => False)
    (hCX : ∀ H e s', CX [] H s₁ (fun _ _ _ => False) e s' → False) :
    codeAny (model P w) callerA (.call (.ref fa) ⟨[.ref a], []⟩) (fun r s' => r = .ok (.ret (.bool true)) ∧ OldK s₁.heap s'.heap ∧ s'.os = s₁.os ∧ AllBare s'.gens) s₁ := by
  have rv := vals_ints hi
  have lenV := hi.length
  -- from an abstract heap in which nothing but the script may be tracked
  have core : ∀ H : Hp, Only H → SqL K H a (ns.map V.int) → HOk P w H s₁.heap → (∀ b, H b ≠ none → b = a) → (H a ≠ none → K.lookup a = none) →
      codeAny (model P w) callerA (.call (.ref fa) ⟨[.ref a], []⟩) (fun r s' => r = .ok (.ret (.bool true)) ∧ OldK s₁.heap s'.heap ∧ s'.os = s₁.os ∧ AllBare s'.gens) s₁ := by
    intro H hO hS hok hA hK
    have base_of : ∀ {b : Addr} {o : Obj}, s₁.heap.get? b = some o → H b = none → (hidT s₁.heap H).get? b = some o := fun e n => hidT_get e n
    have noA : ∀ {b : Addr} {o : Obj} {es : Array DictEntry} {ep : Nat}, s₁.heap.get? b = some o → o.data = .dict es ep → H b = none := fun {b o es ep} e d => by
      cases q : H b with
      | none => rfl
      | some u =>
        have e' : b = a := hA b (by rw [q]; simp)
        subst e'
        rw [ha] at e; cases e
        have d' : Data.seq vs.toArray _ = Data.dict es ep := d
        cases d'
    have nsK : ∀ {b : Addr} {m : Str → Option Value}, s₁.heap.Ns b m → (hidT s₁.heap H).Ns b m := fun {b m} ⟨o, es, ep, e, d, r⟩ => ⟨o, es, ep, base_of e (noA e d), d, r⟩
    have hKb : K.In (hidT s₁.heap H) := fun b o e => base_of (KX b o e) (by
      cases q : H b with
      | none => rfl
      | some u =>
        have e' : b = a := hA b (by rw [q]; simp)
        subst e'
        rw [hK (by rw [q]; simp)] at e; cases e)
    have hM : Mod K mg (hidT s₁.heap H) := ⟨hKb, nsK hns, ⟨mb, nsK hb, hbb⟩, let ⟨mc, h1, h2⟩ := hlim; ⟨mc, nsK h1, h2⟩⟩
    have e0 : Env0 P w K mg (hidT s₁.heap H) callerA [] s₁ H := ⟨rfl, hM, fun b o e => of_hidT e, Nat.le_of_eq (hidT_size _ _), trivial, fun b hb => absurd (show b ∈ ([] : List Addr) from hb) (by simp), hok, .of_eq hg⟩
    refine codeAny_mono ((F _ hKb (nsK hns)).run callerA [] s₁ H ⟨[.ref a], []⟩ [.ref a] [.ref a] _ _ hr e0 (hbind s₁ (.ref a)) (.cons rfl .nil) (hsp H hO hS)) fun r s' h => ?_
    cases r with
    | error e => exact (hCX H e s' h).elim
    | ok fl =>
      cases fl with
      | next => exact False.elim h
      | brk => exact False.elim h
      | cont => exact False.elim h
      | ret u =>
        obtain ⟨v, H', os, bare, un, hok', r', q⟩ := h
        have q' : v = .bl true := q
        subst q'
        obtain rfl : u = Value.bool true := r'
        refine ⟨rfl, OldK.of_keep fun b o e => ?_, os, bare⟩
        cases q : H b with
        | none => exact un.keep b o e q (by intro z; exact absurd (show b ∈ ([] : List Addr) from z) (by simp)) (by simp)
        | some u =>
          rcases hO b with z | ⟨ob, xs, z⟩
          · rw [q] at z; cases z
          · have z2 := un.frzs b ob _ z
            obtain ⟨e1, _⟩ := hok b _ z
            obtain ⟨e2, _⟩ := hok' b _ z2
            rw [e] at e1; cases e1
            exact e2
  cases hk : K.lookup a with
  | some o =>
    -- the script is one of the module's own objects
    have e := KX a o hk
    rw [ha] at e
    cases e
    refine core (fun _ => none) (fun _ => .inl rfl) (.inr ⟨_, vs.toArray, _, hk, rfl, rfl, rfl, by rw [List.size_toArray, lenV]; exact hl, by simpa using rv⟩) (fun b u z => by have z' : (none : Option HO) = some u := z; cases z') (fun b z => absurd rfl z) fun z => absurd rfl z
  | none =>
    refine core (fun b => if b = a then some (.frz { cls := .type "list", data := .seq vs.toArray } (.lst (ns.map V.int))) else none) (fun b => ?_) (.inl (.inr ⟨{ cls := .type "list", data := .seq vs.toArray }, if_pos rfl⟩)) (fun b u z => ?_) (fun b z => ?_) fun _ => hk
    · by_cases hb : b = a
      · exact .inr ⟨_, _, if_pos hb⟩
      · exact .inl (if_neg hb)
    · by_cases hb : b = a
      · have z' := (if_pos hb).symm.trans z
        cases z'
        subst hb
        exact ⟨ha, by rw [List.length_map]; exact hl, vs, _, rv, ha⟩
      · have z' := (if_neg hb).symm.trans z
        cases z'
    · by_cases hb : b = a
      · exact hb
      · exact absurd (if_neg hb) z
end L2

namespace L2
open PySem PySem.Spec PyProof.Rows

/-- the goal that k_head leaves (case hc), from the law's promise. F gives the function object fd (K's own) once, then the promise over every base -/
theorem walk_of {l : PySem.W.OpenLaw} {n k : Nat} {q : Program} {loose : List Str} {XP : (Str → Option Value) → Heap → Prop} {YP : World → Heap → Prop} {d : DefRec} {K : Params → PySem.W.Frag} {CX : World → CXT} {sp : World → Sp} {x : Str}
    (hn : l.most = some n) (hn2 : n ≤ sizeLine) (hdf : d.params.defaults = []) (hr : Room k callerA)
    (hY : ∀ (w : World) (h : Heap), YP w h → (K w.params).In h)
    (F : ∀ (w : World) (mg : Str → Option Value) (fa : Addr) (h : Heap), (K w.params).In h → h.Ns mainGlobals mg → mg d.name = some (.ref fa) →
      ∃ fd : FuncData, (∀ (s : Shared) (u : Value), BindsTo s fd ⟨[u], []⟩ [(x, u)]) ∧
        ∀ base : Heap, (K w.params).In base → base.Ns mainGlobals mg → FnOk l.prog w (K w.params) mg base (CX w) k fa fd [x] (sp w))
    (hsp : ∀ (w : World) (H : Hp) (a : Addr) (ns : List Int), ns.length ≤ n → Only H → SqL (K w.params) H a (ns.map V.int) → sp w [.ref a] H (fun v _ => v = .bl true) fun _ _ _ => False)
    (hCX : ∀ (w : World) (H : Hp) (s : Shared) (e : Value) (s' : Shared), CX w [] H s (fun _ _ _ => False) e s' → False) :
    PySem.W.WalkO q loose XP YP l.row.toRowW d [] (fun f vs => PySem.call f vs) := by
  refine Att.attach_call hn hdf fun w s₀ s₁ mg mb fa o pm cd doc a vs ns G Y ho hd hcd hmg hobj hints hlen hg => ?_
  have KX := hY w _ Y
  obtain ⟨fd, hb, hF⟩ := F w mg fa _ KX G.T.g hmg
  exact law_call KX G.T.g G.T.b G.T.builtins G.T.nolimit hg hobj hints (Nat.le_trans hlen hn2) hr hF hb (fun H hO hS => hsp w H a ns hlen hO hS) fun H e s' => hCX w H s₁ e s'
end L2


namespace L2
open PySem PySem.Spec PyProof.Rows

/-- the j-th statement of a class's body -/
def inClass (s : Stmt) (j : Nat) : Stmt := match s with
  | .ClassDef _ _ _ body _ _ _ _ _ _ _ => body.getD j (.Pass ⟨0, 0, 0, 0⟩)
  | _ => .Pass ⟨0, 0, 0, 0⟩
def defArgs (s : Stmt) : Arguments := match s with
  | .FunctionDef _ a _ _ _ _ _ _ _ _ => a
  | _ => { posonlyargs := [], args := [], vararg := none, kwonlyargs := [], kw_defaults := [], kwarg := none, defaults := [] }
def defBody (s : Stmt) : List Stmt := match s with
  | .FunctionDef _ _ b _ _ _ _ _ _ _ => b
  | _ => []
def defScope (s : Stmt) : Scope := match s with
  | .FunctionDef _ _ _ _ _ _ sc _ _ _ => sc
  | _ => { kind := .function, names := [], isGenerator := false, isCoroutine := false }

abbrev CX0 : CXT := fun _ _ _ _ _ _ => False
abbrev E0 : XK := fun _ _ _ => False
theorem pass0 {X : Cx} : Passes CX0 X E0 := fun _ _ _ _ _ _ _ h => h.elim

structure Fun (K : PySem.W.Frag) (x qual : Str) (st : Stmt) (f : Addr) (fd : FuncData) : Prop where
  ex : ∃ (oc : Value) (od : Option Addr) (kV doc pm : Value) (an : Option Addr) (cdv ct : Value) (osl : Array (Option Value)),
    fd = PySem.W.fnOf x qual (defArgs st) (defBody st) (defScope st) .none kV doc pm an cdv ct ∧ K.lookup f = some ⟨oc, od, .func fd, osl⟩ ∧ PySem.W.codeIn K cdv qual = true
  kp : PySem.W.keepIn K (.ref f) = true
section
variable {P : Program} {w : World} {K : PySem.W.Frag} {mg : Str → Option Value} {base : Heap}
/-- THE RULE for a def: its body as a term of rules, and the reading of that term -/
theorem Fun.ok {x qual : Str} {st : Stmt} {f : Addr} {fd : FuncData} {N ps : List Str} {k : Nat} {sp : Sp} (F : Fun K x qual st f fd) (S : FnScope N ps (defScope st)) (len : ∀ vs H Q E, sp vs H Q E → vs.length = ps.length)
    (hbody : ∀ (cdv : Value) (A : Around) (outer : List Env) (s : Shared) (H : Hp) (vs : List V) (Q : VK) (E : XK), Room k (A.deeper (envOfC qual (defScope st) s.heap.objs.size f cdv)) → sp vs H Q E →
      ∃ t, PSs (cxOf CX0 P w K mg base N qual (defScope st) f cdv A outer s H E).nox (defBody st) t ∧ t { nx := fun _ H' => Q .non H', rt := Q } (start N vs) H) : FnOk P w K mg base CX0 (k + 1) f fd ps sp := by
  obtain ⟨oc, od, kV, doc, pm, an, cdv, ct, osl, rfl, lk, hcd⟩ := F.ex
  refine fn_of lk hcd S len fun A outer s H vs Q E hr hsp => ?_
  obtain ⟨t, h, q⟩ := hbody cdv A outer s H vs Q E hr hsp
  exact ⟨t, h.nox, q⟩
/-- how its arguments bind (no defaults): h is «fun _ _ _ _ _ _ us hl => match us, hl with | [_, _], _ => rfl», one _ a parameter -/
theorem Fun.binds {x qual : Str} {st : Stmt} {f : Addr} {fd : FuncData} {ps : List Str} (F : Fun K x qual st f fd)
    (h : ∀ (kV doc pm : Value) (an : Option Addr) (cdv ct : Value) (us : List Value), us.length = ps.length → bindArgs (PySem.W.fnOf x qual (defArgs st) (defBody st) (defScope st) .none kV doc pm an cdv ct) ⟨us, []⟩ = pure (ps.zip us)) : Binds K fd ps [] := by
  obtain ⟨oc, od, kV, doc, pm, an, cdv, ct, osl, rfl, lk, hcd⟩ := F.ex
  exact .all (h kV doc pm an cdv ct)
theorem fun_mk {x qual : Str} {st : Stmt} {f : Addr} {oc : Value} {od an : Option Addr} {osl : Array (Option Value)} {kV doc pm cdv ct : Value} (l : K.lookup f = some ⟨oc, od, .func (PySem.W.fnOf x qual (defArgs st) (defBody st) (defScope st) .none kV doc pm an cdv ct), osl⟩)
    (c : PySem.W.codeIn K cdv qual = true) (k : PySem.W.keepIn K (.ref f) = true) : Fun K x qual st f (PySem.W.fnOf x qual (defArgs st) (defBody st) (defScope st) .none kV doc pm an cdv ct) := ⟨⟨oc, od, kV, doc, pm, an, cdv, ct, osl, rfl, l, c⟩, k⟩
end
theorem hu_of {A : Around} {k : Nat} (hr : Room k A) : A.units + 1 < cLine := Nat.lt_of_le_of_lt (Nat.add_le_add_left (by decide : 1 ≤ 64) _) hr.units
section
variable {X : Cx}
theorem pv (i : Nat) {x : Str} {pos : Pos} (hN : X.N[i]? = some x := by rfl) (hv : Vis X.env.scope x := by first | exact Or.inl rfl | exact Or.inr (Or.inl rfl) | exact Or.inr (Or.inr rfl)) (hd : (x == ("__debug__" : Str)) = false := by decide)
    (hcd : (x == ("__classdict__" : Str)) = false := by decide) : PE X (.Name x pos) (tVar i) := pe_var hN hv hd hcd
end

theorem iteF {A B : Prop} (h : B) : if false = true then A else B := by
  rw [if_neg Bool.false_ne_true]
  exact h
theorem iteT {A B : Prop} (h : A) : if true = true then A else B := by
  rw [if_pos rfl]
  exact h
/-- all that was tracked is as it was -/
def Same (H H' : Hp) : Prop := ∀ b o, H b = some o → H' b = some o
theorem Same.refl (H : Hp) : Same H H := fun _ _ h => h
theorem Same.trans {H H1 H2 : Hp} (a : Same H H1) (b : Same H1 H2) : Same H H2 := fun c o h => b c o (a c o h)
theorem Same.free {H H' : Hp} (e : Same H H') {l : Addr} (h : H' l = Option.none) : H l = Option.none := by
  cases q : H l with
  | none => rfl
  | some o =>
    rw [e l o q] at h
    cases h
theorem Same.seq {K : PySem.W.Frag} {H H' : Hp} {a : Addr} {xs : List V} (e : Same H H') (h : SqL K H a xs) : SqL K H' a xs := by
  rcases h with (h | ⟨o, h⟩) | h
  · exact .inl (.inl (e _ _ h))
  · exact .inl (.inr ⟨o, e _ _ h⟩)
  · exact .inr h

end L2

set_option Elab.async false
set_option linter.all false
set_option maxRecDepth 100000
namespace L2
open PySem PySem.Spec PyProof.Rows

mutual
inductive At (H : Hp) : V → PyData → Prop
  | non : At H .non .none
  | bl (b : Bool) : At H (.bl b) (.bool b)
  | int (i : Int) : At H (.int i) (.int i)
  | str (x : Str) : At H (.str x) (.str x)
  | lst {a : Addr} {vs : List V} {ds : List PyData} : H a = some (.lst vs) → AtAll H vs ds → At H (.ref a) (.list ds)
  | tup {a : Addr} {vs : List V} {ds : List PyData} : H a = some (.tup vs) → AtAll H vs ds → At H (.ref a) (.tuple ds)
inductive AtAll (H : Hp) : List V → List PyData → Prop
  | nil : AtAll H [] []
  | cons {v : V} {d : PyData} {vs : List V} {ds : List PyData} : At H v d → AtAll H vs ds → AtAll H (v :: vs) (d :: ds)
end
mutual
theorem At.same {H H' : Hp} (s : Same H H') : ∀ {v : V} {d : PyData}, At H v d → At H' v d
  | _, _, .non => .non
  | _, _, .bl b => .bl b
  | _, _, .int i => .int i
  | _, _, .str x => .str x
  | _, _, .lst e t => .lst (s _ _ e) (AtAll.same s t)
  | _, _, .tup e t => .tup (s _ _ e) (AtAll.same s t)
theorem AtAll.same {H H' : Hp} (s : Same H H') : ∀ {vs : List V} {ds : List PyData}, AtAll H vs ds → AtAll H' vs ds
  | _, _, .nil => .nil
  | _, _, .cons a b => .cons (At.same s a) (AtAll.same s b)
end
theorem AtAll.length {H : Hp} : ∀ {vs : List V} {ds : List PyData}, AtAll H vs ds → vs.length = ds.length
  | _, _, .nil => rfl
  | _, _, .cons _ b => congrArg (· + 1) b.length
theorem AtAll.get {H : Hp} : ∀ {vs : List V} {ds : List PyData} {i : Nat} {v : V}, AtAll H vs ds → vs[i]? = some v → ∃ d, ds[i]? = some d ∧ At H v d
  | _, _, i, _, .nil, h => by simp at h
  | _, _, 0, _, .cons a _, h => by simp at h; subst h; exact ⟨_, rfl, a⟩
  | _, _, i + 1, v, .cons _ b, h => by
    obtain ⟨d, h1, h2⟩ := AtAll.get (i := i) (v := v) b (by simpa using h)
    exact ⟨d, by simpa using h1, h2⟩
theorem AtAll.getD {H : Hp} : ∀ {vs : List V} {ds : List PyData} {i : Nat} {d : PyData}, AtAll H vs ds → ds[i]? = some d → ∃ v, vs[i]? = some v ∧ At H v d
  | _, _, i, _, .nil, h => by simp at h
  | _, _, 0, _, .cons a _, h => by simp at h; subst h; exact ⟨_, rfl, a⟩
  | _, _, i + 1, v, .cons _ b, h => by
    obtain ⟨d, h1, h2⟩ := AtAll.getD (i := i) (d := v) b (by simpa using h)
    exact ⟨d, by simpa using h1, h2⟩
theorem AtAll.append {H : Hp} : ∀ {vs ws : List V} {ds es : List PyData}, AtAll H vs ds → AtAll H ws es → AtAll H (vs ++ ws) (ds ++ es)
  | _, _, _, _, .nil, h => h
  | _, _, _, _, .cons a b, h => .cons a (b.append h)
theorem AtAll.take {H : Hp} : ∀ {vs : List V} {ds : List PyData} (n : Nat), AtAll H vs ds → AtAll H (vs.take n) (ds.take n)
  | _, _, 0, _ => .nil
  | _, _, _ + 1, .nil => .nil
  | _, _, n + 1, .cons a b => .cons a (b.take n)
theorem AtAll.drop {H : Hp} : ∀ {vs : List V} {ds : List PyData} (n : Nat), AtAll H vs ds → AtAll H (vs.drop n) (ds.drop n)
  | _, _, 0, h => h
  | _, _, _ + 1, .nil => .nil
  | _, _, n + 1, .cons _ b => b.drop n
theorem AtAll.snoc {H : Hp} {vs : List V} {ds : List PyData} {v : V} {d : PyData} (h : AtAll H vs ds) (a : At H v d) : AtAll H (vs ++ [v]) (ds ++ [d]) := h.append (.cons a .nil)
mutual
theorem At.reads {P : Program} {w : World} {H : Hp} {h : Heap} (ok : HOk P w H h) : ∀ {v : V} {d : PyData} {u : Value}, At H v d → RelV v u → ∃ as, Reads h u d as
  | _, _, _, .non, r => by cases r; exact ⟨_, .none⟩
  | _, _, _, .bl b, r => by cases r; exact ⟨_, .bool b⟩
  | _, _, _, .int i, r => by obtain ⟨t, rfl⟩ := r; exact ⟨_, .int i t⟩
  | _, _, _, .str x, r => by obtain ⟨t, rfl⟩ := r; exact ⟨_, .str x t⟩
  | _, _, _, .lst e t, r => by
    cases r
    obtain ⟨z, its, n, rv, ho⟩ := ok _ _ e
    obtain ⟨as, q⟩ := AtAll.reads ok t rv
    exact ⟨_, .list ho rfl rfl (by simpa using q)⟩
  | _, _, _, .tup e t, r => by
    cases r
    obtain ⟨z, its, rv, o, ho, hc, n, hd⟩ := ok _ _ e
    obtain ⟨as, q⟩ := AtAll.reads ok t rv
    exact ⟨_, .tuple ho hc hd (by simpa using q)⟩
theorem AtAll.reads {P : Program} {w : World} {H : Hp} {h : Heap} (ok : HOk P w H h) : ∀ {vs : List V} {ds : List PyData} {us : List Value}, AtAll H vs ds → Vals vs us → ∃ as, ReadsAll h us ds as
  | _, _, _, .nil, .nil => ⟨_, .nil⟩
  | _, _, _, .cons a b, .cons r s => by
    obtain ⟨as, q⟩ := At.reads ok a r
    obtain ⟨bs, q2⟩ := AtAll.reads ok b s
    exact ⟨_, .cons q q2⟩
end
mutual
theorem At.noDict {H : Hp} : ∀ {v : V} {d : PyData}, At H v d → d.hasDict = false
  | _, _, .non => by simp [PyData.hasDict]
  | _, _, .bl b => by simp [PyData.hasDict]
  | _, _, .int i => by simp [PyData.hasDict]
  | _, _, .str x => by simp [PyData.hasDict]
  | _, _, .lst e t => by simp only [PyData.hasDict]; exact AtAll.noDict t
  | _, _, .tup e t => by simp only [PyData.hasDict]; exact AtAll.noDict t
theorem AtAll.noDict {H : Hp} : ∀ {vs : List V} {ds : List PyData}, AtAll H vs ds → PyData.hasDictAll ds = false
  | _, _, .nil => by simp [PyData.hasDictAll]
  | _, _, .cons a b => by simp only [PyData.hasDictAll, At.noDict a, AtAll.noDict b, Bool.or_self]
end
section
variable {X : Cx}
/-- repr(x) of data -/
def rRepr : List V → Hp → VK → Prop := fun xs H Q => ∃ x d, xs = [x] ∧ At H x d ∧ d.showable = true ∧ d.depth ≤ 60 ∧ d.shown.length ≤ sizeLine ∧ Q (.str d.shown) H
theorem call_repr {k : Nat} (hr : Room k X.A) : CallR X (.builtin "repr") rRepr := by
  intro pins s σ H xs us Q I r h
  obtain ⟨x, d, rfl, ha, hs, hd, hz, q⟩ := h
  cases r with
  | cons r rr =>
    cases rr
    cases ha with
    | non => cases r; rw [PyData.shown_none] at q; exact PySem.P.repr_of_none ⟨.str _, H, I.tok _, ⟨_, rfl⟩, q⟩
    | bl b => cases r; rw [PyData.shown_bool] at q; exact PySem.P.repr_of_bool ⟨.str _, H, I.tok _, ⟨_, rfl⟩, q⟩
    | int i =>
      obtain ⟨t, rfl⟩ := r
      rw [PyData.shown_int] at q
      simp only [PyData.showable, decide_eq_true_eq] at hs
      exact PySem.P.repr_of_int hs ⟨.str _, H, I.tok _, ⟨_, rfl⟩, q⟩
    | str x =>
      obtain ⟨t, rfl⟩ := r
      rw [PyData.shown_str] at q hz
      exact PySem.P.repr_of_str ⟨.str _, H, I.tok _, ⟨_, rfl⟩, q⟩ hz
    | lst e t =>
      cases r
      have hA := At.lst e t
      obtain ⟨as, rd⟩ := hA.reads I.hok (u := .ref _) rfl
      have hu := hr.units
      refine repr_of_reads' rd hs (PyData.noDict_hsm hA.noDict) hr.gd (by omega) (fun _ _ z => z) (fun h' u tk hk => ?_) hz
      exact ⟨.str _, H, I.kept hk, ⟨_, rfl⟩, q⟩
    | tup e t =>
      cases r
      have hA := At.tup e t
      obtain ⟨as, rd⟩ := hA.reads I.hok (u := .ref _) rfl
      have hu := hr.units
      refine repr_of_reads' rd hs (PyData.noDict_hsm hA.noDict) hr.gd (by omega) (fun _ _ z => z) (fun h' u tk hk => ?_) hz
      exact ⟨.str _, H, I.kept hk, ⟨_, rfl⟩, q⟩
end

section
variable {X : Cx} {pins : List (Addr × Obj)} {σ : St} {H : Hp} {s : Shared} {h' : Heap}
theorem Inv.turnedL {ch : List Addr} {a : Addr} {o : HO} {t' : Nat} (I : Inv X pins σ H s) (k : ∀ b u, b ∉ ch → s.heap.get? b = some u → h'.get? b = some u) (hf : ∀ b ∈ ch, FpOk X pins H b)
    (hp : s.heap.objs.size ≤ a) (new : ObjOk X.prog X.w (upd H a o) h' a o) : Inv X pins σ (upd H a o) { s with heap := h', toks := t' } := by
  have hn : H a = none := I.hok.fresh hp
  have nit : ∀ b u, H b = some u → b ∉ ch := fun b u e z => by rw [(hf b z).1] at e; cases e
  refine I.step (g' := s.gens) (d' := s.drawn) (ch := ch) (fun b hb => ?_) (fun b u _ _ hc e _ => k b u hc e) (fun b u _ _ hc e _ => ⟨u.slots, k b u hc e⟩) (fun b u _ e n => ?_)
    (fun b u hc e => ⟨u, k b u hc e⟩) (fun b xs e => ?_) (fun b u xs e => ?_) (fun b ps e => ⟨#[], ?_⟩) (fun m hm => ?_) (fun b u e => ?_) I.bare
  · obtain ⟨_, f1, _, f3, f4, f5⟩ := hf b hb
    exact ⟨f3, f1, f4, f5⟩
  · rw [upd_ne (Nat.ne_of_lt (Nat.lt_of_lt_of_le (Heap.lt_size e) hp))]; exact n
  · rw [upd_ne (ne_of_none e hn)]; exact e
  · rw [upd_ne (ne_of_none e hn)]; exact e
  · rw [upd_ne (ne_of_none e hn), e]; simp
  · obtain ⟨ob, es, ep, ho, r⟩ := hm
    exact ⟨ob, es, ep, k _ ob (fun z => (hf _ z).2.1 rfl) ho, r⟩
  · by_cases hb : b = a
    · subst hb; rw [upd_same] at e; cases e; exact new
    · rw [upd_ne hb] at e
      refine (I.hok b u e).stay (fun c v hc q => k c v ?_ q) (fun c q => by rw [upd_ne (ne_of_none q hn)]; exact q) fun c xs q => by rw [upd_ne (ne_of_none q hn)]; exact q
      rcases hc with rfl | hc
      · exact nit _ u e
      · exact nit c _ hc
end

def Ite (K : PySem.W.Frag) (a : Addr) : It :=
  ⟨fun i H => ∃ xs x, SqL K H a xs ∧ xs[i]? = some x, fun i H x H' => ∃ p y, H p = none ∧ x = .ref p ∧ H' = upd H p (.tup [.int i, y]) ∧ ∀ xs, SqL K H a xs → xs[i]? = some y, fun i H => ∃ xs, SqL K H a xs ∧ xs.length ≤ i⟩
theorem turn_enum {P : Program} {w : World} {K : PySem.W.Frag} {es : List Expr} {k : Nat} {tp : Pos} (a e it : Addr) (hne : e ≠ it) :
    Turn P w K (.Tuple es k tp) (Ite K a) [e, it] e (fun i h => (∃ old, IsEnum h e it i old) ∧ h.IsListIter it a i) where
  mem := by simp
  obj := fun i h st b hb => by
    obtain ⟨⟨old, he⟩, o, ho, hc, hd⟩ := st
    have hb' : b = e ∨ b = it := by simpa using hb
    rcases hb' with rfl | rfl
    · exact ⟨_, he, fun v z => by
        have z' : Data.fields _ = Data.cell v := z
        cases z'⟩
    · exact ⟨o, ho, fun v z => by rw [hd] at z; cases z⟩
  keep := fun i h h' st kk => ⟨st.1.imp fun _ z => kk e (by simp) _ z, st.2.at fun o z => kk it (by simp) o z⟩
  item := by
    intro X hP hw hK hc i pins s σ H E I hf st hg
    subst hP hw hK
    obtain ⟨xs, x, hq, hx⟩ := hg
    obtain ⟨its, rv, p, hz⟩ := I.list hq
    obtain ⟨u, hu, ru⟩ := rv.get hx
    obtain ⟨⟨old, he⟩, hit⟩ := st
    refine wpAny_pyNext_enum_item he hit p.isList (x := u) (by simpa using hu) hne fun h' ho hit' hT hsz hk => ?_
    have hel : e < s.heap.objs.size := Heap.lt_size he
    have hil : it < s.heap.objs.size := by obtain ⟨_, z, _⟩ := hit; exact Heap.lt_size z
    refine ⟨_, rfl, wpAny_letOwnedTupleGo_enum ho fun h2 he2 hs2 => ?_⟩
    have keep2 : ∀ b ob, b ∉ [e, it] → s.heap.get? b = some ob → h2.get? b = some ob := fun b ob hb z => by
      have h1 : b ≠ e := fun q => hb (by simp [q])
      have h3 : b ≠ it := fun q => hb (by simp [q])
      exact (hs2.2 b h1).trans (hk b ob h1 h3 z)
    have hT2 : h2.get? s.heap.objs.size = some { cls := .type "tuple", data := .seq #[.int i s.toks, u] } := (hs2.2 _ (Nat.ne_of_gt hel)).trans hT
    have fresh : H s.heap.objs.size = none := I.hok.fresh (Nat.le_refl _)
    have new : ObjOk X.prog X.w (upd H s.heap.objs.size (.tup [.int i, x])) h2 s.heap.objs.size (.tup [.int i, x]) :=
      ⟨by show 2 ≤ sizeLine; decide, [.int i s.toks, u], .cons ⟨_, rfl⟩ (.cons ru .nil), ⟨_, hT2, rfl, _, rfl⟩⟩
    refine ⟨.ref s.heap.objs.size, upd H s.heap.objs.size (.tup [.int i, x]), I.turnedL keep2 hf (Nat.le_refl _) new, rfl, ⟨_, x, fresh, rfl, rfl, fun ys hy => by rw [I.list_inj hy hq]; exact hx⟩, ⟨⟨_, by simpa using he2⟩, hit'.at fun o z => (hs2.2 it hne.symm).trans z⟩, fun b hb => ?_⟩
    rw [upd_ne]
    · exact (hf b hb).1
    · have hb' : b = e ∨ b = it := by simpa using hb
      rcases hb' with rfl | rfl
      · exact Nat.ne_of_lt hel
      · exact Nat.ne_of_lt hil
  done := by
    intro X hP hw hK hc i pins s σ H E I hf st hg
    subst hP hw hK
    obtain ⟨xs, hq, hx⟩ := hg
    obtain ⟨its, rv, p, hz⟩ := I.list hq
    obtain ⟨⟨old, he⟩, hit⟩ := st
    have hl := rv.length
    obtain ⟨f0, f1, f2, f3, f4, f5⟩ := hf it (by simp)
    exact wpAny_pyNext_enum_end (I.ok.hd hc) he hit p.isList (by simp; omega) fun h' eb => ⟨rfl, I.turned (t' := s.toks) (fun b o hb z => eb b o hb z) f0 f1 f3 f4 f5⟩
  self := fun _ _ _ _ _ st h => wpAny_pyIter_enum st.1.choose_spec h
def iEnum (K : PySem.W.Frag) (ta : TA) : TI := fun σ H R => ta σ H fun vs H1 => ∃ a xs, vs = [.ref a] ∧ SqL K H1 a xs ∧ R (Ite K a) H1
section
variable {X : Cx}
theorem pi_enum {a : Expr} {ta : TA} {p pos tp : Pos} {es : List Expr} {k : Nat} (hg : Gl X "enumerate") (hm : X.mg "enumerate" = none) (ha : PA X [a] ta) (hs : starEach [a] X.env = [(false, eval a X.env)] := by rfl) :
    PI X (.Tuple es k tp) (.Call (.Name "enumerate" p) [a] [] pos) (iEnum X.K ta) := by
  intro pins s σ H R I h
  refine Call_ (ld_blt I hg hm boot_enumerate (PyProof.Rows.callWith_type1 (thn (ha pos pins s σ H _ I h) fun us s1 ⟨vs, H1, I1, r1, q1⟩ => ?_) hs rfl))
  obtain ⟨l, xs, e, hq, q⟩ := q1
  subst e
  cases r1 with
  | cons r rr =>
    cases rr
    cases r
    obtain ⟨its, rv, pl, hz⟩ := I1.list hq
    refine call_enumerate_list pl.isList fun h' he hit hsz hk => ?_
    refine wpAny_pyIter_enum he ⟨_, [s1.heap.objs.size + 1, s1.heap.objs.size], _, Ite X.K l, H1, rfl, I1.kept (t' := s1.toks) hk, turn_enum l (s1.heap.objs.size + 1) s1.heap.objs.size (Nat.succ_ne_self _), ⟨⟨_, he⟩, hit⟩, fun b hb => ?_, q⟩
    have hb' : b = s1.heap.objs.size + 1 ∨ b = s1.heap.objs.size := by simpa using hb
    rcases hb' with rfl | rfl
    · exact I1.fpOk (Nat.le_succ _) (I1.hok.fresh (Nat.le_succ _))
    · exact I1.fpOk (Nat.le_refl _) (I1.hok.fresh (Nat.le_refl _))
end
theorem for_enum {K : PySem.W.Frag} {a : Addr} {xs : List V} {g : TG} {tb : TS} {D : Ends} {σ : St} {H : Hp} (Pv : Nat → St → Hp → Prop) (h0 : Pv 0 σ H) (hl : ∀ i σ H, i ≤ xs.length → Pv i σ H → SqL K H a xs)
    (hs : ∀ i x p σ H, xs[i]? = some x → Pv i σ H → H p = none → g (.ref p) σ (upd H p (.tup [.int i, x])) fun σ2 H2 => tb { D with nx := Pv (i + 1), ct := Pv (i + 1), bk := D.nx } σ2 H2) (hd : ∀ σ H, Pv xs.length σ H → D.nx σ H) :
    ∃ W : Nat → Nat → St → Hp → Prop, (∃ m, W 0 m σ H) ∧ ∀ i m σ H, W i m σ H →
      ((Ite K a).stop i H ∧ D.nx σ H) ∨ ((Ite K a).go i H ∧ ∃ N : St → Hp → Prop, (∀ σ' H', N σ' H' → ∃ m', m' < m ∧ W (i + 1) m' σ' H') ∧ ∀ x H', (Ite K a).yld i H x H' → g x σ H' fun σ2 H2 => tb { D with nx := N, ct := N, bk := D.nx } σ2 H2) := by
  refine ⟨fun i m σ H => m = xs.length - i ∧ i ≤ xs.length ∧ Pv i σ H, ⟨xs.length, by simp, Nat.zero_le _, h0⟩, ?_⟩
  rintro i m σ H ⟨rfl, hi, p⟩
  have q := hl i σ H hi p
  by_cases hlt : i < xs.length
  · refine .inr ⟨⟨xs, xs[i], q, by simp [hlt]⟩, Pv (i + 1), fun σ' H' p' => ⟨xs.length - (i + 1), by omega, rfl, hlt, p'⟩, fun x H' y => ?_⟩
    obtain ⟨pp, z, hn, e1, e2, y⟩ := y
    subst e1 e2
    exact hs i z pp σ _ (y xs q) p hn
  · have e : i = xs.length := by omega
    subst e
    exact .inl ⟨⟨xs, q, Nat.le_refl _⟩, hd σ H p⟩

section
variable {X : Cx} {tg : Expr}
end
end L2
set_option Elab.async false
set_option linter.all false
set_option maxRecDepth 100000
namespace L2
open PySem PySem.Spec PyProof.Rows

def clOf (cells : List (Str × Addr)) : List (Str × NameKind) → List (Str × Addr) → List (Str × Addr)
  | [], cs => cs
  | (n, k) :: r, cs => if k = .free then clOf cells r ((n, (cells.lookup n).getD 0) :: cs) else clOf cells r cs
theorem closureFor_clOf {scope : Scope} {env : Env} (h : ∀ x ∈ scope.names, x.2 = .free → ∃ c, env.cells.lookup x.1 = some c) : closureFor scope env = pure (clOf env.cells scope.names []) := by
  unfold closureFor
  generalize hn : scope.names = names at h
  suffices hh : ∀ (l : List (Str × NameKind)) (cs : List (Str × Addr)), (∀ x ∈ l, x.2 = .free → ∃ c, env.cells.lookup x.1 = some c) →
      (forIn l cs (fun (x : Str × NameKind) r => if (x.2 == NameKind.free) = true then (do let a ← cellOf env x.1; pure (ForInStep.yield ((x.1, a) :: r))) else pure (ForInStep.yield r)) : Sem (List (Str × Addr))) = pure (clOf env.cells l cs) by
    have := hh names [] h
    simp only [bind_pure]
    exact this
  intro l
  induction l with
  | nil => intro cs _; rfl
  | cons x l ih =>
    intro cs hl
    obtain ⟨n, k⟩ := x
    rw [List.forIn_cons]
    by_cases hk : k = .free
    · subst hk
      obtain ⟨c, hc⟩ := hl (n, .free) List.mem_cons_self rfl
      have e1 : cellOf env n = pure c := by unfold cellOf; rw [hc]
      have ec : clOf env.cells ((n, NameKind.free) :: l) cs = clOf env.cells l ((n, c) :: cs) := by
        show (if NameKind.free = NameKind.free then _ else _) = _
        rw [if_pos rfl, hc]; rfl
      rw [ec]
      simp only [e1, pure_bind, beq_self_eq_true, if_true]
      exact ih _ fun y hy => hl y (List.mem_cons_of_mem _ hy)
    · have hb : (k == NameKind.free) = false := by cases k <;> first | rfl | exact absurd rfl hk
      have ec : clOf env.cells ((n, k) :: l) cs = clOf env.cells l cs := by
        show (if k = NameKind.free then _ else _) = _
        rw [if_neg hk]
      rw [ec]
      simp only [hb, pure_bind, Bool.false_eq_true, if_false]
      exact ih _ fun y hy => hl y (List.mem_cons_of_mem _ hy)
theorem clOf_sound {cells : List (Str × Addr)} : ∀ {l : List (Str × NameKind)} {cs : List (Str × Addr)}, (∀ x ∈ l, x.2 = .free → ∃ c, cells.lookup x.1 = some c) → (∀ p ∈ cs, cells.lookup p.1 = some p.2) → ∀ p ∈ clOf cells l cs, cells.lookup p.1 = some p.2
  | [], _, _, h => h
  | (n, k) :: r, cs, hl, h => by
    unfold clOf
    split
    · rename_i hk
      refine clOf_sound (fun x hx => hl x (List.mem_cons_of_mem _ hx)) fun p hp => ?_
      rcases List.mem_cons.mp hp with rfl | hp
      · obtain ⟨c, hc⟩ := hl (n, k) List.mem_cons_self hk
        show cells.lookup n = some ((cells.lookup n).getD 0)
        have hc' : cells.lookup n = some c := hc
        rw [hc']; rfl
      · exact h p hp
    · exact clOf_sound (fun x hx => hl x (List.mem_cons_of_mem _ hx)) h
theorem lookup_of_mem {l : List (Str × Addr)} {x : Str} (h : ∃ c, (x, c) ∈ l) : ∃ c, l.lookup x = some c := by
  obtain ⟨c, h⟩ := h
  induction l with
  | nil => cases h
  | cons p r ih =>
    obtain ⟨y, d⟩ := p
    by_cases e : (x == y) = true
    · exact ⟨d, by rw [List.lookup_cons, e]⟩
    · have e' : (x == y) = false := by simpa using e
      rcases List.mem_cons.mp h with q | q
      · cases q; exact absurd (beq_self_eq_true _) e
      · obtain ⟨c', z⟩ := ih q
        exact ⟨c', by rw [List.lookup_cons, e']; exact z⟩
theorem clOf_has {cells : List (Str × Addr)} {x : Str} : ∀ {l : List (Str × NameKind)} {cs : List (Str × Addr)}, ((x, NameKind.free) ∈ l ∨ ∃ c, (x, c) ∈ cs) → ∃ c, (x, c) ∈ clOf cells l cs
  | [], _, h => by
    rcases h with h | h
    · cases h
    · exact h
  | (n, k) :: r, cs, h => by
    unfold clOf
    split
    · rename_i hk
      refine clOf_has ?_
      rcases h with h | ⟨c, h⟩
      · rcases List.mem_cons.mp h with q | q
        · cases q; exact .inr ⟨_, List.mem_cons_self⟩
        · exact .inl q
      · exact .inr ⟨c, List.mem_cons_of_mem _ h⟩
    · rename_i hk
      refine clOf_has ?_
      rcases h with h | h
      · rcases List.mem_cons.mp h with q | q
        · cases q; exact absurd rfl hk
        · exact .inl q
      · exact .inr h
theorem relabel_free {env : Env} {x : Str} : ∀ {l : List (Str × NameKind)}, l.lookup x = some .free →
    (l.map fun (n, k) => if (k == NameKind.free && env.scope.kind == .function && env.kindOf n == some .cell) then (n, NameKind.cell) else (n, k)).lookup x = some .cell ∨
    (l.map fun (n, k) => if (k == NameKind.free && env.scope.kind == .function && env.kindOf n == some .cell) then (n, NameKind.cell) else (n, k)).lookup x = some .free
  | [], h => by simp at h
  | (n, k) :: r, h => by
    rw [List.map_cons]
    cases hx : x == n with
    | true =>
      rw [List.lookup_cons, hx] at h
      cases h
      by_cases hc : (NameKind.free == NameKind.free && env.scope.kind == .function && env.kindOf n == some .cell) = true
      · left; simp only [hc, if_true, List.lookup_cons, hx]
      · right; simp only [hc, Bool.false_eq_true, if_false, List.lookup_cons, hx]
    | false =>
      rw [List.lookup_cons, hx] at h
      have ih := relabel_free (env := env) (l := r) h
      by_cases hc : (k == NameKind.free && env.scope.kind == .function && env.kindOf n == some .cell) = true
      · simp only [hc, if_true, List.lookup_cons, hx]; exact ih
      · simp only [hc, Bool.false_eq_true, if_false, List.lookup_cons, hx]; exact ih
theorem relabel_inv {env : Env} {x : Str} : ∀ {l : List (Str × NameKind)}, (∀ y ∈ l, y.2 ≠ .cell) →
    ((l.map fun (n, k) => if (k == NameKind.free && env.scope.kind == .function && env.kindOf n == some .cell) then (n, NameKind.cell) else (n, k)).lookup x = some .cell ∨
    (l.map fun (n, k) => if (k == NameKind.free && env.scope.kind == .function && env.kindOf n == some .cell) then (n, NameKind.cell) else (n, k)).lookup x = some .free) → (x, NameKind.free) ∈ l
  | [], _, h => by simp at h
  | (n, k) :: r, hn, h => by
    rw [List.map_cons] at h
    cases hx : x == n with
    | true =>
      have e : x = n := by simpa using hx
      subst e
      by_cases hc : (k == NameKind.free && env.scope.kind == .function && env.kindOf x == some .cell) = true
      · have : k = .free := by
          simp only [Bool.and_eq_true, beq_iff_eq] at hc
          exact hc.1.1
        subst this
        exact List.mem_cons_self
      · simp only [hc, Bool.false_eq_true, if_false, List.lookup_cons, hx, Option.some.injEq] at h
        rcases h with h | h
        · exact absurd h (hn (x, k) List.mem_cons_self)
        · subst h; exact List.mem_cons_self
    | false =>
      have h' : (r.map fun (n, k) => if (k == NameKind.free && env.scope.kind == .function && env.kindOf n == some .cell) then (n, NameKind.cell) else (n, k)).lookup x = some .cell ∨
          (r.map fun (n, k) => if (k == NameKind.free && env.scope.kind == .function && env.kindOf n == some .cell) then (n, NameKind.cell) else (n, k)).lookup x = some .free := by
        by_cases hc : (k == NameKind.free && env.scope.kind == .function && env.kindOf n == some .cell) = true
        · simp only [hc, if_true, List.lookup_cons, hx] at h; exact h
        · simp only [hc, Bool.false_eq_true, if_false, List.lookup_cons, hx] at h; exact h
      exact List.mem_cons_of_mem _ (relabel_inv (fun y hy => hn y (List.mem_cons_of_mem _ hy)) h')

def cxComp (X : Cx) (M : List Str) (scope : Scope) (C : Addr) (fp : List Addr) (s2 : Shared) (H2 : Hp) : Cx :=
  { prog := X.prog, w := X.w, K := X.K, mg := X.mg, base := X.base, A := X.A, N := M, s₀ := s2, H₀ := H2, env := compEnvC scope (clOf X.env.cells scope.names []) C X.env,
    outer := X.stack, stack := X.stack, ex := fp, fn := fun _ => false, calm := X.calm, pn := [], xe := fun _ _ => False }
/-- the block's names at a turn's start: its own are not known, the others as in the def (slot j) -/
def capS (ix : List (Option Nat)) (σ : St) : St := ix.map fun o => match o with
  | none => none
  | some j => (σ[j]?).getD none
structure CompOk (N M : List Str) (ix : List (Option Nat)) (sc xs : Scope) : Prop where
  kind : sc.kind = .function
  len : M.length = ix.length
  nocell : ∀ y ∈ sc.names, y.2 ≠ .cell
  loc : ∀ y ∈ sc.names, y.2 = .local → sc.names.lookup y.1 = some .local
  fr : ∀ y ∈ sc.names, y.2 = .free → xs.names.lookup y.1 = some .cell ∨ xs.names.lookup y.1 = some .free
  cap : ∀ (i : Nat) (j : Nat), ix[i]? = some (some j) → ∃ x, M[i]? = some x ∧ N[j]? = some x ∧ sc.names.lookup x = some .free
def compOkB (N M : List Str) (ix : List (Option Nat)) (sc xs : Scope) : Bool :=
  decide (sc.kind = .function) && decide (M.length = ix.length) && sc.names.all (fun y => decide (y.2 ≠ .cell)) && sc.names.all (fun y => decide (y.2 ≠ .local) || decide (sc.names.lookup y.1 = some .local)) &&
  sc.names.all (fun y => decide (y.2 ≠ .free) || decide (xs.names.lookup y.1 = some .cell) || decide (xs.names.lookup y.1 = some .free)) &&
  (List.range ix.length).all (fun i => match ix[i]? with
    | some (some j) => match M[i]? with
      | some x => decide (N[j]? = some x) && decide (sc.names.lookup x = some .free)
      | none => false
    | _ => true)
theorem compOk_of {N M : List Str} {ix : List (Option Nat)} {sc xs : Scope} (h : compOkB N M ix sc xs = true) : CompOk N M ix sc xs := by
  unfold compOkB at h
  simp only [Bool.and_eq_true, List.all_eq_true, decide_eq_true_eq, Bool.or_eq_true] at h
  obtain ⟨⟨⟨⟨⟨h1, h2⟩, h3⟩, h4⟩, h5⟩, h6⟩ := h
  refine ⟨h1, h2, h3, fun y hy e => ?_, fun y hy e => ?_, fun i j e => ?_⟩
  · rcases h4 y hy with q | q
    · exact absurd e q
    · exact q
  · rcases h5 y hy with (q | q) | q
    · exact absurd e q
    · exact .inl q
    · exact .inr q
  · have hi : i < ix.length := (List.getElem?_eq_some_iff.mp e).1
    have q := h6 i (List.mem_range.mpr hi)
    rw [e] at q
    cases hm : M[i]? with
    | none => rw [hm] at q; cases q
    | some x =>
      rw [hm] at q
      simp only [Bool.and_eq_true, decide_eq_true_eq] at q
      exact ⟨x, rfl, q.1, q.2⟩

section
variable {X : Cx}
def PTs (X : Cx) (ifs : List Expr) (t : TT) : Prop :=
  ∀ (pins : List (Addr × Obj)) (s : Shared) (σ : St) (H : Hp) (Q : Bool → Hp → Prop), Inv X pins σ H s → t σ H Q →
    wpAny (model X.prog X.w) X.A (forIn ifs true fun c r => if r = true then do let ok ← isTrue c X.env (eval c X.env); pure (ForInStep.yield ok) else pure (ForInStep.yield r)) (TP X pins σ Q) X.xe s
def tYes : TT := fun _ H Q => Q true H
theorem pts_nil : PTs X [] tYes := fun _ _ _ H _ I h => wpAny_tests_nil ⟨H, I, h⟩
theorem pts_one {c : Expr} {t : TT} (h : PT X c t) : PTs X [c] t := fun pins s σ H Q I hq => wpAny_tests_one (h pins s σ H Q I hq)
end
theorem Un.butNew {fs ex : List Addr} {H H' : Hp} {h h1 h2 : Heap} {C : Addr} (u : Un fs ex H H' h h1) (hC : h.objs.size ≤ C) (sb : Heap.SameBut C h1 h2) : Un fs ex H H' h h2 := by
  have ne : ∀ b o, h.get? b = some o → b ≠ C := fun b o e => Nat.ne_of_lt (Nat.lt_of_lt_of_le (Heap.lt_size e) hC)
  refine ⟨fun b o e n h3 h4 => (sb.2 b (ne b o e)).trans (u.keep b o e n h3 h4), fun b o e n h3 h4 => ?_, u.free, fun b o e h4 => ?_, u.tups, u.frzs, u.tbls⟩
  · obtain ⟨sl, q⟩ := u.slot b o e n h3 h4
    exact ⟨sl, (sb.2 b (ne b o e)).trans q⟩
  · obtain ⟨o', q⟩ := u.there b o e h4
    exact ⟨o', (sb.2 b (ne b o e)).trans q⟩
section
variable {X : Cx} {pins : List (Addr × Obj)} {σ : St} {H2 : Hp} {s2 : Shared} {M : List Str} {ix : List (Option Nat)} {scope : Scope} {fp : List Addr}
theorem comp_ok {C : Addr} (I : Inv X pins σ H2 s2) (ck : CompOk X.N M ix scope X.env.scope) (hC : s2.heap.objs.size ≤ C) (f2 : ∀ b ∈ fp, FpOk X pins H2 b) (hfp : ∀ b ∈ fp, b < s2.heap.objs.size) : (cxComp X M scope C fp s2 H2).Ok := by
  have hfree : ∀ x ∈ scope.names, x.2 = .free → ∃ c, X.env.cells.lookup x.1 = some c := fun x hx e => I.ok.has x.1 (ck.fr x hx e)
  have snd : ∀ x c, (clOf X.env.cells scope.names []).lookup x = some c → X.env.cells.lookup x = some c := fun x c e => clOf_sound (cs := []) hfree (by intro p hp; cases hp) (x, c) (PySem.mem_of_lookup e)
  refine ⟨I.ok.mod, ck.kind, I.ok.glob, I.ok.blt, hC, fun x y c h1 h2 => I.ok.inj x y c (snd x c h1) (snd y c h2), fun x hx => ?_, (by intro x c h; cases h), I.ok.hd, I.ok.frames, .inl rfl, fun b hb => ⟨?_, fun x c e => ?_⟩, fun b o e => I.bs b o e,
    Nat.le_trans I.ok.bsz I.sz, fun b o e hb => ?_, fun b hb hb2 => ?_, I.stack, I.stkFree⟩
  · exact lookup_of_mem (clOf_has (.inl (relabel_inv ck.nocell hx)))
  · exact Nat.ne_of_lt (Nat.lt_of_lt_of_le (hfp b hb) hC)
  · exact (f2 b hb).2.2.2.2.1 x c (snd x c e)
  · rcases (f2 b hb).2.2.2.1 with z | z
    · exact I.ok.noex b o e z
    · exact absurd (Nat.lt_of_lt_of_le (Heap.lt_size e) (Nat.le_trans I.ok.bsz z)) (Nat.lt_irrefl _)
  · obtain ⟨_, n1, n2, _⟩ := f2 b hb
    rcases List.mem_cons.mp (I.stkSub b hb2) with z | z
    · exact n1 z
    · exact n2 z
theorem comp_inv {C D : Addr} {h1 : Heap} {tk : Nat} (I : Inv X pins σ H2 s2) (ck : CompOk X.N M ix scope X.env.scope) (hC : s2.heap.objs.size ≤ C) (hD : s2.heap.objs.size ≤ D) (hDC : C ≠ D) (f2 : ∀ b ∈ fp, FpOk X pins H2 b) (hfp : ∀ b ∈ fp, b < s2.heap.objs.size)
    (old : ∀ b o, s2.heap.get? b = some o → h1.get? b = some o) (hn : h1.Ns C fun _ => none) (hnew : h1.get? D = some { cls := .type "list", data := .seq #[] }) :
    Inv (cxComp X M scope C fp s2 H2) [] (capS ix σ) (upd H2 D (.lst [])) { s2 with heap := h1, toks := tk } := by
  have hfree : ∀ x ∈ scope.names, x.2 = .free → ∃ c, X.env.cells.lookup x.1 = some c := fun x hx e => I.ok.has x.1 (ck.fr x hx e)
  have snd : ∀ x c, (clOf X.env.cells scope.names []).lookup x = some c → X.env.cells.lookup x = some c := fun x c e => clOf_sound (cs := []) hfree (by intro p hp; cases hp) (x, c) (PySem.mem_of_lookup e)
  have fD : H2 D = none := I.hok.fresh hD
  refine ⟨comp_ok I ck hC f2 hfp, rfl, I.bare, Un.laid old hD fD, ⟨_, hn, fun i x v e1 e2 e3 => ?_⟩, fun x c e => ?_, ?_, fun x c e => ?_, (by intro p hp; cases hp), I.hok.laid (o := .lst []) old hD ⟨Nat.zero_le _, [], 0, .nil, hnew⟩, ?_⟩
  · obtain ⟨j, hj, hv⟩ : ∃ j, ix[i]? = some (some j) ∧ σ[j]? = some (some v) := by
      unfold capS at e2
      rw [List.getElem?_map] at e2
      cases q : ix[i]? with
      | none => rw [q] at e2; cases e2
      | some o =>
        rw [q] at e2
        cases o with
        | none => cases e2
        | some j =>
          refine ⟨j, rfl, ?_⟩
          have e2' : (σ[j]?).getD none = some v := Option.some.inj e2
          cases z : σ[j]? with
          | none => rw [z] at e2'; cases e2'
          | some y => rw [z] at e2'; rw [show y = some v from e2']
    obtain ⟨y, hm, hN, hf⟩ := ck.cap i j hj
    have e1' : M[i]? = some x := e1
    rw [hm] at e1'; cases e1'
    obtain ⟨m, hnl, hl⟩ := I.loc
    have hmem : (x, NameKind.free) ∈ scope.names := PySem.mem_of_lookup hf
    have hk := ck.fr _ hmem rfl
    obtain ⟨u, ru, lk⟩ := hl j x v hN hv (hk.elim (fun z => .inr (.inl z)) fun z => .inr (.inr z))
    refine ⟨u, ru, .inr ⟨relabel_free hf, ?_⟩⟩
    rcases lk with ⟨kl, _⟩ | ⟨_, c, hc, hcell⟩
    · have kl' : X.env.scope.names.lookup x = some .local := kl
      rcases hk with z | z
      · rw [z] at kl'; cases kl'
      · rw [z] at kl'; cases kl'
    · obtain ⟨c2, h2⟩ := lookup_of_mem (clOf_has (cells := X.env.cells) (cs := []) (.inl hmem))
      have h3 := snd x c2 h2
      rw [hc] at h3; cases h3
      obtain ⟨o, ho, hd⟩ := hcell
      exact ⟨c, h2, o, old c o ho, hd⟩
  · obtain ⟨v, o, ho, hd⟩ := I.cell x c (snd x c e)
    exact ⟨v, o, old c o ho, hd⟩
  · show upd H2 D (.lst []) C = none
    rw [upd_ne hDC]
    exact I.hok.fresh hC
  · show upd H2 D (.lst []) c = none
    obtain ⟨v, z⟩ := I.cell x c (snd x c e)
    rw [upd_ne (Nat.ne_of_lt (Nat.lt_of_lt_of_le z.lt hD))]
    exact I.freeC x c (snd x c e)
  · show (capS ix σ).length = M.length
    unfold capS
    rw [List.length_map, ck.len]
theorem comp_back {C : Addr} {σ' : St} {H' : Hp} {s' : Shared} {h2 : Heap} {pl : List (Addr × Obj)} (I : Inv X pins σ H2 s2) (J : Inv (cxComp X M scope C fp s2 H2) pl σ' H' s') (f2 : ∀ b ∈ fp, FpOk X pins H2 b) (sb : Heap.SameBut C s'.heap h2) : Inv X pins σ H' { s' with heap := h2 } := by
  have hC : s2.heap.objs.size ≤ C := J.ok.above
  refine I.call' (s' := { s' with heap := h2 }) (ch := fp) J.os (Un.butNew J.base hC sb) (fun a o e => ?_) J.bare fun b hb => ?_
  · have fr : H' C = none := J.free
    refine (J.hok a o e).stay (fun c v hc q => (sb.2 c ?_).trans q) (fun _ q => q) fun _ _ q => q
    rintro rfl
    rcases hc with z | z
    · rw [← z, fr] at e; cases e
    · rw [fr] at z; cases z
  · obtain ⟨_, n1, _, n3, n4, n5⟩ := f2 b hb
    exact ⟨n3, n1, n4, n5⟩
end
def KeepS (l l' : St) : Prop := l'.length = l.length ∧ ∀ (i : Nat) (v : V), l[i]? = some (some v) → l'[i]? = some (some v)
theorem KeepS.refl (l : St) : KeepS l l := ⟨rfl, fun _ _ h => h⟩
theorem KeepS.set {l l' : St} {i : Nat} {x : Option V} (h : KeepS l l') (hi : l[i]? = some none) : KeepS l (l'.set i x) := by
  refine ⟨by rw [List.length_set]; exact h.1, fun j v e => ?_⟩
  by_cases hj : j = i
  · subst hj; rw [hi] at e; cases e
  · rw [List.getElem?_set_ne (Ne.symm hj)]; exact h.2 j v e
/-- [e for target in iter if ..] -/
def tComp (wi : TI) (ix : List (Option Nat)) (g : TG) (tt : TT) (te : TE) : TE := fun σ H Q => wi σ H fun J H1 => ∀ D, H1 D = none → ∃ W : Nat → Nat → Hp → Prop, (∃ m, W 0 m (upd H1 D (.lst []))) ∧ ∀ i m H, W i m H →
  (J.stop i H ∧ Q (.ref D) H) ∨ (J.go i H ∧ ∃ N : Hp → Prop, (∀ H', N H' → ∃ m', m' < m ∧ W (i + 1) m' H') ∧ ∀ x H', J.yld i H x H' → g x (capS ix σ) H' fun σ2 H2 => KeepS (capS ix σ) σ2 ∧ tt σ2 H2 fun b H3 =>
    if b = true then te σ2 H3 fun v H4 => ∃ ys, H4 D = some (.lst ys) ∧ ys.length < sizeLine ∧ N (upd H4 D (.lst (ys ++ [v]))) else N H3)
section
variable {X : Cx} {elt tg iter : Expr} {ifs : List Expr} {scope : Scope} {pos : Pos} {wi : TI} {g : TG} {tt : TT} {te : TE} {M : List Str} {ix : List (Option Nat)}
theorem comp_loop {pins : List (Addr × Obj)} {σ : St} {H2 H4 : Hp} {s2 s4 : Shared} {fp : List Addr} {it C D : Addr} {tn : Nat → Heap → Prop} {J : It} {R : Result → Shared → Prop} {QD : Hp → Prop} (I2 : Inv X pins σ H2 s2) (hc : X.calm = true)
    (f2 : ∀ b ∈ fp, FpOk X pins H2 b) (T : Turn X.prog X.w X.K tg J fp it tn)
    (hg : PG (cxComp X M scope C fp s2 H2) tg g) (ht : PTs (cxComp X M scope C fp s2 H2) ifs tt) (he : PE (cxComp X M scope C fp s2 H2) elt te)
    (I4 : Inv (cxComp X M scope C fp s2 H2) [] (capS ix σ) H4 s4) (st4 : tn 0 s4.heap) (fr4 : ∀ b ∈ fp, H4 b = none) (W : Nat → Nat → Hp → Prop) (m0 : Nat) (w0 : W 0 m0 H4)
    (turn : ∀ i m H, W i m H → (J.stop i H ∧ QD H) ∨ (J.go i H ∧ ∃ N : Hp → Prop, (∀ H', N H' → ∃ m', m' < m ∧ W (i + 1) m' H') ∧ ∀ x H', J.yld i H x H' → g x (capS ix σ) H' fun σ2 H2 => KeepS (capS ix σ) σ2 ∧ tt σ2 H2 fun b H3 =>
      if b = true then te σ2 H3 fun v H4 => ∃ ys, H4 D = some (.lst ys) ∧ ys.length < sizeLine ∧ N (upd H4 D (.lst (ys ++ [v]))) else N H3))
    (fin : ∀ H' s', Inv (cxComp X M scope C fp s2 H2) [] (capS ix σ) H' s' → QD H' → R (.ok .next) s') :
    codeAny (model X.prog X.w) X.A (.compLoop (.ListComp elt [⟨tg, iter, ifs, 0⟩] scope pos) 0 (.ref it) (.ref D) (compEnvC scope (clOf X.env.cells scope.names []) C X.env)) R s4 := by
  have stat : ∀ {H' : Hp}, (∀ b ∈ fp, H' b = none) → ∀ b ∈ fp, FpOk (cxComp X M scope C fp s2 H2) [] H' b := fun {H'} hn b hb =>
    ⟨hn b hb, (I4.ok.exf b hb).1, I4.ok.exfs b hb, .inl hb, (I4.ok.exf b hb).2, by intro p hp; cases hp⟩
  refine codeAny_loop rfl (fun n s' => ∃ i H', Inv (cxComp X M scope C fp s2 H2) [] (capS ix σ) H' s' ∧ tn i s'.heap ∧ (∀ b ∈ fp, H' b = none) ∧ W i n H') ?_ m0 ⟨0, H4, I4, st4, fr4, w0⟩
  rintro n s5 ⟨i, H5, I5, st5, fr5, w5⟩
  show wpAny (model X.prog X.w) X.A ((compTurn (.ListComp elt [⟨tg, iter, ifs, 0⟩] scope pos) 0 (.ref it) (.ref D) (compEnvC scope (clOf X.env.cells scope.names []) C X.env)).onRaise (fun x => do noteFrame x (compEnvC scope (clOf X.env.cells scope.names []) C X.env); theTreesLotGoes x)) _ _ s5
  refine wpAny_noted ?_
  rw [compTurn_list]
  refine wpAny_bind (wpAny_standAt (wpAny_bind ?_))
  rcases turn i n H5 w5 with ⟨stop, qn⟩ | ⟨go, N, hN, step⟩
  · refine thn (T.done (cxComp X M scope C fp s2 H2) rfl rfl rfl hc i [] s5 (capS ix σ) H5 _ I5 (stat fr5) st5 stop) fun r s6 ⟨hr, I6⟩ => ?_
    subst hr
    exact wpAny_pure (fin H5 s6 I6 qn)
  · refine thn (T.item (cxComp X M scope C fp s2 H2) rfl rfl rfl hc i [] s5 (capS ix σ) H5 _ I5 (stat fr5) st5 go) fun r s6 ⟨u, hr, h6⟩ => ?_
    subst hr
    refine wpAny_bind (thn h6 fun _ s7 ⟨x, H7, I7, r7, y7, st7, fr7⟩ => ?_)
    have I7' := I7.pinned (stat fr7) (T.obj _ _ st7)
    refine wpAny_bind (wpAny_mono (hg _ s7 (capS ix σ) H7 x u _ I7' r7 (step x H7 y7)) (fun _ s8 ⟨σ8, H8, I8, k8, q8⟩ => ?_) fun _ _ z => False.elim z)
    refine wpAny_bind (wpAny_mono (ht _ s8 σ8 H8 _ I8 q8) (fun ok s9 ⟨H9, I9, q9⟩ => ?_) fun _ _ z => False.elim z)
    have again : ∀ {Ha : Hp} {sa : Shared}, Inv (cxComp X M scope C fp s2 H2) ([] ++ pinsAt fp s7.heap) σ8 Ha sa → N Ha → ∃ m, m < n ∧ ∃ i H', Inv (cxComp X M scope C fp s2 H2) [] (capS ix σ) H' sa ∧ tn i sa.heap ∧ (∀ b ∈ fp, H' b = none) ∧ W i m H' := fun {Ha sa} Ia na => by
      obtain ⟨m', hm, wa⟩ := hN Ha na
      refine ⟨m', hm, i + 1, Ha, Ia.unpinned.weak k8.1.symm k8.2, T.keep _ _ _ st7 fun b hb o e => (Ia.pin (b, o) (List.mem_append_right _ (List.mem_append_right _ (mem_pinsAt hb e)))).1, fun b hb => ?_, wa⟩
      obtain ⟨o, e, d⟩ := T.obj _ _ st7 b hb
      exact (Ia.pin (b, o) (List.mem_append_right _ (List.mem_append_right _ (mem_pinsAt hb e)))).2.1
    cases ok with
    | false => exact wpAny_pure ⟨rfl, again I9 q9⟩
    | true =>
      refine wpAny_bind (wpAny_bind (wpAny_mono (he _ s9 σ8 H9 _ I9 q9) (fun xv s10 ⟨v, H10, I10, r10, ys, hD, hl, q10⟩ => ?_) fun _ _ z => False.elim z))
      refine wpAny_bind (wpAny_mono (mt_append (X := cxComp X M scope C fp s2 H2) _ s10 σ8 H10 (.ref D) [v] (.ref D) [xv] (fun _ H' => N H') I10 rfl (.cons r10 .nil) ⟨D, ys, v, rfl, rfl, hD, hl, q10⟩) (fun _ s11 ⟨_, H11, I11, _, q11⟩ => ?_) fun _ _ z => False.elim z)
      exact wpAny_pure (wpAny_pure ⟨rfl, again I11 q11⟩)

theorem comp_block {pins : List (Addr × Obj)} {σ : St} {H2 : Hp} {s2 : Shared} {fp : List Addr} {it : Addr} {tn : Nat → Heap → Prop} {J : It} {E : Value → Shared → Prop} {QD : Addr → Hp → Prop} {RR : Value → Addr → Result → Shared → Prop} (I2 : Inv X pins σ H2 s2) (hc : X.calm = true)
    (ck : CompOk X.N M ix scope X.env.scope) (f2 : ∀ b ∈ fp, FpOk X pins H2 b) (T : Turn X.prog X.w X.K tg J fp it tn) (st2 : tn 0 s2.heap)
    (hg : ∀ C fp s2 H2, PG (cxComp X M scope C fp s2 H2) tg g) (ht : ∀ C fp s2 H2, PTs (cxComp X M scope C fp s2 H2) ifs tt) (he : ∀ C fp s2 H2, PE (cxComp X M scope C fp s2 H2) elt te)
    (rd : ∀ D, H2 D = none → ∃ W : Nat → Nat → Hp → Prop, (∃ m, W 0 m (upd H2 D (.lst []))) ∧ ∀ i m H, W i m H →
      (J.stop i H ∧ QD D H) ∨ (J.go i H ∧ ∃ N : Hp → Prop, (∀ H', N H' → ∃ m', m' < m ∧ W (i + 1) m' H') ∧ ∀ x H', J.yld i H x H' → g x (capS ix σ) H' fun σ2 H2 => KeepS (capS ix σ) σ2 ∧ tt σ2 H2 fun b H3 =>
        if b = true then te σ2 H3 fun v H4 => ∃ ys, H4 D = some (.lst ys) ∧ ys.length < sizeLine ∧ N (upd H4 D (.lst (ys ++ [v]))) else N H3))
    (fin : ∀ D C H' s', QD D H' → (∃ m, s'.heap.Ns C m) → (∀ h2, Heap.SameBut C s'.heap h2 → Inv X pins σ H' { s' with heap := h2 }) → FpOk X pins H' C → RR (.ref D) C (.ok .next) s') :
    wpAny (model X.prog X.w) X.A (newList []) (fun acc s3 => wpAny (model X.prog X.w) X.A (newFunctionEnv scope X.env.globals (clOf X.env.cells scope.names []) [] X.env.qual none .none (some X.env)) (fun cenv s4 =>
      codeAny (model X.prog X.w) X.A (.compStart (.ListComp elt [⟨tg, iter, ifs, 0⟩] scope pos) 0 (.ref it) acc { cenv with scope := relabel scope X.env }) (RR acc cenv.locals) s4) E s3) E s2 := by
  have hfp : ∀ b ∈ fp, b < s2.heap.objs.size := fun b hb => by obtain ⟨o, e, _⟩ := T.obj 0 _ st2 b hb; exact Heap.lt_size e
  refine wpAny_newObj_type (wpAny_newFunctionEnv ck.nocell (by intro y hy; simp at hy) (fun h1 hn1 hsb1 => ?_) ck.kind)
  dsimp only at hn1 hsb1 ⊢
  generalize hP : s2.heap.push { cls := .type "list", dict := none, data := .seq ([] : List Value).toArray } = hh at hn1 hsb1 ⊢
  have hCz : hh.objs.size = s2.heap.objs.size + 1 := by rw [← hP, Heap.size_push]
  have hCD : hh.objs.size ≠ s2.heap.objs.size := by omega
  have old : ∀ b o, s2.heap.get? b = some o → h1.get? b = some o := fun b o e => by
    have hb : b < s2.heap.objs.size := Heap.lt_size e
    exact hsb1.extBut b o (Nat.ne_of_lt (by rw [hCz]; exact Nat.lt_succ_of_lt hb)) (Heap.get?_push_of_some _ (hP ▸ Heap.get?_push_of_some _ e))
  have hnew : h1.get? s2.heap.objs.size = some { cls := .type "list", data := .seq #[] } := hsb1.extBut _ _ hCD.symm (Heap.get?_push_of_some _ (hP ▸ Heap.get?_push_size _ rfl))
  obtain ⟨W, ⟨m0, w0⟩, turn⟩ := rd s2.heap.objs.size (I2.hok.fresh (Nat.le_refl _))
  have I4 := comp_inv (M := M) (ix := ix) (scope := scope) (fp := fp) (tk := s2.toks + ([] : List (Str × Value)).length) I2 ck (C := hh.objs.size) (D := s2.heap.objs.size) (by omega) (Nat.le_refl _) hCD f2 hfp old hn1 hnew
  have st4 : tn 0 h1 := T.keep _ _ _ st2 fun b _ o e => old b o e
  have fr4 : ∀ b ∈ fp, upd H2 s2.heap.objs.size (.lst []) b = none := fun b hb => by rw [upd_ne (Nat.ne_of_lt (hfp b hb))]; exact (f2 b hb).1
  have lp : codeAny (model X.prog X.w) X.A (.compLoop (.ListComp elt [⟨tg, iter, ifs, 0⟩] scope pos) 0 (.ref it) (.ref s2.heap.objs.size) (compEnvC scope (clOf X.env.cells scope.names []) hh.objs.size X.env)) (RR (.ref s2.heap.objs.size) hh.objs.size) { s2 with heap := h1, toks := s2.toks + ([] : List (Str × Value)).length } := by
    refine comp_loop (QD := QD s2.heap.objs.size) I2 hc f2 T (hg _ _ _ _) (ht _ _ _ _) (he _ _ _ _) I4 st4 fr4 W m0 w0 turn fun H' s' J' q' => ?_
    obtain ⟨m, hm, _⟩ := J'.loc
    exact fin _ _ H' s' q' ⟨m, hm⟩ (fun h2 sb => comp_back I2 J' f2 sb) (I2.fpOk (by omega) J'.free)
  exact codeAny_compStart_list lp (T.self _ 0 _ _ _ st4 lp)
theorem pe_comp (hc : X.calm = true) (ck : CompOk X.N M ix scope X.env.scope) (hi : PI X tg iter wi) (hg : ∀ C fp s2 H2, PG (cxComp X M scope C fp s2 H2) tg g) (ht : ∀ C fp s2 H2, PTs (cxComp X M scope C fp s2 H2) ifs tt) (he : ∀ C fp s2 H2, PE (cxComp X M scope C fp s2 H2) elt te)
    (hs : ∀ x, foldedSetIterable iter X.env x = pure x := by intro _; rfl) : PE X (.ListComp elt [⟨tg, iter, ifs, 0⟩] scope pos) (tComp wi ix g tt te) := by
  intro pins s σ H Q I h
  have hfree : ∀ x ∈ scope.names, x.2 = .free → ∃ c, X.env.cells.lookup x.1 = some c := fun x hx e => I.ok.has x.1 (ck.fr x hx e)
  rw [eval_ListComp]
  refine wpAny_comprehension_free (use := none) (cl := clOf X.env.cells scope.names []) rfl hs (closureFor_clOf hfree) ck.kind ck.loc (thn (hi pins s σ H _ I h) fun v s1 h1 => thn h1 fun itv s2 h2 => ?_)
  obtain ⟨it, fp, tn, J, H2, e, I2, T, st2, f2, rd⟩ := h2
  subst e
  refine comp_block (QD := fun D H' => Q (.ref D) H') I2 hc ck f2 T st2 hg ht he rd fun D C H' s' q hm hb _ => ?_
  obtain ⟨m, hm⟩ := hm
  exact ⟨m, hm, fun h2 sb => ⟨.ref D, H', hb h2 sb, rfl, q⟩⟩

/-- name = [..]: the name is stored ahead of the block's own variables' end -/
def tCompSet (wi : TI) (ix : List (Option Nat)) (g : TG) (tt : TT) (te : TE) (i : Nat) : TS := fun D σ H => tComp wi ix g tt te σ H fun x H1 => D.nx (σ.set i (some x)) H1
theorem ps_setC {i : Nat} {x : Str} {pos' spos : Pos} (hsw : swapsWith (.ListComp elt [⟨tg, iter, ifs, 0⟩] scope pos) (some (.Name x pos')) spos.line X.env = pure true) (hN : X.N.Nodup) (hix : X.N[i]? = some x) (hx : Loc X.env.scope x)
    (hc : X.calm = true) (ck : CompOk X.N M ix scope X.env.scope) (hi : PI X tg iter wi) (hg : ∀ C fp s2 H2, PG (cxComp X M scope C fp s2 H2) tg g) (ht : ∀ C fp s2 H2, PTs (cxComp X M scope C fp s2 H2) ifs tt) (he : ∀ C fp s2 H2, PE (cxComp X M scope C fp s2 H2) elt te)
    (hs : ∀ x, foldedSetIterable iter X.env x = pure x := by intro _; rfl) (hf : X.fn x = true ∨ X.env.scope.names.lookup x = some .local := by first | exact .inl rfl | exact .inr rfl | assumption) :
    PS X (.Assign [.Name x pos'] (.ListComp elt [⟨tg, iter, ifs, 0⟩] scope pos) spos) (tCompSet wi ix g tt te i) := by
  intro pins s σ H D0 I h
  have hfree : ∀ x ∈ scope.names, x.2 = .free → ∃ c, X.env.cells.lookup x.1 = some c := fun x hx e => I.ok.has x.1 (ck.fr x hx e)
  rw [exec_Assign_Name_used _ _ _ _ hsw]
  refine wpAny_bind (wpAny_standAt (wpAny_bind ?_))
  show wpAny _ X.A (do let _ ← comprehension (.ListComp elt [⟨tg, iter, ifs, 0⟩] scope pos) scope X.env _ (newList []) false (eval iter X.env) (some (assign (.Name x pos') X.env))) _ _ s
  refine wpAny_bind (wpAny_mono (wpAny_comprehension_free (use := some (assign (.Name x pos') X.env)) (Q := fun _ s' => SP X pins D0 .next s') (cl := clOf X.env.cells scope.names []) rfl hs (closureFor_clOf hfree) ck.kind ck.loc
    (thn (hi pins s σ H _ I h) fun v s1 h1 => thn h1 fun itv s2 h2 => ?_)) (fun _ s' hq => wpAny_pure (wpAny_pure hq)) fun _ _ e => e)
  obtain ⟨it, fp, tn, J, H2, e, I2, T, st2, f2, rd⟩ := h2
  subst e
  refine comp_block (QD := fun D H' => D0.nx (σ.set i (some (.ref D))) H') I2 hc ck f2 T st2 hg ht he rd fun D C H' s' q hm hb fpk => ?_
  obtain ⟨m, hm⟩ := hm
  obtain ⟨g0, g1, g2, g3, g4, g5⟩ := fpk
  have I5 : Inv X pins σ H' s' := hb s'.heap ⟨rfl, fun _ _ => rfl⟩
  show wpAny (model X.prog X.w) X.A (assign (.Name x pos') X.env (.ref D)) _ _ s'
  refine wpAny_assign_Name (store_ok2 (v := .ref D) I5 hN hix hx rfl (fun s6 I6 ⟨a, sb, ha⟩ => ?_) hf)
  have hCa : C ≠ a := by
    rcases ha with ha | ha
    · rw [ha]; exact g1
    · exact (g4 x a ha).symm
  refine ⟨m, hm.sameBut sb hCa, fun h2 sb2 => ⟨_, H', I6.turned (t' := s6.toks) (fun b o hb e => (sb2.2 b hb).trans e) g0 g1 g3 g4 g5, q⟩⟩
end
end L2
set_option Elab.async false
set_option linter.all false
set_option maxRecDepth 100000
namespace L2
open PySem PySem.Spec PyProof.Rows

/-- a def stands at the top by its name, and takes its arguments by place -/
def FnAt (K : PySem.W.Frag) (mg : Str → Option Value) (x : Str) (st : Stmt) (ps : List Str) : Prop := ∃ f fd, mg x = some (.ref f) ∧ Fun K x x st f fd ∧ Binds K fd ps []
/-- a def that keeps a promise -/
def Has (P : Program) (w : World) (K : PySem.W.Frag) (mg : Str → Option Value) (base : Heap) (k : Nat) (x : Str) (ps : List Str) (sp : Sp) : Prop :=
  ∃ f fd, mg x = some (.ref f) ∧ PySem.W.keepIn K (.ref f) = true ∧ Binds K fd ps [] ∧ FnOk P w K mg base CX0 k f fd ps sp
section
variable {P : Program} {w : World} {K : PySem.W.Frag} {mg : Str → Option Value} {base : Heap}
theorem Has.of {x : Str} {st : Stmt} {ps N : List Str} {k : Nat} {sp : Sp} (F : FnAt K mg x st ps) (S : FnScope N ps (defScope st)) (len : ∀ vs H Q E, sp vs H Q E → vs.length = ps.length)
    (hbody : ∀ (f : Addr) (cdv : Value) (A : Around) (outer : List Env) (s : Shared) (H : Hp) (vs : List V) (Q : VK) (E : XK), Room k (A.deeper (envOfC x (defScope st) s.heap.objs.size f cdv)) → sp vs H Q E →
      ∃ t, PSs (cxOf CX0 P w K mg base N x (defScope st) f cdv A outer s H E).nox (defBody st) t ∧ t { nx := fun _ H' => Q .non H', rt := Q } (start N vs) H) : Has P w K mg base (k + 1) x ps sp := by
  obtain ⟨f, fd, h1, h2, h3⟩ := F
  exact ⟨f, fd, h1, h2.kp, h3, h2.ok S len fun cdv A outer s H vs Q E hr h => hbody f cdv A outer s H vs Q E hr h⟩
end
section
variable {X : Cx}
theorem pe_callH {k m : Nat} {x : Str} {ps : List Str} {sp : Sp} {e : Expr} {es : List Expr} {t : TA} {p pos : Pos} (h : Has X.prog X.w X.K X.mg X.base k x ps sp) (hr : Room m X.A) (ha : PA X (e :: es) t) (hk : k ≤ m := by decide) (hg : Gl X x := by rfl)
    (hdb : (x == ("__debug__" : Str)) = false := by decide) (he : starEach (e :: es) X.env = (false, eval e X.env) :: starEach es X.env := by rfl) (hpl : (backTo pos (starEach es X.env)).any (·.1) = false := by rfl) :
    PE X (.Call (.Name x p) (e :: es) [] pos) (tCall sp [] E0 t) := by
  obtain ⟨f, fd, h1, h2, h3, h4⟩ := h
  exact pe_call h4 (hr.mono hk) hg h1 h2 h3 .nil pass0 ha hdb he hpl
end
def blNames : List Str := ["len", "abs", "max", "min", "repr", "isinstance", "int", "bool", "str", "tuple", "list", "dict", "range", "enumerate", "sorted", "sum"]
structure Bl (mg : Str → Option Value) : Prop where
  all : ∀ x ∈ blNames, mg x = none
theorem Bl.of {mg : Str → Option Value} (B : Bl mg) {x : Str} (h : blNames.contains x = true) : mg x = none := B.all x (by simpa using h)
/-- a constant tuple of the text -/
def GTup (K : PySem.W.Frag) (mg : Str → Option Value) (x : Str) (xs : List V) : Prop := ∃ a, mg x = some (.ref a) ∧ ∀ H, SqT K H a xs
theorem gtup_mk {K : PySem.W.Frag} {mg : Str → Option Value} {x : Str} {a : Addr} {xs : List V} {od : Option Addr} {its : Array Value} {n : Nat} {sl : Array (Option Value)} (h1 : mg x = some (.ref a)) (h2 : K.lookup a = some ⟨.type "tuple", od, .seq its n, sl⟩)
    (h3 : its.size ≤ sizeLine) (h4 : Vals xs its.toList) : GTup K mg x xs := ⟨a, h1, fun H => .inr ⟨_, its, n, h2, rfl, rfl, h3, h4⟩⟩
section
variable {X : Cx}
def tGT (K : PySem.W.Frag) (xs : List V) : TE := fun _ H Q => ∀ a, (∀ H', SqT K H' a xs) → Q (.ref a) H
theorem pe_gtup {x : Str} {xs : List V} {pos : Pos} (h : GTup X.K X.mg x xs) (hg : Gl X x := by rfl) (hd : (x == ("__debug__" : Str)) = false := by decide) : PE X (.Name x pos) (tGT X.K xs) := by
  obtain ⟨a, h1, h2⟩ := h
  exact fun pins s σ H Q I q => pe_glob (v := .ref a) hg h1 rfl hd pins s σ H Q I (q a h2)
/-- a constant int of the text -/
theorem pe_gint {x : Str} {i : Int} {pos : Pos} (h : ∃ t, X.mg x = some (.int i t)) (hg : Gl X x := by rfl) (hd : (x == ("__debug__" : Str)) = false := by decide) : PE X (.Name x pos) (tC (.int i)) := by
  obtain ⟨t, h1⟩ := h
  exact pe_glob (v := .int i) hg h1 ⟨t, rfl⟩ hd
/-- isinstance(x, T), T a built-in type -/
def rIsi (K : PySem.W.Frag) : List V → Hp → VK → Prop := fun xs H Q => ∃ x T t b, xs = [x, .ty T] ∧ TyOf K H x t ∧ PySem.W.kitOne K t (.type T) = some b ∧ Q (.bl b) H
theorem call_isi : CallR X (.builtin "isinstance") (rIsi X.K) := by
  intro pins s σ H xs us Q I r h
  obtain ⟨x, T, t, b, rfl, ht, hk, q⟩ := h
  cases r with
  | cons r rr =>
    cases rr with
    | cons r' rr =>
      cases rr
      cases r'
      exact isinst_ok I r ht hk fun tk => ⟨.bl b, H, I.tok _, rfl, q⟩
end
def tCut (t u : TS) : TS := fun D σ H => ∃ R : St → Hp → Prop, t { D with nx := R } σ H ∧ ∀ σ' H', R σ' H' → u D σ' H'
theorem pss_cut {X : Cx} {st : Stmt} {rest : List Stmt} {t u : TS} (h1 : PS X st t) (h2 : PSs X rest u) : PSs X (st :: rest) (tCut t u) := by
  intro pins s σ H D I h
  obtain ⟨R, h, hR⟩ := h
  refine wpAny_execs_cons (thn (h1 pins s σ H { D with nx := R } I h) fun f s1 q => ?_)
  cases f with
  | next =>
    obtain ⟨σ', H', I', q⟩ := q
    exact h2 pins s1 σ' H' D I' (hR σ' H' q)
  | ret v => exact q
  | brk => exact q
  | cont => exact q
/-- an expression, and a word of its value -/
def tMid (t : TE) : TE := fun σ H Q => ∃ R : VK, t σ H R ∧ ∀ v H', R v H' → Q v H'
theorem pe_mid {X : Cx} {e : Expr} {t : TE} (h : PE X e t) : PE X e (tMid t) := by
  intro pins s σ H Q I hw
  obtain ⟨R, h1, h2⟩ := hw
  exact thn (h pins s σ H R I h1) fun u s1 ⟨v, H1, I1, r, q⟩ => ⟨v, H1, I1, r, h2 v H1 q⟩
theorem Same.upd {H H1 : Hp} {p : Addr} {o : HO} (s : Same H H1) (h : H1 p = none) : Same H (upd H1 p o) := fun b u e => by
  have e1 := s b u e
  rw [upd_ne (ne_of_none e1 h)]; exact e1
/-- changed at an address that is new since H -/
theorem Same.at {H H1 : Hp} {p : Addr} {o : HO} (s : Same H H1) (h : H p = none) : Same H (L2.upd H1 p o) := fun b u e => by
  rw [upd_ne (ne_of_none e h)]; exact s b u e
theorem At.tupEq {H : Hp} {v : V} {ds : List PyData} (h : At H v (.tuple ds)) : ∃ a vs, v = .ref a ∧ H a = some (.tup vs) ∧ AtAll H vs ds := by
  cases h with
  | tup e t => exact ⟨_, _, rfl, e, t⟩
theorem At.lstEq {H : Hp} {v : V} {ds : List PyData} (h : At H v (.list ds)) : ∃ a vs, v = .ref a ∧ H a = some (.lst vs) ∧ AtAll H vs ds := by
  cases h with
  | lst e t => exact ⟨_, _, rfl, e, t⟩
theorem At.strEq {H : Hp} {v : V} {x : Str} (h : At H v (.str x)) : v = .str x := by cases h; rfl
theorem At.intEq {H : Hp} {v : V} {x : Int} (h : At H v (.int x)) : v = .int x := by cases h; rfl
end L2
set_option Elab.async false
set_option linter.all false
set_option maxRecDepth 100000
namespace L2
open PySem PySem.Spec PyProof.Rows
def hideL (H : Hp) (L : List Addr) : Hp := fun b => if b ∈ L then none else H b
theorem hideL_same (H : Hp) (L : List Addr) : Same (hideL H L) H := fun b o e => by
  unfold hideL at e
  split at e
  · cases e
  · exact e
theorem hideL_get {H : Hp} {L : List Addr} {b : Addr} (h : b ∉ L) : hideL H L b = H b := by unfold hideL; rw [if_neg h]
theorem hideL_mono {H H' : Hp} (s : Same H H') (L : List Addr) : Same (hideL H L) (hideL H' L) := fun b o e => by
  unfold hideL at e ⊢
  split at e
  · cases e
  · rename_i h; rw [if_neg h]; exact s b o e
theorem hideL_sub {H : Hp} {L L' : List Addr} (h : ∀ b ∈ L, b ∈ L') : Same (hideL H L') (hideL H L) := fun b o e => by
  unfold hideL at e ⊢
  split at e
  · cases e
  · rename_i hn; rw [if_neg fun z => hn (h b z)]; exact e
theorem hideL_upd {H : Hp} {L : List Addr} {p : Addr} {o : HO} (h : p ∈ L) : hideL (upd H p o) L = hideL H L := by
  funext b
  unfold hideL
  by_cases hb : b ∈ L
  · rw [if_pos hb, if_pos hb]
  · rw [if_neg hb, if_neg hb, upd_ne]
    rintro rfl
    exact hb h
/-- the list at l holds the data ds, none of which leans on l or on the addresses L -/
def Bld (L : List Addr) (H : Hp) (l : Addr) (ds : List PyData) : Prop := ∃ us, H l = some (.lst us) ∧ AtAll (hideL H (l :: L)) us ds
theorem Bld.new {L : List Addr} {H : Hp} {l : Addr} : Bld L (upd H l (.lst [])) l [] := ⟨[], upd_same, .nil⟩
theorem Bld.grow {L : List Addr} {H H' : Hp} {l : Addr} {ds : List PyData} (b : Bld L H l ds) (s : Same H H') : Bld L H' l ds := by
  obtain ⟨us, h1, h2⟩ := b
  exact ⟨us, s _ _ h1, h2.same (hideL_mono s _)⟩
theorem Bld.push {L : List Addr} {H : Hp} {l : Addr} {ds : List PyData} {us : List V} {v : V} {d : PyData} (b : Bld L H l ds) (hu : H l = some (.lst us)) (h : At (hideL H (l :: L)) v d) : Bld L (upd H l (.lst (us ++ [v]))) l (ds ++ [d]) := by
  obtain ⟨us', h1, h2⟩ := b
  rw [hu] at h1; cases h1
  refine ⟨_, upd_same, ?_⟩
  rw [hideL_upd List.mem_cons_self]
  exact h2.snoc h
theorem Bld.len {L : List Addr} {H : Hp} {l : Addr} {ds : List PyData} {us : List V} (b : Bld L H l ds) (hu : H l = some (.lst us)) : us.length = ds.length := by
  obtain ⟨us', h1, h2⟩ := b
  rw [hu] at h1; cases h1
  exact h2.length
theorem Bld.at {L : List Addr} {H : Hp} {l : Addr} {ds : List PyData} (b : Bld L H l ds) (h : l ∉ L) : At (hideL H L) (.ref l) (.list ds) := by
  obtain ⟨us, h1, h2⟩ := b
  exact .lst (by rw [hideL_get h]; exact h1) (h2.same (hideL_sub fun b hb => List.mem_cons_of_mem _ hb))
theorem Bld.out {H : Hp} {l : Addr} {ds : List PyData} (b : Bld [] H l ds) : At H (.ref l) (.list ds) := (b.at (by simp)).same (hideL_same _ _)
theorem sl_le {n : Nat} (h : n ≤ 100000) : n ≤ sizeLine := Nat.le_trans h (by decide)
theorem sl_lt {n : Nat} (h : n ≤ 100000) : n < sizeLine := Nat.lt_of_le_of_lt h (by decide)
theorem atI_lit {α : Type} {xs : List α} {i : Int} {v : α} (j : Nat) (h : xs[j]? = some v) (e : i = (j : Int) := by rfl) : atI xs i = some v := by
  rw [e]; exact atI_nat h
theorem atI_int {α : Type} {xs : List α} {i : Int} {v : α} (h0 : 0 ≤ i) (h : xs[i.toNat]? = some v) : atI xs i = some v := by
  have e : ((i.toNat : Nat) : Int) = i := Int.toNat_of_nonneg h0
  rw [← e]; exact atI_nat h

theorem comp_by {J : It} {n : Nat} {g : TG} {tt : TT} {te : TE} {ix : List (Option Nat)} {σ : St} {H : Hp} {QD : Hp → Prop} {D : Addr} (Pv : Nat → Hp → Prop) (h0 : Pv 0 (upd H D (.lst []))) (stop : ∀ H', Pv n H' → J.stop n H' ∧ QD H')
    (step : ∀ i H', i < n → Pv i H' → J.go i H' ∧ ∀ x H2, J.yld i H' x H2 → g x (capS ix σ) H2 fun σ2 H3 => KeepS (capS ix σ) σ2 ∧ tt σ2 H3 fun b H4 =>
      if b = true then te σ2 H4 fun v H5 => ∃ ys, H5 D = some (.lst ys) ∧ ys.length < sizeLine ∧ Pv (i + 1) (upd H5 D (.lst (ys ++ [v]))) else Pv (i + 1) H4) :
    ∃ W : Nat → Nat → Hp → Prop, (∃ m, W 0 m (upd H D (.lst []))) ∧ ∀ i m H, W i m H →
      (J.stop i H ∧ QD H) ∨ (J.go i H ∧ ∃ N : Hp → Prop, (∀ H', N H' → ∃ m', m' < m ∧ W (i + 1) m' H') ∧ ∀ x H', J.yld i H x H' → g x (capS ix σ) H' fun σ2 H2 => KeepS (capS ix σ) σ2 ∧ tt σ2 H2 fun b H3 =>
        if b = true then te σ2 H3 fun v H4 => ∃ ys, H4 D = some (.lst ys) ∧ ys.length < sizeLine ∧ N (upd H4 D (.lst (ys ++ [v]))) else N H3) := by
  refine ⟨fun i m H => m = n - i ∧ i ≤ n ∧ Pv i H, ⟨n, by simp, Nat.zero_le _, h0⟩, ?_⟩
  rintro i m H ⟨rfl, hi, p⟩
  by_cases hlt : i < n
  · obtain ⟨g1, g2⟩ := step i H hlt p
    exact .inr ⟨g1, Pv (i + 1), fun H' p' => ⟨n - (i + 1), by omega, rfl, hlt, p'⟩, g2⟩
  · have e : i = n := by omega
    subst e
    exact .inl (stop H p)
theorem cut_take {xs : List V} (k : Nat) : cutV xs none (some (k : Int)) = xs.take k := by
  unfold cutV
  rw [HT.sIx_none, HT.sIx_nat, List.drop_zero, Nat.sub_zero]
  by_cases h : k ≤ xs.length
  · rw [Nat.min_eq_left h]
  · rw [Nat.min_eq_right (by omega), List.take_length, List.take_of_length_le (by omega)]
theorem cut_drop {xs : List V} (k : Nat) : cutV xs (some (k : Int)) none = xs.drop k := by
  unfold cutV
  rw [HT.sIx_none, HT.sIx_nat]
  by_cases h : k ≤ xs.length
  · rw [Nat.min_eq_left h]
    exact List.take_of_length_le (by rw [List.length_drop]; exact Nat.le_refl _)
  · rw [Nat.min_eq_right (by omega), List.drop_eq_nil_of_le (show xs.length ≤ k by omega), List.drop_length]; simp

theorem yes {σ : St} {H : Hp} {A B : Hp → Prop} (h : A H) : tYes σ H fun b H' => if b = true then A H' else B H' := iteT (B := B H) h
section
variable {X : Cx} {K : PySem.W.Frag}
theorem ix_tupK (h : X.K = K) : IxR X (rIxT K) := h ▸ ix_tup
theorem sl_listK (h : X.K = K) : SlR X (rSlL K) := h ▸ sl_list
theorem call_isiK (h : X.K = K) : CallR X (.builtin "isinstance") (rIsi K) := h ▸ call_isi
theorem call_len_seqK (h : X.K = K) : CallR X (.builtin "len") (fun xs H Q => ∃ p ys, xs = [.ref p] ∧ (SqL K H p ys ∨ SqT K H p ys) ∧ Q (.int ys.length) H) := h ▸ call_len_seq
theorem pg_tupK {es : List Expr} {k : Nat} {t : TGs} {n : Nat} {pos : Pos} (h : X.K = K) (hc : X.calm = true) (hh : PGs X es t)
    (hn : (assignEach es X.env).length = n := by rfl) (hst : (assignEach es X.env).findIdx? (·.1) = none := by rfl) : PG X (.Tuple es k pos) (gTup K n t) := by
  subst h; exact pg_tup hc hh hn hst
end

def rNeD : R2 := fun x y H Q => ∃ dx dy, At H x dx ∧ At H y dy ∧ dx.canLay0 = true ∧ dy.canLay0 = true ∧ dx.depth ≤ 60 ∧ Q (.bl (!PyData.eqv dx dy)) H
section
variable {X : Cx}
theorem op_neD {k : Nat} (hr : Room k X.A) : OpR X (compareOp .NotEq) rNeD := by
  intro pins s σ H x y v u Q I rx ry h
  obtain ⟨dx, dy, h1, h2, c1, c2, hd, q⟩ := h
  obtain ⟨as, r1⟩ := h1.reads I.hok rx
  obtain ⟨bs, r2⟩ := h2.reads I.hok ry
  have hu := hr.units
  exact PySem.SeqAt.rcNeAt_reads r1 r2 c1 c2 (by have := Nat.min_le_left dx.depth dy.depth; omega) _ _ _ _ ⟨.bl _, H, I, rfl, q⟩
end
theorem depthAll_le {n : Nat} : ∀ {xs : List PyData}, (∀ x ∈ xs, x.depth ≤ n) → PyData.depthAll xs ≤ n
  | [], _ => by simp [PyData.depthAll]
  | x :: xs, h => by
    have h1 := h x List.mem_cons_self
    have h2 := depthAll_le (xs := xs) fun y hy => h y (List.mem_cons_of_mem _ hy)
    simp only [PyData.depthAll]
    omega
theorem bulkAll_le {n : Nat} : ∀ {xs : List PyData}, (∀ x ∈ xs, x.bulk ≤ n) → PyData.bulkAll xs ≤ (n + 1) * xs.length
  | [], _ => by simp [PyData.bulkAll]
  | x :: xs, h => by
    have h1 := h x List.mem_cons_self
    have h2 := bulkAll_le (xs := xs) fun y hy => h y (List.mem_cons_of_mem _ hy)
    simp only [PyData.bulkAll, List.length_cons, Nat.mul_add]
    omega
theorem shortAll_of {B : Nat} : ∀ {xs : List PyData}, (∀ x ∈ xs, x.leavesShort B = true) → PyData.leavesShortAll B xs = true
  | [], _ => by simp [PyData.leavesShortAll]
  | x :: xs, h => by
    simp only [PyData.leavesShortAll, h x List.mem_cons_self, shortAll_of (xs := xs) fun y hy => h y (List.mem_cons_of_mem _ hy), Bool.and_self]
end L2
set_option Elab.async false
set_option linter.all false
set_option maxRecDepth 100000
set_option maxHeartbeats 2000000
namespace L2
open PySem PySem.Spec PyProof.Rows PySem.W
abbrev bmV : List Value := [.type "ValueError", .type "Exception", .type "BaseException", .type "object"]
def xclsB (K : PySem.W.Frag) (C : Addr) : Bool := match K.lookup C with
  | some ⟨.type "type", _, .cls cd, sl⟩ => (match cd.mro, sl.toList with
    | .ref D :: bm, [_, _, _, _, some (.builtin n), _] => D == C && n == "ValueError.__new__" && !cd.hasDel && cd.hasDict && PySem.W.tailIn K bmV bm
    | _, _ => false)
  | _ => false
theorem xcls_of {K : PySem.W.Frag} {h : Heap} {C : Addr} (X : K.In h) (q : xclsB K C = true) : ∃ nm qn N bs bm sn sub ab col dd k0 k1 k2 k3 k5,
    h.get? C = some (excClassObj nm qn C N bs bm true sn sub ab col dd k0 k1 k2 k3 k5 "ValueError.__new__") ∧ OwnTail h bmV bm := by
  unfold xclsB at q
  split at q
  · rename_i dd cd sl ho
    split at q
    · rename_i D bm k0 k1 k2 k3 n k5 hm hs
      simp only [Bool.and_eq_true, beq_iff_eq, Bool.not_eq_true'] at q
      obtain ⟨⟨⟨⟨rfl, rfl⟩, hdel⟩, hdi⟩, ht⟩ := q
      obtain ⟨nm, bs, mro, ns, qn, hd, sn, sub, ab, col, del⟩ := cd
      dsimp only at hm hdel hdi
      subst hm hdel hdi
      obtain ⟨l⟩ := sl
      simp only at hs
      subst hs
      exact ⟨nm, qn, ns, bs, bm, sn, sub, ab, col, dd, k0, k1, k2, k3, k5, X _ _ ho, tail_of_in X ht⟩
    · cases q
  · cases q
section
variable {prog : Program} {w : World} {A : Around} {E : Value → Shared → Prop} {h : Heap} {g : Array GenState} {d : Drawn} {t : Nat} {os : OsState} {K : PySem.W.Frag} {C fI : Addr}
theorem xc_type_call {rest : List Value} {Q : Fin → Shared → Prop} (X : K.In h) (cx : xclsB K C = true) (hi : PySem.W.findIn K (.ref C) "__init__" = some (some (.ref fI))) (hf : PySem.W.isFn K (.ref fI) = true)
    (hq : ∀ h' e, Heap.MadeExcOf h h' e (.ref C) rest → wpAny (model prog w) A (call (.ref fI) (.ref e :: rest)) (fun r s' => r = .none ∧ Q (.done (.ret (.ref e))) s') E ⟨h', g, d, t, os⟩) (hrest : rest.length ≤ sizeLine) :
    wpAny (model prog w) A (Builtin.«type.__call__» ⟨.ref C :: rest, []⟩) Q E ⟨h, g, d, t, os⟩ := by
  obtain ⟨nm, qn, N, bs, bm, sn, sub, ab, col, dd, k0, k1, k2, k3, k5, cC, T⟩ := xcls_of X cx
  repeat (first | with_reducible refine wpAny_loadPart_at cC ?_ | with_reducible refine wpAny_madeBy_exc cC ?_ | wp_step)
  refine codeAny_call_builtin_code (Code.quiet_builtin _ PySem.F.excBase_ValueError.quiet) (wpAny_check_new_subU PySem.F.excBase_ValueError PySem.F.excBase_ValueError.hasB T cC ?_)
  refine codeAny_exc_new_subU PySem.F.excBase_ValueError PySem.F.excBase_ValueError.hasB PySem.F.excBase_ValueError T cC ?_ hrest
  show wpAny _ _ _ _ _ _
  generalize hp1 : h.push { cls := .type "tuple", data := .seq rest.toArray } = h1
  have kp1 : ∀ b o, h.get? b = some o → h1.get? b = some o := fun b o e => by rw [← hp1]; exact Heap.get?_push_of_some _ e
  have tp1 : h1.get? h.objs.size = some { cls := .type "tuple", data := .seq rest.toArray } := by rw [← hp1]; exact Heap.get?_push_at rfl rfl
  have sz1 : h1.objs.size = h.objs.size + 1 := by rw [← hp1, Heap.size_push]
  generalize hp2 : h1.push { cls := .ref C, data := .fields #[.ref h.objs.size, .none, .none, .none, .bool false, .none] } = h2
  have kp2 : ∀ b o, h.get? b = some o → h2.get? b = some o := fun b o e => by rw [← hp2]; exact Heap.get?_push_of_some _ (kp1 b o e)
  have tp2 : h2.get? h.objs.size = some { cls := .type "tuple", data := .seq rest.toArray } := by rw [← hp2]; exact Heap.get?_push_of_some _ tp1
  have ge2 : h2.get? (h.objs.size + 1) = some { cls := .ref C, data := .fields #[.ref h.objs.size, .none, .none, .none, .bool false, .none] } := by rw [← hp2, ← sz1]; exact Heap.get?_push_size _ rfl
  have X2 : K.In h2 := X.keeps kp2
  have cC2 := kp2 _ _ cC
  have hcC : (Value.ref C :: bm).contains (.ref C) = true := by simp
  unfold isInstance
  repeat (first | with_reducible refine wpAny_loadPart_at ge2 ?_ | (with_reducible refine wpAny_isSubtype_exc cC2 ?_; rw [hcC]) | wp_step)
  show wpAny _ _ (typeLookup (.ref C) _) _ _ _
  refine (looks_findIn X2 hi).here ?_
  refine wpAny_holding (wpAny_bind ((bind_fn X2 (.ref (h.objs.size + 1)) (beq_iff_eq.mp hf)).here ?_))
  refine wpAny_bind (wpAny_mono (hq h2 (h.objs.size + 1) ⟨kp2, Heap.get?_none_of_le (Nat.le_succ _), h.objs.size, ge2, Heap.get?_none_of_le (Nat.le_refl _), tp2⟩) (fun r s' hr => ?_) fun _ _ z => z)
  obtain ⟨rfl, hQ⟩ := hr
  wp_walk
  exact hQ
theorem xc_call {rest : List Value} {Q : Value → Shared → Prop} (X : K.In h) (cx : xclsB K C = true) (hi : PySem.W.findIn K (.ref C) "__init__" = some (some (.ref fI))) (hf : PySem.W.isFn K (.ref fI) = true)
    (hq : ∀ h' e, Heap.MadeExcOf h h' e (.ref C) rest → wpAny (model prog w) (A.under (.builtin "type.__call__" ⟨.ref C :: rest, []⟩)) (call (.ref fI) (.ref e :: rest)) (fun r s' => r = .none ∧ Q (.ref e) s') E ⟨h', g, d, t, os⟩) (hrest : rest.length ≤ sizeLine) :
    wpAny (model prog w) A (call (.ref C) rest) Q E ⟨h, g, d, t, os⟩ := by
  obtain ⟨nm, qn, N, bs, bm, sn, sub, ab, col, dd, k0, k1, k2, k3, k5, cC, T⟩ := xcls_of X cx
  have g1 := tc_lookup
  have g2 := tc_bind (.ref C)
  have gT : (⟨h, g, d, t, os⟩ : Shared).TypeIs (.ref C) "type" := ⟨_, cC, rfl⟩
  refine wpAny_call (codeAny_of_tree ?_)
  show wpAny _ _ (callAny (.ref C) _) _ _ _
  repeat (any_goals (first | assumption | with_reducible refine wpAny_loadPart_at cC ?_ | wp_step))
  refine ⟨rfl, codeAny_call_builtin_at (Code.quiet_builtin _ (by decide +kernel)) entry_typeCall (wpAny_check_type_call_sub cC (xc_type_call X cx hi hf (fun h' e hm => hq h' e hm) hrest))⟩
/-- without an own __init__ -/
theorem xc_call0 {rest : List Value} {Q : Value → Shared → Prop} (X : K.In h) (q : PySem.W.excIn K C bmV "ValueError.__new__" = true) (hq : ∀ h' e, Heap.MadeExcOf h h' e (.ref C) rest → Q (.ref e) ⟨h', g, d, t, os⟩) (hrest : rest.length ≤ sizeLine) :
    wpAny (model prog w) A (call (.ref C) rest) Q E ⟨h, g, d, t, os⟩ := by
  unfold PySem.W.excIn at q
  split at q
  · rename_i dd cd sl ho
    split at q
    · rename_i C' bm k0 k1 k2 k3 n k5 hm hs
      simp only [Bool.and_eq_true, beq_iff_eq, Bool.not_eq_true'] at q
      obtain ⟨⟨⟨⟨⟨rfl, rfl⟩, hdel⟩, ht⟩, hok⟩, hni⟩ := q
      obtain ⟨nm, bs, mro, ns, qn, hd, sn, sub, ab, col, del⟩ := cd
      dsimp only at hm hdel hok hni
      subst hm hdel
      obtain ⟨l⟩ := sl
      simp only at hs
      subst hs
      exact wpAny_call_exc_subU PySem.F.excBase_ValueError PySem.F.excBase_ValueError.hasB PySem.F.excBase_ValueError (tail_of_in X ht) (X _ _ ho) (.of_isNs (isNs_of_in X hok)) (nsMap_none_of_in X hok hni) hq hrest
    · cases q
  · cases q
end
end L2
set_option Elab.async false
set_option linter.all false
set_option maxRecDepth 100000
set_option maxHeartbeats 2000000
namespace L2
open PySem PySem.Spec PyProof.Rows PySem.W
theorem refuse_tail {h : Heap} {bm : List Value} (T : OwnTail h bmV bm) (self : Value) : refuseLoop self "__setattr__" bm = pure () := by
  induction T with
  | base => exact PySem.F.store_ValueError.passes self
  | own _ _ _ _ ih => rw [refuseLoop_ref]; exact ih
section
variable {prog : Program} {w : World} {A : Around} {E : Value → Shared → Prop} {h : Heap} {g : Array GenState} {d : Drawn} {t : Nat} {os : OsState} {K : PySem.W.Frag} {C x : Addr} {mA : Str → Option Value} {name : Str} {v : Value}
theorem xc_check_sa {M : Model} {o : Obj} {nameV : Value} {Q : Unit → Shared → Prop} (X : K.In h) (cx : xclsB K C = true) (hx : h.get? x = some o) (hc : o.cls = .ref C) (hq : Q () ⟨h, g, d, t, os⟩) :
    wpAny M A (checkBuiltinCall "object.__setattr__" ⟨[.ref x, nameV, v], []⟩) Q E ⟨h, g, d, t, os⟩ := by
  obtain ⟨nm, qn, N, bs, bm, sn, sub, ab, col, dd, k0, k1, k2, k3, k5, cC, T⟩ := xcls_of X cx
  have SF := PySem.F.store_ValueError
  have hob : (Value.ref C :: bm).contains (.type "object") = true := by rw [List.contains_cons, T.hasType SF.hasOwner, Bool.or_true]
  have hargs := SF.args (.ref x) nameV v
  simp only [checkBuiltinCall, SF.kind, SF.split]
  refine wpAny_bind ?_
  unfold isInstance
  repeat (first | (with_reducible refine wpAny_loadPart_at hx ?_; rw [hc]) | (with_reducible refine wpAny_isSubtype_exc cC ?_; rw [hob]) | wp_step)
  exact hq
theorem xc_store_entry {tk : Tok} {Q : Fin → Shared → Prop} {ns : List Str} (X : K.In h) (cx : xclsB K C = true) (hna : PySem.W.findIn K (.ref C) name = some none) (I : h.Inst x C mA)
    (hq : ∀ h' tk', h'.Inst x C (fun y => if y = name then some v else mA y) →
      (∀ b o, b ≠ x → (∀ o0 dx, h.get? x = some o0 → o0.dict = some dx → b ≠ dx) → h.get? b = some o → h'.get? b = some o) →
      (∀ o0, h.get? x = some o0 → ∃ o1, h'.get? x = some o1 ∧ o1.cls = o0.cls ∧ o1.data = o0.data ∧ (∀ dx, o0.dict = some dx → o1.dict = some dx) ∧ (o0.dict = none → o1.dict = some h.objs.size)) → Q (.done (.ret .none)) ⟨h', g, d, tk', os⟩)
    (hw : Within mA ns) (hsz : ns.length + 1 ≤ sizeLine) :
    wpAny (model prog w) A (Builtin.«object.__setattr__» ⟨[.ref x, .str name tk, v], []⟩) Q E ⟨h, g, d, t, os⟩ := by
  obtain ⟨nm, qn, N, bs, bm, sn, sub, ab, col, dd, k0, k1, k2, k3, k5, cC, T⟩ := xcls_of X cx
  obtain ⟨o, hx, hc, hnc, hd⟩ := I
  have hpass := refuse_tail T (.ref x)
  unfold Builtin.«object.__setattr__»
  repeat (first | rw [refuse_eq] | (rw [refuseLoop_ref, hpass]) | (with_reducible refine wpAny_loadPart_at hx ?_; rw [hc]) | with_reducible refine wpAny_mroOf_exc cC ?_ | with_reducible refine (looks_findIn X hna).here ?_ | wp_step)
  have put : ∀ (dx : Addr) (h1 : Heap) (mB : Str → Option Value) (ms : List Str), h1.Ns1 dx mB → Within mB ms → ms.length + 1 ≤ sizeLine →
      (∀ h' tk', h'.Ns1 dx (fun y => if y = name then some v else mB y) → Heap.SameBut dx h1 h' → Q (.done (.ret .none)) ⟨h', g, d, tk', os⟩) →
      wpAny (model prog w) A (Builtin.ObjectAttr.storeInDict dx (.str name tk) name v) Q E ⟨h1, g, d, t, os⟩ := fun dx h1 mB ms n1 wi le fin => by
    unfold Builtin.ObjectAttr.storeInDict Builtin.ObjectAttr.newKeyGuard
    refine wpAny_bind (wpAny_pure (wpAny_bind (wpAny_nsSet1 n1 fun h' n2 sb => ?_)))
    obtain ⟨oD, eD, pD, oE, dE, cE⟩ := n2.count (Within.cons name v wi)
    refine wpAny_bind (wpAny_lookBehind oE (by rw [dE]; exact pastItsLine_dict (Nat.le_trans cE (by rw [List.length_cons]; omega))) ?_)
    wp_walk
    exact fin h' _ n2 sb
  rcases hd with ⟨hdn, hmA⟩ | ⟨dx, hdx, hne, hns⟩
  · rw [hdn]
    have hif : ¬ ((!true || !typeHasDict (Value.ref C)) = true) := by simp [typeHasDict]
    show wpAny _ _ (if (!true || !typeHasDict (Value.ref C)) = true then _ else _) _ _ _
    rw [if_neg hif]
    have hxs : x ≠ h.objs.size := Nat.ne_of_lt (Heap.lt_size hx)
    have px : (h.push { cls := .type "dict", data := .dict #[] }).get? x = some o := Heap.get?_push_of_some _ hx
    split
    · rename_i c hcd
      exact absurd hcd (hnc c)
    · refine wpAny_bind (wpAny_alloc' (wpAny_bind (wpAny_update' px (wpAny_pure ?_))))
      have dg : ((h.push { cls := .type "dict", data := .dict #[] }).update x fun o => { cls := o.cls, dict := some h.objs.size, data := o.data, slots := o.slots }).get? h.objs.size = some { cls := .type "dict", data := .dict #[] } :=
        (Heap.get?_update_ne _ _ _ _ hxs.symm).trans (Heap.get?_push_at rfl rfl)
      have dn : ((h.push { cls := .type "dict", data := .dict #[] }).update x fun o => { cls := o.cls, dict := some h.objs.size, data := o.data, slots := o.slots }).Ns h.objs.size (fun _ => none) :=
        ⟨_, #[], _, dg, rfl, (by intro e he; exact absurd he (by simp)), fun _ => rfl⟩
      refine put h.objs.size _ _ [] (Heap.Ns1.of_empty dn) Within.nil (by rw [sizeLine_eq]; decide) fun h' tk' n2 sb => ?_
      have gx : h'.get? x = some { cls := o.cls, dict := some h.objs.size, data := o.data, slots := o.slots } := by
        refine (sb.2 x hxs).trans (Heap.get?_update_self _ px ?_)
        have fr := (Heap.get?_some_iff.mp hx).2
        obtain ⟨oc, od, odt, osl⟩ := o
        cases odt <;> first | rfl | exact fr
      refine hq h' tk' ⟨_, gx, hc, hnc, .inr ⟨h.objs.size, rfl, hxs.symm, ?_⟩⟩ (fun b ob hbx _ hb => ?_) (fun o0 e0 => ?_)
      · have em : (fun y => if y = name then some v else mA y) = (fun y => if y = name then some v else (none : Option Value)) := by
          funext y
          by_cases hy : y = name
          · simp [hy]
          · simp [hy, hmA y]
        rw [em]; exact n2
      · exact (sb.2 b (Nat.ne_of_lt (Heap.lt_size hb))).trans ((Heap.get?_update_ne _ _ _ _ hbx).trans (Heap.get?_push_of_some _ hb))
      · rw [hx] at e0; cases e0
        exact ⟨_, gx, rfl, rfl, (by intro dx e; rw [hdn] at e; cases e), fun _ => rfl⟩
  · rw [hdx]
    refine wpAny_pure ?_
    refine put dx h mA ns hns hw hsz fun h' tk' n2 sb => ?_
    refine hq h' tk' ⟨o, (sb.2 x hne.symm).trans hx, hc, hnc, .inr ⟨dx, hdx, hne, n2⟩⟩ (fun b ob _ hbd hb => (sb.2 b (hbd o dx hx hdx)).trans hb) (fun o0 e0 => ⟨o0, (sb.2 x hne.symm).trans e0, rfl, rfl, fun _ e => e, fun e => ?_⟩)
    rw [hx] at e0; cases e0
    rw [hdx] at e; cases e
theorem xc_store {Q : Unit → Shared → Prop} {ns : List Str} (X : K.In h) (cx : xclsB K C = true) (hsa : PySem.W.findIn K (.ref C) "__setattr__" = some (some (.builtin "object.__setattr__"))) (hna : PySem.W.findIn K (.ref C) name = some none) (I : h.Inst x C mA)
    (hq : ∀ h' tk', h'.Inst x C (fun y => if y = name then some v else mA y) →
      (∀ b o, b ≠ x → (∀ o0 dx, h.get? x = some o0 → o0.dict = some dx → b ≠ dx) → h.get? b = some o → h'.get? b = some o) →
      (∀ o0, h.get? x = some o0 → ∃ o1, h'.get? x = some o1 ∧ o1.cls = o0.cls ∧ o1.data = o0.data ∧ (∀ dx, o0.dict = some dx → o1.dict = some dx) ∧ (o0.dict = none → o1.dict = some h.objs.size)) → Q () ⟨h', g, d, tk', os⟩)
    (hw : Within mA ns) (hsz : ns.length + 1 ≤ sizeLine) : wpAny (model prog w) A (setAttr (.ref x) name v) Q E ⟨h, g, d, t, os⟩ := by
  obtain ⟨o, hx, hc, _⟩ := id I
  have SF := PySem.F.store_ValueError
  have b3 := SF.slot.bind (.ref x)
  unfold setAttr callSpecial? specialOf
  repeat (any_goals (first | assumption | (with_reducible refine wpAny_loadPart_at hx ?_; rw [hc]) | with_reducible refine (looks_findIn X hsa).here ?_ | wp_step))
  refine codeAny_call_builtin SF.slot.plain SF.entry (xc_check_sa X cx hx hc (xc_store_entry X cx hna I (fun h' tk' I' hk hsame => ?_) hw hsz))
  repeat (any_goals (first | assumption | wp_step))
  exact hq h' tk' I' hk hsame
end
end L2
set_option Elab.async false
set_option linter.all false
set_option maxRecDepth 100000
set_option maxHeartbeats 2000000
namespace L2
open PySem PySem.Spec PyProof.Rows PySem.W
section
variable {prog : Program} {w : World} {A : Around} {E : Value → Shared → Prop} {h : Heap} {g : Array GenState} {d : Drawn} {t : Nat} {os : OsState} {K : PySem.W.Frag} {C x : Addr} {mA : Str → Option Value} {name : Str} {v : Value}
theorem xc_check_ga {M : Model} {o : Obj} {nameV : Value} {Q : Unit → Shared → Prop} (X : K.In h) (cx : xclsB K C = true) (hx : h.get? x = some o) (hc : o.cls = .ref C) (hq : Q () ⟨h, g, d, t, os⟩) :
    wpAny M A (checkBuiltinCall "BaseException.__getattribute__" ⟨[.ref x, nameV], []⟩) Q E ⟨h, g, d, t, os⟩ := by
  obtain ⟨nm, qn, N, bs, bm, sn, sub, ab, col, dd, k0, k1, k2, k3, k5, cC, T⟩ := xcls_of X cx
  have kd : builtinKind "BaseException.__getattribute__" = some .slot := by decide +kernel
  have sp : splitId "BaseException.__getattribute__" = some ("BaseException", "__getattribute__") := by decide +kernel
  have hob : (Value.ref C :: bm).contains (.type "BaseException") = true := by rw [List.contains_cons, T.hasType PySem.F.excBase_ValueError.hasBase]; rfl
  have ar := PySem.F.args_bexc_ga (.ref x) nameV
  simp only [checkBuiltinCall, kd, sp]
  refine wpAny_bind ?_
  unfold isInstance
  repeat (first | (with_reducible refine wpAny_loadPart_at hx ?_; rw [hc]) | (with_reducible refine wpAny_isSubtype_exc cC ?_; rw [hob]) | wp_step)
  exact hq
theorem xc_load_entry {tk : Tok} {Q : Fin → Shared → Prop} (X : K.In h) (cx : xclsB K C = true) (hna : PySem.W.findIn K (.ref C) name = some none) (I : h.Inst x C mA) (hv : mA name = some v) (hq : Q (.done (.ret v)) ⟨h, g, d, t, os⟩) :
    wpAny (model prog w) A (Builtin.«object.__getattribute__» ⟨[.ref x, .str name tk], []⟩) Q E ⟨h, g, d, t, os⟩ := by
  obtain ⟨nm, qn, N, bs, bm, sn, sub, ab, col, dd, k0, k1, k2, k3, k5, cC, T⟩ := xcls_of X cx
  obtain ⟨o, hx, hc, hnc, hd⟩ := I
  rcases hd with ⟨_, hmA⟩ | ⟨dx, hdx, hne, hns⟩
  · rw [hmA name] at hv; cases hv
  repeat (any_goals (first | assumption | (with_reducible refine wpAny_loadPart_at hx ?_; rw [hc]) | with_reducible refine (looks_findIn X hna).here ?_ | wp_step))
  split
  · rename_i c hcd
    exact absurd hcd (hnc c)
  unfold instanceDict
  repeat (first | (with_reducible refine wpAny_loadPart_at hx ?_; rw [hc]) | with_reducible refine wpAny_loadPart_at cC ?_ | wp_step)
  rw [hdx]
  repeat (first | (with_reducible refine wpAny_nsGet hns.ns ?_; rw [hv]) | wp_step)
  exact hq
theorem xc_load {expr : Bool} {Q : Value → Shared → Prop} (X : K.In h) (cx : xclsB K C = true) (hga : PySem.W.findIn K (.ref C) "__getattribute__" = some (some (.builtin "BaseException.__getattribute__"))) (hgh : PySem.W.findIn K (.ref C) "__getattr__" = some none)
    (hna : PySem.W.findIn K (.ref C) name = some none) (I : h.Inst x C mA) (hv : mA name = some v) (hh : handedOut v = pure v) (hq : Q v ⟨h, g, d, t + 1, os⟩) :
    wpAny (model prog w) A (getAttr (.ref x) name expr) Q E ⟨h, g, d, t, os⟩ := by
  obtain ⟨o, hx, hc, _⟩ := id I
  have FV := PySem.F.excAttr_ValueError
  have q3 := FV.ga.bind (.ref x)
  have e0 : (expr && onTheHeap (Value.builtin "BaseException.__getattribute__")) = false := by cases expr <;> rfl
  have e2 : (Value.builtin "BaseException.__getattribute__" == Value.builtin "object.__getattribute__") = false := by decide +kernel
  have e1 : (onTheHeap (Value.ref C) && Value.builtin "BaseException.__getattribute__" == Value.builtin "object.__getattribute__") = false := by rw [e2]; rfl
  unfold getAttr getAttrBy
  repeat (any_goals (first | assumption | (with_reducible refine wpAny_loadPart_at hx ?_; rw [hc]) | with_reducible refine (looks_findIn X hga).here ?_ | with_reducible refine (looks_findIn X hgh).here ?_ | wp_step))
  refine codeAny_call_builtin FV.ga.plain PySem.F.entry_bexc_ga (xc_check_ga X cx hx hc (xc_load_entry X cx hna I hv ?_))
  show wpAny _ _ (handedOut v) _ _ _
  rw [hh]
  exact wpAny_pure hq
end
end L2
set_option Elab.async false
set_option linter.all false
set_option maxRecDepth 100000
set_option maxHeartbeats 2000000
namespace L2
open PySem PySem.Spec PyProof.Rows PySem.W
/-- what isinstance asks of an own exception's class -/
structure XTy (K : PySem.W.Frag) (C : Addr) : Prop where
  cx : xclsB K C = true
  ga : PySem.W.findIn K (.ref C) "__getattribute__" = some (some (.builtin "BaseException.__getattribute__"))
  gh : PySem.W.findIn K (.ref C) "__getattr__" = some none
  hc : (PySem.W.clsIn K C).isSome = true
  ha : PySem.W.findIn K (.ref C) "__class__" = some (some (.builtin "object.__class__"))
  hn : PySem.W.specialIn K (.builtin "object.__class__") "__get__" = some (some (.builtin "getset_descriptor.__get__"))
  tk : PySem.W.takesIn K (.builtin "object.__class__") = some true
  hm : PySem.W.mroIn K C (.type "object") = some true
section
variable {prog : Program} {w : World} {A : Around} {E : Value → Shared → Prop} {s : Shared} {K : PySem.W.Frag} {x C : Addr} {ox : Obj} {od : Option Obj}
theorem XTy.find (T : XTy K C) : PySem.W.findObj K C od "__class__" = some (.bind (.builtin "getset_descriptor.__get__") (.builtin "object.__class__")) := by
  obtain ⟨cd, hc⟩ := Option.isSome_iff_exists.mp T.hc
  unfold PySem.W.findObj
  rw [hc, Option.bind_some, T.ha, Option.bind_some]
  simp [T.hn, T.tk]
theorem xc_class {Q : Option Value → Shared → Prop} (X : K.In s.heap) (T : XTy K C) (I : PySem.W.InstAt s.heap x ox C od) (q : Q (some (.ref C)) { s with toks := s.toks + 1 }) : wpAny (model prog w) A (getAttr? (.ref x) "__class__") Q E s := by
  obtain ⟨h, g, d, t, os⟩ := s
  replace X : K.In h := X
  replace I : PySem.W.InstAt h x ox C od := I
  have FV := PySem.F.excAttr_ValueError
  have q3 := FV.ga.bind (.ref x)
  have e0 : (false && onTheHeap (Value.builtin "BaseException.__getattribute__")) = false := rfl
  have hx := I.at_
  have hc := I.cls
  have e2 : (Value.builtin "BaseException.__getattribute__" == Value.builtin "object.__getattribute__") = false := by decide +kernel
  have e1 : (onTheHeap (Value.ref C) && Value.builtin "BaseException.__getattribute__" == Value.builtin "object.__getattribute__") = false := by rw [e2]; rfl
  unfold getAttr? getAttrBy? getAttrBy
  repeat (any_goals (first | assumption | (with_reducible refine wpAny_loadPart_at hx ?_; rw [hc]) | with_reducible refine (looks_findIn X T.ga).here ?_ | with_reducible refine (looks_findIn X T.gh).here ?_ | wp_step))
  refine codeAny_call_builtin FV.ga.plain PySem.F.entry_bexc_ga (xc_check_ga X T.cx hx hc ?_)
  unfold Builtin.«object.__getattribute__»
  repeat (any_goals (first | assumption | (with_reducible refine wpAny_loadPart_at hx ?_; rw [hc]) | with_reducible refine (looks_find X I T.find).here ?_ | wp_step))
  refine class_get (s := ⟨h, g, d, t + 1, os⟩) X I T.hm ?_
  show wpAny _ _ (ret (.ref C)) _ _ _
  refine wpAny_pure ?_
  show wpAny _ _ (handedOut (.ref C)) _ _ _
  exact handed_on rfl (wpAny_pure q)
/-- isinstance of an own exception -/
theorem kitx_xc (T : XTy K C) : KitX K (.ref x) (.ref C) (fun h => ∃ ox od, PySem.W.InstAt h x ox C od) where
  ty := fun _ _ _ ⟨_, _, I⟩ => I.type
  it := fun _ _ X _ => by
    obtain ⟨cd, hc⟩ := Option.isSome_iff_exists.mp T.hc
    unfold PySem.W.clsIn at hc
    split at hc
    · rename_i c' d' cd' sl' ho
      intro A' Q' E' s' k q
      unfold isType loadHead
      exact wpAny_bind (wpAny_loadPart (k _ _ (X _ _ ho)) (wpAny_pure q))
    · cases hc
  ne := fun h tp dd its n sl X htp => by
    obtain ⟨cd, hc⟩ := Option.isSome_iff_exists.mp T.hc
    refine Bool.eq_false_iff.mpr fun q => ?_
    have e : C = tp := Value.ref.inj (beq_iff_eq.mp q)
    subst e
    unfold PySem.W.clsIn at hc
    split at hc
    · rename_i c' d' cd' sl' ho
      have z := (X _ _ ho).symm.trans htp
      cases z
    · cases hc
  ca := fun X ⟨_, _, I⟩ k => xc_class X T I k
end
end L2
set_option Elab.async false
set_option linter.all false
set_option maxRecDepth 100000
set_option maxHeartbeats 2000000
namespace L2
open PySem PySem.Spec PyProof.Rows PySem.W
section
variable {X : Cx} {pins : List (Addr × Obj)} {σ : St} {H : Hp} {s : Shared} {h' : Heap} {a d : Addr} {oA oD : HO}
/-- two objects are written, the second one perhaps new -/
theorem Inv.two {t' : Nat} (I : Inv X pins σ H s) (ma : Mut (H a)) (md : Mut (H d) ∨ s.heap.objs.size ≤ d) (hne : d ≠ a) (k : ∀ b u, b ≠ a → b ≠ d → s.heap.get? b = some u → h'.get? b = some u) (ta : ∃ u, h'.get? a = some u) (td : ∃ u, h'.get? d = some u)
    (na : ObjOk X.prog X.w (upd (upd H d oD) a oA) h' a oA) (nd : ObjOk X.prog X.w (upd (upd H d oD) a oA) h' d oD) : Inv X pins σ (upd (upd H d oD) a oA) { s with heap := h', toks := t' } := by
  have up : ∀ b, b ≠ a → b ≠ d → upd (upd H d oD) a oA b = H b := fun b h1 h2 => by rw [upd_ne h1, upd_ne h2]
  have na0 : ∀ b, H b = none → b ≠ a := fun b n z => by subst z; rw [n] at ma; exact ma
  have nd0 : ∀ b u, s.heap.get? b = some u → H b = none → b ≠ d := fun b u e n z => by
    subst z
    rcases md with md | md
    · rw [n] at md; exact md
    · exact absurd (Nat.lt_of_lt_of_le (Heap.lt_size e) md) (Nat.lt_irrefl _)
  have ms : ∀ b u, H b = some u → ¬ Mut (some u) → b ≠ a ∧ b ≠ d := fun b u e nm => by
    refine ⟨?_, ?_⟩
    · rintro rfl; rw [e] at ma; exact nm ma
    · rintro rfl
      rcases md with md | md
      · rw [e] at md; exact nm md
      · have := I.hok.fresh md; rw [e] at this; cases this
  refine I.un ⟨fun b u e n _ _ => k b u (na0 b n) (nd0 b u e n) e, fun b u e n _ _ => ⟨u.slots, k b u (na0 b n) (nd0 b u e n) e⟩, fun b u e n _ => by rw [up b (na0 b n) (nd0 b u e n)]; exact n, fun b u e _ => ?_,
    fun b xs e => ?_, fun b u xs e => ?_, fun b ps e => ⟨#[], ?_⟩⟩ (fun b u e => ?_)
  · by_cases h1 : b = a
    · subst h1; exact ta
    · by_cases h2 : b = d
      · subst h2; exact td
      · exact ⟨u, k b u h1 h2 e⟩
  · obtain ⟨h1, h2⟩ := ms b _ e fun z => z
    rw [up b h1 h2]; exact e
  · obtain ⟨h1, h2⟩ := ms b _ e fun z => z
    rw [up b h1 h2]; exact e
  · obtain ⟨h1, h2⟩ := ms b _ e fun z => z
    rw [up b h1 h2, e]; simp
  · by_cases h1 : b = a
    · subst h1; rw [upd_same] at e; cases e; exact na
    · by_cases h2 : b = d
      · subst h2; rw [upd_ne h1, upd_same] at e; cases e; exact nd
      · rw [up b h1 h2] at e
        refine (I.hok b u e).stay (fun c v hc q => ?_) (fun c q => ?_) fun c xs q => ?_
        · rcases hc with rfl | hc
          · exact k _ _ h1 h2 q
          · obtain ⟨h3, h4⟩ := ms c _ hc fun z => z
            exact k _ _ h3 h4 q
        · obtain ⟨h3, h4⟩ := ms c _ q fun z => z
          rw [up c h3 h4]; exact q
        · obtain ⟨h3, h4⟩ := ms c _ q fun z => z
          rw [up c h3 h4]; exact q
def xObjQ (a C : Addr) (dx : Option Addr) : Heap → Prop := fun h => ∃ o vs, h.get? a = some o ∧ o.cls = .ref C ∧ o.dict = dx ∧ o.data = .fields vs
/-- .. one that was not raised yet -/
def xObjP (a C : Addr) (dx : Option Addr) : Heap → Prop := fun h => ∃ o vs, h.get? a = some o ∧ o.cls = .ref C ∧ o.dict = dx ∧ o.data = .fields vs ∧ vs[1]? = some .none
theorem xObjP.q {a C : Addr} {dx : Option Addr} {h : Heap} (x : xObjP a C dx h) : xObjQ a C dx h := by
  obtain ⟨o, vs, e, c, d, dt, _⟩ := x
  exact ⟨o, vs, e, c, d, dt⟩
def xDicP (a d : Addr) (fs : List (Str × V)) : Heap → Prop := fun h => d ≠ a ∧ fs.length ≤ 100 ∧ ∃ mA, h.Ns1 d mA ∧ (∀ f, RelO (fs.lookup f) (mA f)) ∧ PySem.Within mA (fs.map (·.1))
def XAt (H : Hp) (a C : Addr) (fs : List (Str × V)) : Prop := (fs = [] ∧ H a = some (.ext (xObjP a C none))) ∨ (∃ d, H a = some (.ext (xObjP a C (some d))) ∧ H d = some (.ext (xDicP a d fs))) ∨
  (fs = [] ∧ H a = some (.ext (xObjQ a C none))) ∨ (∃ d, H a = some (.ext (xObjQ a C (some d))) ∧ H d = some (.ext (xDicP a d fs)))
theorem XAt.obj {P : Program} {w : World} {H : Hp} {h : Heap} {a C : Addr} {fs : List (Str × V)} (ok : HOk P w H h) (x : XAt H a C fs) : (fs = [] ∧ xObjQ a C none h) ∨ ∃ d, xObjQ a C (some d) h ∧ xDicP a d fs h := by
  rcases x with ⟨e, h1⟩ | ⟨d, h1, h2⟩ | ⟨e, h1⟩ | ⟨d, h1, h2⟩
  · exact .inl ⟨e, (ok a _ h1).1.q⟩
  · exact .inr ⟨d, (ok a _ h1).1.q, (ok d _ h2).1⟩
  · exact .inl ⟨e, (ok a _ h1).1⟩
  · exact .inr ⟨d, (ok a _ h1).1, (ok d _ h2).1⟩
theorem xObjQ_ok {P : Program} {w : World} {H : Hp} {h : Heap} {a C : Addr} {dx : Option Addr} (x : xObjQ a C dx h) : ObjOk P w H h a (.ext (xObjQ a C dx)) := by
  obtain ⟨o, vs, e, r⟩ := x
  exact ⟨⟨o, vs, e, r⟩, ⟨o, e⟩, fun h1 h2 ⟨o, vs, e, r⟩ k => ⟨o, vs, k o e, r⟩⟩
theorem xObj_ok {P : Program} {w : World} {H : Hp} {h : Heap} {a C : Addr} {dx : Option Addr} (x : xObjP a C dx h) : ObjOk P w H h a (.ext (xObjP a C dx)) := by
  obtain ⟨o, vs, e, r⟩ := x
  exact ⟨⟨o, vs, e, r⟩, ⟨o, e⟩, fun h1 h2 ⟨o, vs, e, r⟩ k => ⟨o, vs, k o e, r⟩⟩
theorem xDic_ok {P : Program} {w : World} {H : Hp} {h : Heap} {a d : Addr} {fs : List (Str × V)} (x : xDicP a d fs h) : ObjOk P w H h d (.ext (xDicP a d fs)) := by
  obtain ⟨n, l, mA, ⟨o, es, ep, e, r⟩, r2⟩ := id x
  exact ⟨x, ⟨o, e⟩, fun h1 h2 ⟨n, l, mA, ⟨o, es, ep, e, r⟩, r2⟩ k => ⟨n, l, mA, ⟨o, es, ep, k o e, r⟩, r2⟩⟩
theorem XAt.inst {C : Addr} {fs : List (Str × V)} (x : XAt H a C fs) (I : Inv X pins σ H s) : ∃ mA, s.heap.Inst a C mA ∧ (∀ f, RelO (fs.lookup f) (mA f)) ∧ PySem.Within mA (fs.map (·.1)) ∧ fs.length ≤ 100 := by
  rcases x.obj I.hok with ⟨rfl, o, vs, e, c, dn, dt⟩ | ⟨d, ⟨o, vs, e, c, dn, dt⟩, n, l, mA, n1, r, wi⟩
  · exact ⟨fun _ => none, ⟨o, e, c, (by intro c z; rw [dt] at z; cases z), .inl ⟨dn, fun _ => rfl⟩⟩, fun f => trivial, PySem.Within.nil, by simp⟩
  · exact ⟨mA, ⟨o, e, c, (by intro c z; rw [dt] at z; cases z), .inr ⟨d, dn, n, n1⟩⟩, r, wi, l⟩
end
theorem XAt.same {H H' : Hp} {a C : Addr} {fs : List (Str × V)} (s : ∀ b o, H b = some o → H' b = some o) (x : XAt H a C fs) : XAt H' a C fs := by
  rcases x with ⟨e, h1⟩ | ⟨d, h1, h2⟩ | ⟨e, h1⟩ | ⟨d, h1, h2⟩
  · exact .inl ⟨e, s _ _ h1⟩
  · exact .inr (.inl ⟨d, s _ _ h1, s _ _ h2⟩)
  · exact .inr (.inr (.inl ⟨e, s _ _ h1⟩))
  · exact .inr (.inr (.inr ⟨d, s _ _ h1, s _ _ h2⟩))
end L2
set_option Elab.async false
set_option linter.all false
set_option maxRecDepth 100000
set_option maxHeartbeats 2000000
namespace L2
open PySem PySem.Spec PyProof.Rows PySem.W
/-- a class of refusals: its __init__ (its own one, or none), what it does not have itself -/
structure XOk (K : PySem.W.Frag) (C : Addr) : Prop extends XTy K C where
  sa : PySem.W.findIn K (.ref C) "__setattr__" = some (some (.builtin "object.__setattr__"))
def NoF (K : PySem.W.Frag) (C : Addr) (f : Str) : Prop := PySem.W.findIn K (.ref C) f = some none
/-- an own exception by its dict's address -/
def XD (H : Hp) (a C : Addr) (dx : Option Addr) (fs : List (Str × V)) : Prop := (dx = none ∧ fs = [] ∧ H a = some (.ext (xObjP a C none))) ∨ ∃ d, dx = some d ∧ H a = some (.ext (xObjP a C (some d))) ∧ H d = some (.ext (xDicP a d fs))
theorem XD.xat {H : Hp} {a C : Addr} {dx : Option Addr} {fs : List (Str × V)} (x : XD H a C dx fs) : XAt H a C fs := by
  rcases x with ⟨_, e, h⟩ | ⟨d, _, h1, h2⟩
  · exact .inl ⟨e, h⟩
  · exact .inr (.inl ⟨d, h1, h2⟩)
/-- behind a store at a: its dict is d, as it was or new; all else that was held is as it was -/
structure SetX (a d : Addr) (dx : Option Addr) (H H' : Hp) : Prop where
  dd : dx = some d ∨ (dx = none ∧ H d = none)
  kp : ∀ b o, H b = some o → b ≠ a → b ≠ d → H' b = some o
section
variable {X : Cx} {pins : List (Addr × Obj)} {σ : St} {H : Hp} {s : Shared} {a C : Addr} {dx : Option Addr} {fs : List (Str × V)} {f : Str} {v : V} {u : Value}
theorem dic_put {d : Addr} {h' : Heap} {mA : Str → Option Value} (hne : d ≠ a) (hl : fs.length < 100) (n1 : h'.Ns1 d fun y => if y = f then some u else mA y) (r : ∀ g, RelO (fs.lookup g) (mA g)) (wi : PySem.Within mA (fs.map (·.1))) (rv : RelV v u) : xDicP a d (putF f v fs) h' := by
  refine ⟨hne, by have := length_putF f v fs; omega, _, n1, fun g => ?_, fun g hg => ?_⟩
  · rw [lookup_putF]
    by_cases q : g = f
    · simp only [q, if_true]; exact rv
    · simp only [q, if_false]; exact r g
  · by_cases q : g = f
    · subst q; exact (keys_putF g v fs).1
    · exact (keys_putF f v fs).2 g (wi g fun z => hg (by simp only [q, if_false]; exact z))
theorem setx_ok {E : Value → Shared → Prop} {Q : Unit → Shared → Prop} (I : Inv X pins σ H s) (x : XD H a C dx fs) (c : XOk X.K C) (n : NoF X.K C f) (hl : fs.length < 100) (rv : RelV v u)
    (k : ∀ d H' s', Inv X pins σ H' s' → XD H' a C (some d) (putF f v fs) → SetX a d dx H H' → Q () s') : wpAny (model X.prog X.w) X.A (setAttr (.ref a) f u) Q E s := by
  obtain ⟨mA, inst, r, wi, l⟩ := x.xat.inst I
  have kin := I.kIn
  obtain ⟨hh, g, dr, t, os⟩ := s
  refine xc_store kin c.cx c.sa n inst (fun h' tk' inst' keep same => ?_) wi (by rw [List.length_map, sizeLine_eq]; omega)
  rcases x with ⟨rfl, rfl, h1⟩ | ⟨d, rfl, h1, h2⟩
  · obtain ⟨⟨o, vs, e, cc, dn, dt, rw1⟩, _⟩ := I.hok a _ h1
    obtain ⟨o1, e1, c1, d1, _, dd1⟩ := same o e
    have dd := dd1 dn
    obtain ⟨o2, e2, _, _, ⟨z, _⟩ | ⟨d2, z, ne2, n2⟩⟩ := inst'
    · rw [e1] at e2; cases e2; rw [dd] at z; cases z
    · rw [e1] at e2; cases e2
      rw [dd] at z; cases z
      have fr : H hh.objs.size = none := I.hok.fresh (Nat.le_refl _)
      have px := dic_put (a := a) (v := v) ne2 hl n2 r wi rv
      have po : xObjP a C (some hh.objs.size) h' := ⟨o1, vs, e1, c1.trans cc, dd, d1.trans dt, rw1⟩
      refine k hh.objs.size (upd (upd H hh.objs.size (.ext (xDicP a hh.objs.size (putF f v [])))) a (.ext (xObjP a C (some hh.objs.size)))) _ (Inv.two I (by rw [h1]; exact True.intro) (.inr (Nat.le_refl _)) ne2 (fun b ob hb hb2 q => keep b ob hb (fun o0 dx q0 q1 => ?_) q) ⟨_, e1⟩ (let ⟨o, _, _, q, _⟩ := n2; ⟨o, q⟩) (xObj_ok po) (xDic_ok px)) (.inr ⟨_, rfl, upd_same, by rw [upd_ne ne2]; exact upd_same⟩) ⟨.inr ⟨rfl, fr⟩, fun b o hb hba _ => ?_⟩
      · have q0' : hh.get? a = some o0 := q0
        have e' : hh.get? a = some o := e
        rw [e'] at q0'; cases q0'
        rw [dn] at q1; cases q1
      · rw [upd_ne hba, upd_ne (ne_of_none hb fr)]; exact hb
  · obtain ⟨⟨o, vs, e, cc, dn, dt, rw1⟩, _⟩ := I.hok a _ h1
    obtain ⟨o1, e1, c1, d1, dd1, _⟩ := same o e
    have dd := dd1 d dn
    obtain ⟨⟨ne0, _⟩, _⟩ := I.hok d _ h2
    obtain ⟨o2, e2, _, _, ⟨z, _⟩ | ⟨d2, z, ne2, n2⟩⟩ := inst'
    · rw [e1] at e2; cases e2; rw [dd] at z; cases z
    · rw [e1] at e2; cases e2
      rw [dd] at z; cases z
      have px := dic_put (a := a) (v := v) ne2 hl n2 r wi rv
      have po : xObjP a C (some d) h' := ⟨o1, vs, e1, c1.trans cc, dd, d1.trans dt, rw1⟩
      refine k d (upd (upd H d (.ext (xDicP a d (putF f v fs)))) a (.ext (xObjP a C (some d)))) _ (Inv.two I (by rw [h1]; exact True.intro) (.inl (by rw [h2]; exact True.intro)) ne2 (fun b ob hb hb2 q => keep b ob hb (fun o0 dx q0 q1 => ?_) q) ⟨_, e1⟩ (let ⟨o, _, _, q, _⟩ := n2; ⟨o, q⟩) (xObj_ok po) (xDic_ok px)) (.inr ⟨_, rfl, upd_same, by rw [upd_ne ne2]; exact upd_same⟩) ⟨.inl rfl, fun b o hb hba hbd => ?_⟩
      · have q0' : hh.get? a = some o0 := q0
        have e' : hh.get? a = some o := e
        rw [e'] at q0'; cases q0'
        rw [dn] at q1; cases q1
        exact hb2
      · rw [upd_ne hba, upd_ne hbd]; exact hb
theorem getx_ok {b : Bool} {E : Value → Shared → Prop} {Q : Value → Shared → Prop} (I : Inv X pins σ H s) (x : XAt H a C fs) (c : XOk X.K C) (n : NoF X.K C f) (l : fs.lookup f = some v) (k : ∀ u s', Inv X pins σ H s' → RelV v u → Q u s') :
    wpAny (model X.prog X.w) X.A (getAttr (.ref a) f b) Q E s := by
  obtain ⟨mA, inst, r, wi, _⟩ := x.inst I
  obtain ⟨u, hu, ru⟩ := RelO.some_of (v := v) (o := mA f) (by rw [← l]; exact r f)
  have kin := I.kIn
  have kk := k u _ (I.tok (s.toks + 1)) ru
  obtain ⟨hh, g, dr, t, os⟩ := s
  exact xc_load kin c.cx c.ga c.gh n inst hu (handedOut_of (handed_of ru)) kk
variable {o e value : Expr} {pos pos' p : Pos} {ta tv : TE}
def tXFld (K : PySem.W.Frag) (ta : TE) (f : Str) : TE := fun σ H Q => ta σ H fun x H1 => ∃ a C fs v, x = .ref a ∧ XAt H1 a C fs ∧ XOk K C ∧ NoF K C f ∧ fs.lookup f = some v ∧ Q v H1
theorem pe_xfld (he : PE X e ta) (hb : attributeBase e f X.env (eval e X.env) = eval e X.env := by rfl) : PE X (.Attribute e f pos) (tXFld X.K ta f) := by
  intro pins s σ H Q I h
  refine attr_of hb (thn (he pins s σ H _ I h) fun u s1 ⟨x, H1, I1, rx, a, C, fs, v, ex, ea, c, n, l, q⟩ => ?_)
  subst ex
  obtain rfl : u = Value.ref a := rx
  exact getx_ok I1 ea c n l fun u' s2 I2 ru => ⟨v, H1, I2, ru, q⟩
def sXFld (K : PySem.W.Frag) (ta tv : TE) (f : Str) : TS := fun D σ H => tv σ H fun y H1 => ta σ H1 fun x H2 => ∃ a C dx fs, x = .ref a ∧ XD H2 a C dx fs ∧ XOk K C ∧ NoF K C f ∧ fs.length < 100 ∧ ∀ d H3, XD H3 a C (some d) (putF f y fs) → SetX a d dx H2 H3 → D.nx σ H3
theorem ps_xfld (ha : PE X o ta) (hv : PE X value tv) (hs : swapsWith value (some (.Attribute o f pos')) pos.line X.env = pure false := by rfl) : PS X (.Assign [.Attribute o f pos'] value pos) (sXFld X.K ta tv f) := by
  intro pins s σ H D I h
  refine plainObj_wpAny_Assign_Attribute (thn (hv pins s σ H _ I h) fun u s1 ⟨y, H1, I1, ry, q⟩ => thn (ha pins s1 σ H1 _ I1 q) fun ov s2 ⟨x, H2, I2, rx, a, C, dx, fs, ex, ea, c, n, l, q2⟩ => ?_) hs
  subst ex
  obtain rfl : ov = Value.ref a := rx
  exact setx_ok I2 ea c n l ry fun d H3 s3 I3 x3 sm => ⟨σ, H3, I3, q2 d H3 x3 sm⟩
end
end L2
set_option Elab.async false
set_option linter.all false
set_option maxRecDepth 100000
set_option maxHeartbeats 2000000
namespace L2
open PySem PySem.Spec PyProof.Rows PySem.W
theorem ObjOk.ex {P : Program} {w : World} {H : Hp} {h : Heap} {a : Addr} {o : HO} (x : ObjOk P w H h a o) : ∃ u, h.get? a = some u := by
  cases o with
  | lst xs => obtain ⟨_, _, _, _, e⟩ := x; exact ⟨_, e⟩
  | tup xs => obtain ⟨_, _, _, ob, e, _⟩ := x; exact ⟨_, e⟩
  | dK kvs => obtain ⟨_, _, _, _, o, _, _, e, _⟩ := x; exact ⟨_, e⟩
  | dT kvs => obtain ⟨_, _, _, _, o, _, _, e, _⟩ := x; exact ⟨_, e⟩
  | set S n => obtain ⟨o, _, _, _, e, _⟩ := x; exact ⟨_, e⟩
  | ins C dx fs => obtain ⟨_, _, _, e, _⟩ := x; exact ⟨_, e⟩
  | own y => exact x
  | xd fs => obtain ⟨_, ⟨_, _, _, e, _⟩, _⟩ := x; exact ⟨_, e⟩
  | rng lo hi => obtain ⟨_, _, _, e⟩ := x; exact ⟨_, e⟩
  | frz ob u => obtain ⟨e, _⟩ := x; exact ⟨_, e⟩
  | tbl ps => exact ⟨_, show h.get? a = some _ from x⟩
  | met f y => exact ⟨_, show h.get? a = some _ from x⟩
  | ext φ => exact x.2.1
section
variable {X : Cx} {pins : List (Addr × Obj)} {σ : St} {H : Hp} {s : Shared} {h' : Heap} {a C : Addr} {oA : HO}
/-- a new object at an address that bore none -/
theorem Inv.laidN {t' : Nat} (I : Inv X pins σ H s) (k : ∀ b u, s.heap.get? b = some u → h'.get? b = some u) (hn : s.heap.get? a = none) (new : ObjOk X.prog X.w (upd H a oA) h' a oA) : H a = none ∧ Inv X pins σ (upd H a oA) { s with heap := h', toks := t' } := by
  have hH : H a = none := by
    cases q : H a with
    | none => rfl
    | some u => obtain ⟨w, e⟩ := (I.hok a u q).ex; rw [hn] at e; cases e
  have nb : ∀ b u, s.heap.get? b = some u → b ≠ a := fun b u e z => by rw [z, hn] at e; cases e
  refine ⟨hH, I.un ⟨fun b u e _ _ _ => k b u e, fun b u e _ _ _ => ⟨u.slots, k b u e⟩, fun b u e n _ => by rw [upd_ne (nb b u e)]; exact n, fun b u e _ => ⟨u, k b u e⟩, fun b xs e => by rw [upd_ne (ne_of_none e hH)]; exact e,
    fun b u xs e => by rw [upd_ne (ne_of_none e hH)]; exact e, fun b ps e => ⟨#[], by rw [upd_ne (ne_of_none e hH), e]; simp⟩⟩ fun b u e => ?_⟩
  by_cases hb : b = a
  · subst hb; rw [upd_same] at e; cases e; exact new
  · rw [upd_ne hb] at e
    exact (I.hok b u e).stay (fun c v _ q => k c v q) (fun c q => by rw [upd_ne (ne_of_none q hH)]; exact q) fun c xs q => by rw [upd_ne (ne_of_none q hH)]; exact q
theorem Inv.madeX {rest : List Value} {t' : Nat} (I : Inv X pins σ H s) (m : Heap.MadeExcOf s.heap h' a (.ref C) rest) : H a = none ∧ Inv X pins σ (upd H a (.ext (xObjP a C none))) { s with heap := h', toks := t' } := by
  obtain ⟨tt, e, _⟩ := m.there
  exact I.laidN m.keeps m.new (xObj_ok ⟨_, _, e, rfl, rfl, rfl, rfl⟩)
variable {x : Str} {e : Expr} {es : List Expr} {p pos : Pos} {t : TA}
/-- C(..) of a class of refusals without an __init__ of its own -/
def tXMake0 (C : Addr) (t : TA) : TE := fun σ H Q => t σ H fun vs H1 => vs.length ≤ sizeLine ∧ ∀ a, H1 a = none → Q (.ref a) (upd H1 a (.ext (xObjP a C none)))
theorem pe_xmake0 (q : PySem.W.excIn X.K C bmV "ValueError.__new__" = true) (kp : PySem.W.keepIn X.K (.ref C) = true) (hg : Gl X x) (hm : X.mg x = some (.ref C)) (ha : PA X (e :: es) t) (hdb : (x == ("__debug__" : Str)) = false := by decide)
    (he : starEach (e :: es) X.env = (false, eval e X.env) :: starEach es X.env := by rfl) (hpl : (backTo pos (starEach es X.env)).any (·.1) = false := by rfl) : PE X (.Call (.Name x p) (e :: es) [] pos) (tXMake0 C t) := by
  intro pins s σ H Q I h
  refine wpAny_Call_Name_kw (ld_glob I hg hm ?_ hdb)
  refine PySem.W.callWith_K (h₀ := X.base) I.ok.mod.kin kp (thn (ha pos pins s σ H _ I h) fun us s1 ⟨vs, H1, I1, r, hl, hq⟩ => ⟨I1.kIn, ?_⟩) he hpl
  have kin := I1.kIn
  obtain ⟨hh, g, dr, tk, os⟩ := s1
  refine xc_call0 kin q (fun h2 a m => ?_) (by rw [List.nil_append, ← r.length]; exact hl)
  obtain ⟨hn, I2⟩ := Inv.madeX (t' := tk) I1 m
  exact ⟨.ref a, _, I2, rfl, hq a hn⟩
variable {k : Nat} {f : Addr} {fd : FuncData} {ps : List Str} {sp : Sp}
/-- .. with one, by its promise -/
def tXMake (C : Addr) (sp : Sp) (t : TA) : TE := fun σ H Q => t σ H fun vs H1 => vs.length ≤ sizeLine ∧ ∀ a, H1 a = none → sp (.ref a :: vs) (upd H1 a (.ext (xObjP a C none))) (fun v H2 => v = .non ∧ Q (.ref a) H2) E0
theorem pe_xmake (c : XOk X.K C) (hi : PySem.W.findIn X.K (.ref C) "__init__" = some (some (.ref f))) (hf : PySem.W.isFn X.K (.ref f) = true) (F : FnOk X.prog X.w X.K X.mg X.base CX0 k f fd ps sp) (hr : Room (k + 1) X.A) (hb : Binds X.K fd ps []) (kp : PySem.W.keepIn X.K (.ref C) = true)
    (hg : Gl X x) (hm : X.mg x = some (.ref C)) (ha : PA X (e :: es) t) (hdb : (x == ("__debug__" : Str)) = false := by decide)
    (he : starEach (e :: es) X.env = (false, eval e X.env) :: starEach es X.env := by rfl) (hpl : (backTo pos (starEach es X.env)).any (·.1) = false := by rfl) : PE X (.Call (.Name x p) (e :: es) [] pos) (tXMake C sp t) := by
  intro pins s σ H Q I h
  refine wpAny_Call_Name_kw (ld_glob I hg hm ?_ hdb)
  refine PySem.W.callWith_K (h₀ := X.base) I.ok.mod.kin kp (thn (ha pos pins s σ H _ I h) fun us s1 ⟨vs, H1, I1, r, hl, hq⟩ => ⟨I1.kIn, ?_⟩) he hpl
  have kin := I1.kIn
  obtain ⟨hh, g, dr, tk, os⟩ := s1
  refine xc_call kin c.cx hi hf (fun h2 a m => ?_) (by rw [List.nil_append, ← r.length]; exact hl)
  obtain ⟨hn, I2⟩ := Inv.madeX (t' := tk) I1 m
  have hsp := hq a hn
  have r2 : Vals (V.ref a :: vs) (Value.ref a :: us) := .cons rfl r
  have hlen : (Value.ref a :: us).length = ps.length := by rw [← r2.length]; exact F.len _ _ _ _ hsp
  have hlen2 : ((Value.ref a :: us) ++ []).length = ps.length := by rw [List.append_nil]; exact hlen
  have bb := hb _ (Value.ref a :: us) I2.kIn hlen2
  rw [List.append_nil] at bb
  refine wpAny_call (codeAny_mono (F.run _ X.stack _ _ ⟨Value.ref a :: us, []⟩ (Value.ref a :: us) _ _ E0 (hr.make C us []) (I2.env0.make C us []) bb r2 hsp) fun r s' hq' => ?_)
  cases r with
  | error e => exact hq'.elim
  | ok fl =>
    cases fl with
    | ret u =>
      obtain ⟨v, H', I3, rv, ev, q3⟩ := I2.after hq'
      subst ev
      exact ⟨rv, ⟨V.ref a, H', I3, rfl, q3⟩⟩
    | next => exact False.elim hq'
    | brk => exact False.elim hq'
    | cont => exact False.elim hq'
/-- isinstance of a refusal that is held -/
theorem XAt.at {fs : List (Str × V)} (x : XAt H a C fs) (I : Inv X pins σ H s) : ∃ ox od, PySem.W.InstAt s.heap a ox C od := by
  rcases x.obj I.hok with ⟨rfl, o, vs, e, c, dn, dt⟩ | ⟨d, ⟨o, vs, e, c, dn, dt⟩, n, l, mA, ⟨od, _, _, ed, _⟩, r, wi⟩
  · exact ⟨o, none, e, c, by unfold PySem.W.notCls; rw [dt], by rw [dn]; trivial⟩
  · exact ⟨o, some od, e, c, by unfold PySem.W.notCls; rw [dt], by rw [dn]; exact ed⟩
def vcls : V → Value
  | .ref c => .ref c
  | .ty n => .type n
  | _ => .none
def rIsiX (K : PySem.W.Frag) : List V → Hp → VK → Prop := fun xs H Q => ∃ a C fs c b, xs = [.ref a, c] ∧ ((∃ d, c = .ref d) ∨ ∃ n, c = .ty n) ∧ XAt H a C fs ∧ XTy K C ∧ PySem.W.kitOne K (.ref C) (vcls c) = some b ∧ Q (.bl b) H
theorem call_isiX : CallR X (.builtin "isinstance") (rIsiX X.K) := by
  intro pins s σ H xs us Q I r h
  obtain ⟨a, C, fs, c, b, rfl, hc, hx, T, hk, q⟩ := h
  cases r with
  | cons r rr =>
    cases rr with
    | cons r' rr =>
      cases rr
      cases r
      have hcv : ∃ cv, vcls c = cv ∧ RelV c cv := by
        rcases hc with ⟨d, rfl⟩ | ⟨n, rfl⟩
        · exact ⟨_, rfl, rfl⟩
        · exact ⟨_, rfl, rfl⟩
      obtain ⟨cv, e1, e2⟩ := hcv
      rw [e1] at hk
      rename_i u2
      have e3 : u2 = cv := by
        rcases hc with ⟨d, rfl⟩ | ⟨n, rfl⟩
        · exact (show u2 = Value.ref d from r').trans (show cv = Value.ref d from e2).symm
        · exact (show u2 = Value.type n from r').trans (show cv = Value.type n from e2).symm
      subst e3
      exact PySem.W.kia_one (kitx_xc T) I.kIn (hx.at I) hk (fun z => nomatch z) fun tk => ⟨.bl b, H, I.tok _, rfl, q⟩
end
end L2
set_option Elab.async false
set_option linter.all false
set_option maxRecDepth 100000
namespace L2
open PySem PySem.Spec PyProof.Rows
theorem Vals.bls : ∀ {bs : List Bool} {us : List Value}, Vals (bs.map V.bl) us → us = bs.map Value.bool
  | [], _, .nil => rfl
  | b :: bs, _, .cons r t => by
    have e := Vals.bls t
    cases r
    rw [e]
    rfl
def isB (b : Bool) : Value → Bool
  | .bool c => c == b
  | _ => false
theorem isB_count (b : Bool) (bs : List Bool) : (bs.map Value.bool).countP (isB b) = bs.count b := by
  rw [List.countP_map]
  rfl
theorem isB_at {A : Around} {s : Shared} (b : Bool) (bs : List Bool) : ∀ y, y ∈ (bs.map Value.bool).toArray → SeqAt.EqAt A s y (.bool b) (isB b y) := by
  intro y hy
  obtain ⟨c, _, e⟩ := List.mem_map.mp (by simpa using hy : y ∈ bs.map Value.bool)
  subst e
  exact SeqAt.EqAt.bool_bool c b
section
variable {X : Cx}
def rCountB : V → List V → Hp → VK → Prop := fun x vs H Q => ∃ (l : Addr) (bs : List Bool) (b : Bool), x = .ref l ∧ vs = [.bl b] ∧ H l = some (.lst (bs.map V.bl)) ∧ Q (.int (bs.count b : Nat)) H
theorem mt_countB : MtM X "list.count" rCountB := by
  intro pins s σ H x vs v us Q I rx rv h
  obtain ⟨l, bs, b, rfl, rfl, hH, q⟩ := h
  cases rx
  obtain ⟨u, rfl, ru⟩ := rv.one
  cases ru
  obtain ⟨z, its, n, r, hl, e⟩ := I.lstM hH
  have hi := r.bls
  subst hi
  refine call_meets F.slot_list_count ⟨_, e, rfl⟩ F.entry_list_count (F.args_list_count_2 _ _) (SeqAt.list_countAt l _ n _ _ (.bool b) (isB b)) ⟨e, isB_at b bs, ?_⟩
  rw [List.toList_toArray, isB_count]
  exact ⟨.int (bs.count b : Nat), _, I.tok _, ⟨_, rfl⟩, q⟩
def rIndexB : V → List V → Hp → VK → Prop := fun x vs H Q => ∃ (l : Addr) (bs : List Bool) (b : Bool) (j : Nat), x = .ref l ∧ vs = [.bl b] ∧ H l = some (.lst (bs.map V.bl)) ∧ bs[j]? = some b ∧ (∀ m, m < j → bs[m]? ≠ some b) ∧ Q (.int (j : Nat)) H
theorem mt_indexB : MtM X "list.index" rIndexB := by
  intro pins s σ H x vs v us Q I rx rv h
  obtain ⟨l, bs, b, j, rfl, rfl, hH, hj, hno, q⟩ := h
  cases rx
  obtain ⟨u, rfl, ru⟩ := rv.one
  cases ru
  obtain ⟨z, its, n, r, hl, e⟩ := I.lstM hH
  have hi := r.bls
  subst hi
  obtain ⟨hjl, hjb⟩ := List.getElem?_eq_some_iff.mp hj
  rw [List.length_map] at z
  have hz : (sizeLine : Nat) < 2 ^ 63 - 1 := by decide
  refine call_meets F.slot_list_index ⟨_, e, rfl⟩ F.entry_list_index (F.args_list_index_2 _ _)
    (SeqAt.list_indexAt l _ n _ _ (.bool b) (isB b) j (by rw [List.size_toArray, List.length_map]; exact hjl) (by omega) ?_ fun m hm hlt => ?_) ⟨e, isB_at b bs, ⟨.int (j : Nat), _, I.tok _, ⟨_, rfl⟩, q⟩⟩
  · rw [List.getElem_toArray, List.getElem_map]
    show (bs[j] == b) = true
    rw [hjb]
    exact beq_self_eq_true b
  · rw [List.getElem_toArray, List.getElem_map]
    show (bs[m] == b) = false
    refine beq_eq_false_iff_ne.mpr fun q => hno m hlt ?_
    rw [List.getElem?_eq_getElem (by omega), q]
end
end L2
set_option linter.all false
namespace Mx
open PySem L2 PyProof.Rows
section
variable {X : Cx} {es : List Expr} {te : TE} {t : TA} {pos : Pos}
theorem pa_cs {k : Const} {j} (ha : PE X (.Constant k j pos) te) (hr : PA X es t) : PA X (.Constant k j pos :: es) (tCons te t) := pa_cons ha hr rfl
theorem pa_nm {x : Str} (ha : PE X (.Name x pos) te) (hr : PA X es t) : PA X (.Name x pos :: es) (tCons te t) := pa_cons ha hr rfl
theorem pa_cl {f xs ks} (ha : PE X (.Call f xs ks pos) te) (hr : PA X es t) : PA X (.Call f xs ks pos :: es) (tCons te t) := pa_cons ha hr rfl
def strsOf : List Expr → Option (List Str)
  | [] => some []
  | .Constant (.str x) _ _ :: r => (strsOf r).map (x :: ·)
  | _ => none
theorem pa_strs {X : Cx} : ∀ {es : List Expr} {xs : List Str}, strsOf es = some xs → PA X es (fun _ H Q => Q (xs.map V.str) H)
  | [], xs, h => by
    cases h
    exact pa_nil
  | .Constant (.str x) j p :: r, xs, h => by
    rw [strsOf] at h
    obtain ⟨ys, hy, rfl⟩ := Option.map_eq_some_iff.mp h
    exact pa_cs pe_str (pa_strs hy)
def tStrs (xs : List Str) : TE := fun _ H Q => xs.length ≤ sizeLine ∧ ∀ p, H p = none → Q (.ref p) (upd H p (.lst (xs.map V.str)))
theorem pe_strs {xs : List Str} (h : strsOf es = some xs) : PE X (.List es pos) (tStrs xs) := by
  intro pins s σ H Q I hq
  refine pe_lst (pa_strs h) pins s σ H Q I ?_
  exact ⟨by rw [List.length_map]; exact hq.1, hq.2⟩
end
structure QS (X : Cx) (st : Stmt) (t : TS) : Prop where
  of : PS X st t
structure QSs (X : Cx) (ss : List Stmt) (t : TS) : Prop where
  of : PSs X ss t
section
variable {X : Cx} {st : Stmt} {rest a b : List Stmt} {t u : TS} {pos : Pos} {e : Expr} {te : TE}
theorem qss_lit {ss : List Stmt} (h : ss = st :: rest) (p : QSs X (st :: rest) t) : PSs X ss t := h ▸ p.of
theorem qss_nil : QSs X [] tNext := ⟨pss_nil⟩
theorem qss_one (h : QS X st t) : QSs X [st] t := ⟨pss_one h.of⟩
theorem qss_cons (h : QS X st t) (r : QSs X rest u) : QSs X (st :: rest) (tSeq t u) := ⟨pss_cons h.of r.of⟩
theorem qss_cut (h : QS X st t) (r : QSs X rest u) : QSs X (st :: rest) (tCut t u) := ⟨pss_cut h.of r.of⟩
theorem qs_of (h : PS X st t) : QS X st t := ⟨h⟩
theorem qs_if {c : Expr} {tc : TT} (hc : PT X c tc) (ha : QSs X a t) (hb : QSs X b u) : QS X (.If c a b pos) (tIfS tc t u) := ⟨ps_if hc ha.of hb.of⟩
theorem qs_ret (he : PE X e te) : QS X (.Return (some e) pos) (tRet te) := ⟨ps_ret he⟩
theorem qs_set {i : Nat} {x : Str} {pos' : Pos} (hN : X.N.Nodup) (hi : X.N[i]? = some x) (hx : Loc X.env.scope x) (he : PE X e te) (hs : swapsWith e (some (.Name x pos')) pos.line X.env = pure false := by rfl) (hf : X.fn x = true ∨ X.env.scope.names.lookup x = some .local := by first | exact .inl rfl | exact .inr rfl | assumption) :
    QS X (.Assign [.Name x pos'] e pos) (tAsg te (gName i)) := ⟨ps_set hN hi hx he hs hf⟩
theorem qs_strs {es : List Expr} {p2 pos' : Pos} {i : Nat} {x : Str} {xs : List Str} (hN : X.N.Nodup) (hi : X.N[i]? = some x) (hx : Loc X.env.scope x) (h : strsOf es = some xs) (hf : X.fn x = true ∨ X.env.scope.names.lookup x = some .local := by first | exact .inl rfl | exact .inr rfl | assumption) :
    QS X (.Assign [.Name x pos'] (.List es p2) pos) (tAsg (tStrs xs) (gName i)) := ⟨ps_set hN hi hx (pe_strs h) rfl hf⟩
end
end Mx
set_option Elab.async false
set_option linter.all false
set_option maxRecDepth 100000
namespace L2
open PySem PySem.Spec PyProof.Rows PySem.Builtin PySem.Builtin.Str PySem.StrLaws
theorem Vals.strs : ∀ {ys : List Str} {us : List Value}, Vals (ys.map V.str) us → StrsAre us ys
  | [], _, .nil => .nil
  | y :: ys, _, .cons r t => by
    obtain ⟨k, rfl⟩ := r
    exact .cons y k (Vals.strs t)
section
variable {X : Cx}
def rJoin : V → List V → Hp → VK → Prop := fun x vs H Q => ∃ (sep : Str) (l : Addr) (ys : List Str), x = .str sep ∧ vs = [.ref l] ∧ H l = some (.lst (ys.map V.str)) ∧ (ys.map (·.length)).sum + ys.length * sep.length ≤ 16777216 ∧ Q (.str (Str.join sep ys)) H
theorem mt_join : MtM X "str.join" rJoin := by
  intro pins s σ H x vs v us Q I rx rv h
  obtain ⟨sep, l, ys, rfl, rfl, hH, z, q⟩ := h
  obtain ⟨k, rfl⟩ := rx
  obtain ⟨u, rfl, ru⟩ := rv.one
  cases ru
  obtain ⟨_, its, n, r, hl, e⟩ := I.lstM hH
  refine join_list (items := its.toArray) ⟨_, e, rfl, n, rfl⟩ r.strs z fun t' k' => ?_
  rw [show Txt.join sep ys = Str.join sep ys from glued_eq_join sep ys]
  exact ⟨.str (Str.join sep ys), H, I.tok _, ⟨_, rfl⟩, q⟩
end
end L2
set_option Elab.async false
set_option linter.all false
set_option maxRecDepth 100000
namespace L2
open PySem PySem.Spec PyProof.Rows PyProof.Rows.KTD
section
variable {prog : Program} {w : World} {A : Around} {E : Value → Shared → Prop} {s : Shared} {a : Addr} {k : Str} {tk : Tok} {o : Obj} {es : Array DictEntry} {ep : Nat}
end
section
variable {X : Cx} {pins : List (Addr × Obj)} {σ : St} {H : Hp} {s : Shared} {a : Addr} {D : List (Str × List V)}
end
end L2
set_option Elab.async false
set_option linter.all false
set_option maxRecDepth 100000
namespace L2
open PySem PySem.Spec PyProof.Rows
section
variable {X : Cx}
end
end L2
set_option Elab.async false
set_option linter.all false
set_option maxRecDepth 100000
namespace L2
open PySem PySem.Spec PyProof.Rows
open Builtin.SmallTypes (nextOf)
section
variable {prog : Program} {w : World} {A : Around} {E : Value → Shared → Prop} {s : Shared} {q l : Addr} {i : Nat} {its : Array Value}
end
end L2
set_option Elab.async false
set_option linter.all false
set_option maxRecDepth 100000
namespace L2
open PySem PySem.Spec PyProof.Rows
section
variable {prog : Program} {w : World} {A : Around} {E : Value → Shared → Prop} {s : Shared}
end
section
variable {X : Cx} {pins : List (Addr × Obj)} {σ : St} {H : Hp} {s : Shared}
end
section
variable {X : Cx} {pins : List (Addr × Obj)} {σ : St} {H : Hp} {s : Shared} {h' : Heap}
end
section
variable {X : Cx}
end
end L2
set_option Elab.async false
set_option linter.all false
set_option maxRecDepth 100000
namespace L2
open PySem PySem.Spec PyProof.Rows
section
variable {X : Cx}
end
end L2
set_option Elab.async false
set_option linter.all false
set_option maxRecDepth 100000
namespace L2
open PySem PySem.Spec PyProof.Rows
theorem boot_allF : bootBuiltins "all" = some (.builtin "all") := by decide +kernel
section
variable {X : Cx}
/-- all(x), any(x) of a list of truths -/
def rAllB : List V → Hp → VK → Prop := fun xs H Q => ∃ (l : Addr) (bs : List Bool), xs = [.ref l] ∧ H l = some (.lst (bs.map V.bl)) ∧ Q (.bl (bs.all id)) H
theorem range_all (bs : List Bool) : (List.range bs.length).all (fun i => bs.getD i false) = bs.all id := by
  rw [Bool.eq_iff_iff, List.all_eq_true, List.all_eq_true]
  constructor
  · intro h b hb
    obtain ⟨i, hi, e⟩ := List.getElem_of_mem hb
    have := h i (List.mem_range.mpr hi)
    rw [List.getD_eq_getElem?_getD, List.getElem?_eq_getElem hi] at this
    rw [← e]; exact this
  · intro h i hi
    have hi' := List.mem_range.mp hi
    rw [List.getD_eq_getElem?_getD, List.getElem?_eq_getElem hi']
    exact h _ (List.getElem_mem hi')
theorem truth_bs {P : Program} {w : World} {A : Around} (bs : List Bool) : TruthOf P w A (fun i v => (bs.map Value.bool).toArray[i]? = some v) (fun i => bs.getD i false) := by
  intro i v s Q E hP hQ
  have hP' : (bs.map Value.bool)[i]? = some v := by simpa using hP
  rw [List.getElem?_map] at hP'
  cases e : bs[i]? with
  | none => rw [e] at hP'; cases hP'
  | some b =>
    rw [e] at hP'
    cases hP'
    have hQ' : Q (bs.getD i false) s := hQ
    rw [List.getD_eq_getElem?_getD, e] at hQ'
    exact wpAny_truthy_bool hQ'
theorem call_allB (hc : X.calm = true) : CallR X (.builtin "all") rAllB := by
  intro pins s σ H xs us Q I r h
  obtain ⟨l, bs, rfl, hH, q⟩ := h
  cases r with
  | cons r rr =>
    cases rr
    cases r
    obtain ⟨z, its, n, rv, hl, e⟩ := I.lstM hH
    have hi := rv.bls
    subst hi
    have hlt : l < s.heap.objs.size := Heap.lt_size e
    refine call_all_walk (wpAny_pyIter_list (items := (bs.map Value.bool).toArray) ⟨_, e, rfl, n, rfl⟩ ⟨_, _, _, _, _, _, _, rfl, Walks.list (by simpa using I.ok.hd hc) s.heap.objs.size l (Nat.ne_of_lt hlt) (bs.map Value.bool).toArray, ⟨⟨_, Heap.get?_push_size _ rfl, rfl, rfl⟩, ⟨_, Heap.get?_push_of_some _ e, rfl, n, rfl⟩⟩, truth_bs bs, fun h' tk hk => ?_⟩)
    rw [List.size_toArray, List.length_map, range_all]
    refine ⟨.bl (bs.all id), H, I.kept fun b o g => hk b o ?_ (Heap.get?_push_of_some _ g), rfl, q⟩
    intro hb
    rw [List.mem_singleton] at hb
    exact absurd (Heap.lt_size g) (by rw [hb]; exact Nat.lt_irrefl _)
end
end L2
set_option Elab.async false
set_option linter.all false
set_option maxRecDepth 100000
namespace L2
open PySem PySem.Spec PyProof.Rows
section
variable {X : Cx} {a b : Expr} {ta tb : TE} {pos : Pos}
end
end L2
set_option Elab.async false
set_option linter.all false
set_option maxRecDepth 100000
namespace L2
open PySem PySem.Spec PyProof.Rows
section
variable {κ : Type} [DecidableEq κ]
end


section
variable {P : Program} {w : World} {H : Hp} {h : Heap} {a : Addr}
end

section
variable {X : Cx} {pins : List (Addr × Obj)} {σ : St} {H : Hp} {s : Shared} {a : Addr} {y v : V} {u r : Value} {o : Option V} {A : Around} {E : Value → Shared → Prop}

theorem Inv.big (I : Inv X pins σ H s) : sysModules < s.heap.objs.size := by
  have h : mainGlobals < s.heap.objs.size := (I.mod.glob.keeps I.bk).lt
  exact Nat.lt_trans (by decide) h

end

section
variable {X : Cx} {pins : List (Addr × Obj)} {σ : St} {H : Hp} {s : Shared} {a : Addr} {kvs : List (Key × V)} {k : Key} {u : Value} {A : Around} {E : Value → Shared → Prop}
end


section
variable {X : Cx} {o i e value : Expr} {pos pos' tpos : Pos} {td ty tv : TE}
end


theorem dk_empty {P : Program} {w : World} {H : Hp} (h : Heap) (hb : sysModules < h.objs.size) : ObjOk P w H (h.push { cls := .type "dict", data := .dict #[] }) h.objs.size (.dK []) :=
  ⟨Nat.zero_le _, beq_eq_false_iff_ne.mpr (Ne.symm (Nat.ne_of_lt hb)), [], .nil, Heap.DictOf.new h⟩
/-- {}, to be a dict of the kind that is wanted -/
def tDNewK : TE := fun _ H Q => ∀ p, H p = none → Q (.ref p) (upd H p (.dK []))
section
variable {X : Cx} {pos : Pos}
theorem pe_dnewK : PE X (.Dict [] [] pos) tDNewK := fun pins s σ H Q I h =>
  wpAny_Dict_empty ⟨.ref s.heap.objs.size, _, I.laid (a := s.heap.objs.size) (o := .dK []) (t' := s.toks) (fun _ _ q => Heap.get?_push_of_some _ q) (Nat.le_refl _) (dk_empty s.heap I.big), rfl, h _ (I.hok.fresh (Nat.le_refl _))⟩
end

section
variable {X : Cx} {pins : List (Addr × Obj)} {σ : St} {H : Hp} {s : Shared} {a : Addr} {y d : V} {u r : Value} {o : Option V} {A : Around} {E : Value → Shared → Prop}
end

section
variable {X : Cx} {o e f : Expr} {apos cpos : Pos} {td ty tx : TE}
end

section
variable {X : Cx} {pins : List (Addr × Obj)} {σ : St} {H : Hp} {s : Shared} {a : Addr} {kvs : List (Key × V)} {A : Around} {E : Value → Shared → Prop}
end


section
variable {X : Cx} {pins : List (Addr × Obj)} {σ : St} {H : Hp} {s : Shared} {a : Addr} {y : V} {u : Value} {A : Around} {E : Value → Shared → Prop}
end
end L2

namespace L2
open PySem PySem.Spec PyProof.Rows
section
variable {X : Cx}
end
section
variable {κ : Type} [DecidableEq κ]
end
end L2

set_option Elab.async false
set_option linter.all false
set_option maxRecDepth 100000
namespace Mx
open PySem L2 PyProof.Rows
structure QE (X : Cx) (e : Expr) (t : TE) : Prop where
  of : PE X e t
section
variable {X : Cx} {e o i : Expr} {te td ty : TE} {pos : Pos}
theorem qe_of (h : PE X e te) : QE X e te := ⟨h⟩
theorem qs_setE {i : Nat} {x : Str} {pos' : Pos} (hN : X.N.Nodup) (hi : X.N[i]? = some x) (hx : Loc X.env.scope x) (he : QE X e te) (hs : swapsWith e (some (.Name x pos')) pos.line X.env = pure false := by rfl) (hf : X.fn x = true ∨ X.env.scope.names.lookup x = some .local := by first | exact .inl rfl | exact .inr rfl | assumption) :
    QS X (.Assign [.Name x pos'] e pos) (tAsg te (gName i)) := ⟨ps_set hN hi hx he.of hs hf⟩
theorem qs_retE (he : QE X e te) : QS X (.Return (some e) pos) (tRet te) := ⟨ps_ret he.of⟩
structure QT (X : Cx) (e : Expr) (t : TT) : Prop where
  of : PT X e t
theorem qt_of {t : TT} (h : PT X e t) : QT X e t := ⟨h⟩
theorem qs_ifT {a b : List Stmt} {t u : TS} {c : Expr} {tc : TT} (hc : QT X c tc) (ha : QSs X a t) (hb : QSs X b u) : QS X (.If c a b pos) (tIfS tc t u) := ⟨ps_if hc.of ha.of hb.of⟩
theorem qt_cmpR {a b : Expr} {ta tb : TE} {op : CmpOp} {r : R2} (ho : OpR X (compareOp op) r) (ha : QE X a ta) (hb : QE X b tb) (hm : behindInMarks op b = false) : QT X (.Compare a [op] [b] pos) (tTest (tOp r ta tb)) := ⟨pt_cmpR ho ha.of hb.of hm⟩
theorem qe_ix {a b : Expr} {ta tb : TE} {r : R2} (hr : IxR X r) (ha : QE X a ta) (hb : QE X b tb) (hs : PlainIx b) : QE X (.Subscript a b pos) (tOp r ta tb) := ⟨pe_ix hr ha.of hb.of hs⟩
structure QA (X : Cx) (es : List Expr) (t : TA) : Prop where
  of : PA X es t
theorem qa_nil : QA X [] tNil := ⟨pa_nil⟩
theorem qa_cons {es : List Expr} {t : TA} (ha : QE X e te) (hr : QA X es t) (hs : starEach (e :: es) X.env = (false, eval e X.env) :: starEach es X.env := by rfl) : QA X (e :: es) (tCons te t) := ⟨pa_cons ha.of hr.of hs⟩
theorem qe_lst {es : List Expr} {t : TA} (h : QA X es t) : QE X (.List es pos) (tLst t) := ⟨pe_lst h.of⟩
theorem qe_tup {es : List Expr} {k} {t : TA} (h : QA X es t) : QE X (.Tuple es k pos) (tTup t) := ⟨pe_tup h.of⟩
end
end Mx
set_option Elab.async false
set_option linter.all false
set_option maxRecDepth 100000
namespace Mx
open PySem L2 PyProof.Rows
section
variable {X : Cx} {e a b c : Expr} {es : List Expr} {te ta tb : TE} {t : TA} {tA tB' : TT} {pos p : Pos} {x : Str} {rest : List Expr}
theorem qa_cs {k : Const} {j} (ha : QE X (.Constant k j pos) te) (hr : QA X es t) : QA X (.Constant k j pos :: es) (tCons te t) := ⟨pa_cs ha.of hr.of⟩
theorem qa_nm {x : Str} (ha : QE X (.Name x pos) te) (hr : QA X es t) : QA X (.Name x pos :: es) (tCons te t) := ⟨pa_nm ha.of hr.of⟩
theorem qa_cl {f xs ks} (ha : QE X (.Call f xs ks pos) te) (hr : QA X es t) : QA X (.Call f xs ks pos :: es) (tCons te t) := ⟨pa_cl ha.of hr.of⟩
theorem qa_sb {o i : Expr} (ha : QE X (.Subscript o i pos) te) (hr : QA X es t) : QA X (.Subscript o i pos :: es) (tCons te t) := ⟨pa_cons ha.of hr.of rfl⟩
theorem qa_bo {o i : Expr} {op} (ha : QE X (.BinOp o op i pos) te) (hr : QA X es t) : QA X (.BinOp o op i pos :: es) (tCons te t) := ⟨pa_cons ha.of hr.of rfl⟩
theorem qa_tp {xs k} (ha : QE X (.Tuple xs k pos) te) (hr : QA X es t) : QA X (.Tuple xs k pos :: es) (tCons te t) := ⟨pa_cons ha.of hr.of rfl⟩
theorem qa_ls {xs} (ha : QE X (.List xs pos) te) (hr : QA X es t) : QA X (.List xs pos :: es) (tCons te t) := ⟨pa_cons ha.of hr.of rfl⟩
theorem qa_lc {l o r} (ha : QE X (.ListComp l o r pos) te) (hr : QA X es t) : QA X (.ListComp l o r pos :: es) (tCons te t) := ⟨pa_cons ha.of hr.of rfl⟩
theorem qe_op {op : Operator} {r : R2} (ho : OpR X (binaryOp op) r) (ha : QE X a ta) (hb : QE X b tb) : QE X (.BinOp a op b pos) (tOp r ta tb) := ⟨pe_op ho ha.of hb.of⟩
theorem qe_cmpR {op : CmpOp} {r : R2} (ho : OpR X (compareOp op) r) (ha : QE X a ta) (hb : QE X b tb) (hm : behindInMarks op b = false) : QE X (.Compare a [op] [b] pos) (tOp r ta tb) := ⟨pe_cmpR ho ha.of hb.of hm⟩
theorem qe_ifExp (hc : QT X c tA) (ha : QE X a ta) (hb : QE X b tb) : QE X (.IfExp c a b pos) (tIf tA ta tb) := ⟨pe_ifExp hc.of ha.of hb.of⟩
theorem qe_mid (h : QE X e te) : QE X e (tMid te) := ⟨pe_mid h.of⟩
structure QW (X : Cx) (e : Expr) (t : TT) : Prop where
  of : PW X e t
theorem qw_and1 (ha : QT X a tA) : QW X (.BoolOp .And [a] pos) tA := ⟨pw_and1 ha.of⟩
theorem qw_or1 (ha : QT X a tA) : QW X (.BoolOp .Or [a] pos) tA := ⟨pw_or1 ha.of⟩
theorem qw_and (ha : QT X a tA) (hb : QW X (.BoolOp .And (b :: rest) pos) tB') : QW X (.BoolOp .And (a :: b :: rest) pos) (tAnd tA tB') := ⟨pw_and ha.of hb.of⟩
theorem qw_or (ha : QT X a tA) (hb : QW X (.BoolOp .Or (b :: rest) pos) tB') : QW X (.BoolOp .Or (a :: b :: rest) pos) (tOr tA tB') := ⟨pw_or ha.of hb.of⟩
theorem QW.pt (h : QW X e tA) : QT X e tA := ⟨h.of.pt⟩
theorem qt_not (ha : QT X a tA) : QT X (.UnaryOp .Not a pos) (tNot tA) := ⟨pt_not ha.of⟩
theorem qt_valC {f xs ks} (h : QE X (.Call f xs ks pos) te) : QT X (.Call f xs ks pos) (tB te) := ⟨pt_val h.of⟩
variable {id T : String} {r : List V → Hp → VK → Prop}
theorem qe_callB (hc : CallR X (.builtin id) r) (hg : Gl X x) (hm : X.mg x = none) (hv : bootBuiltins x = some (.builtin id)) (ha : QA X (e :: es) t) (hn : x ≠ "__name__" := by decide) (hdb : (x == ("__debug__" : Str)) = false := by decide)
    (he : starEach (e :: es) X.env = (false, eval e X.env) :: starEach es X.env := by rfl) (hpl : (backTo pos (starEach es X.env)).any (·.1) = false := by rfl) : QE X (.Call (.Name x p) (e :: es) [] pos) (tCB r t) := ⟨pe_callB hc hg hm hv ha.of hn hdb he hpl⟩
theorem qe_callTy (hc : CallR X (.type T) r) (hg : Gl X x) (hm : X.mg x = none) (hv : bootBuiltins x = some (.type T)) (ha : QA X (e :: es) t) (hn : x ≠ "__name__" := by decide) (hdb : (x == ("__debug__" : Str)) = false := by decide)
    (he : starEach (e :: es) X.env = (false, eval e X.env) :: starEach es X.env := by rfl) (hpl : (backTo pos (starEach es X.env)).any (·.1) = false := by rfl) : QE X (.Call (.Name x p) (e :: es) [] pos) (tCB r t) := ⟨pe_callTy hc hg hm hv ha.of hn hdb he hpl⟩
theorem qe_callH {k m : Nat} {ps : List Str} {sp : Sp} (h : Has X.prog X.w X.K X.mg X.base k x ps sp) (hr : Room m X.A) (ha : QA X (e :: es) t) (hk : k ≤ m := by decide) (hg : Gl X x := by rfl)
    (hdb : (x == ("__debug__" : Str)) = false := by decide) (he : starEach (e :: es) X.env = (false, eval e X.env) :: starEach es X.env := by rfl) (hpl : (backTo pos (starEach es X.env)).any (·.1) = false := by rfl) : QE X (.Call (.Name x p) (e :: es) [] pos) (tCall sp [] E0 t) := ⟨pe_callH h hr ha.of hk hg hdb he hpl⟩
structure QI (X : Cx) (tg iter : Expr) (wi : TI) : Prop where
  of : PI X tg iter wi
theorem qi_of {tg iter : Expr} {wi : TI} (h : PI X tg iter wi) : QI X tg iter wi := ⟨h⟩
theorem qi_list {tg l : Expr} {tl : TE} (h : QE X l tl) : QI X tg l (iList X.K tl) := ⟨pi_list h.of⟩
theorem qs_for {tg iter : Expr} {body : List Stmt} {wi : TI} {g : TG} {tb : TS} (hp : PassesOwn (model X.prog X.w) X.A X.env X.xe) (hc : X.calm = true) (hi : QI X tg iter wi) (hg : PG X tg g) (hb : QSs X body tb) (hs : ∀ x, foldedSetIterable iter X.env x = pure x := by intro _; rfl) : QS X (.For tg iter body [] pos) (tFor wi g tb) := ⟨ps_for hp hc hi.of hg hb.of hs⟩
theorem qs_expr (he : QE X e te) (hs : swapsWith e none pos.line X.env = pure false := by rfl) : QS X (.Expr e pos) (tDrop te) := ⟨ps_expr he.of hs⟩
theorem qs_asg {tg : Expr} {g : TG} (he : QE X e te) (hg : PG X tg g) (hs : swapsWithSole [tg] e pos.line X.env = pure false := by rfl) (hw : swappedStores [tg] e X.env = pure none := by rfl) (h1 : (assignEach [tg] X.env).map (·.2) = [assign tg X.env] := by rfl) : QS X (.Assign [tg] e pos) (tAsg te g) := ⟨ps_asg he.of hg hs hw h1⟩
end
end Mx
namespace Mx
open PySem L2 PyProof.Rows
theorem qss_litQ {X : Cx} {st : Stmt} {rest ss : List Stmt} {t : TS} (h : ss = st :: rest) (p : QSs X (st :: rest) t) : QSs X ss t := h ▸ p
section
variable {P : Program} {w : World} {K : PySem.W.Frag} {mg : Str → Option Value} {base : Heap}
theorem Has.ofQ {x : Str} {st : Stmt} {ps N : List Str} {k : Nat} {sp : Sp} (F : FnAt K mg x st ps) (S : FnScope N ps (defScope st)) (len : ∀ vs H Q E, sp vs H Q E → vs.length = ps.length)
    (hbody : ∀ (f : Addr) (cdv : Value) (A : Around) (outer : List Env) (s : Shared) (H : Hp) (vs : List V) (Q : VK) (E : XK), Room k (A.deeper (envOfC x (defScope st) s.heap.objs.size f cdv)) → sp vs H Q E →
      ∃ t, QSs (cxOf CX0 P w K mg base N x (defScope st) f cdv A outer s H E).nox (defBody st) t ∧ t { nx := fun _ H' => Q .non H', rt := Q } (start N vs) H) : Has P w K mg base (k + 1) x ps sp :=
  Has.of F S len fun f cdv A outer s H vs Q E hr h => by
    obtain ⟨t, h1, h2⟩ := hbody f cdv A outer s H vs Q E hr h
    exact ⟨t, h1.of, h2⟩
theorem Fun.okQ {x qual : Str} {st : Stmt} {f : Addr} {fd : FuncData} {N ps : List Str} {k : Nat} {sp : Sp} (F : Fun K x qual st f fd) (S : FnScope N ps (defScope st)) (len : ∀ vs H Q E, sp vs H Q E → vs.length = ps.length)
    (hbody : ∀ (cdv : Value) (A : Around) (outer : List Env) (s : Shared) (H : Hp) (vs : List V) (Q : VK) (E : XK), Room k (A.deeper (envOfC qual (defScope st) s.heap.objs.size f cdv)) → sp vs H Q E →
      ∃ t, QSs (cxOf CX0 P w K mg base N qual (defScope st) f cdv A outer s H E).nox (defBody st) t ∧ t { nx := fun _ H' => Q .non H', rt := Q } (start N vs) H) : FnOk P w K mg base CX0 (k + 1) f fd ps sp :=
  F.ok S len fun cdv A outer s H vs Q E hr h => by
    obtain ⟨t, h1, h2⟩ := hbody cdv A outer s H vs Q E hr h
    exact ⟨t, h1.of, h2⟩
end
end Mx
set_option Elab.async false
set_option linter.all false
set_option maxRecDepth 100000
namespace Mx
open PySem L2 PyProof.Rows
section
variable {P : Program} {w : World} {K : PySem.W.Frag} {mg : Str → Option Value} {base : Heap} {C : Addr}
end
section
variable {X : Cx} {e o value : Expr} {es : List Expr} {te ta tv : TE} {t : TA} {pos p apos pos' : Pos} {C : Addr} {m x f : Str}
theorem qa_at {b : Expr} {g : Str} (ha : QE X (.Attribute b g pos) te) (hr : QA X es t) : QA X (.Attribute b g pos :: es) (tCons te t) := ⟨pa_cons ha.of hr.of rfl⟩
end
end Mx
set_option Elab.async false
set_option linter.all false
set_option maxRecDepth 100000
namespace L2
open PySem PySem.Spec PyProof.Rows
section
variable {X : Cx}
end
end L2
set_option Elab.async false
set_option linter.all false
set_option maxRecDepth 100000
set_option maxHeartbeats 2000000
namespace L2
open PySem PySem.Spec PyProof.Rows PySem.W
/-- the refusal at a bears the traceback at T, which lies apart from all that is held -/
structure Fly (h : Heap) (H : Hp) (a T : Addr) : Prop where
  ob : ∃ o vs, h.get? a = some o ∧ o.data = .fields vs ∧ vs[1]? = some (.ref T)
  ne : T ≠ a
  fr : H T = none
  tb : ∃ oT ts, h.get? T = some oT ∧ oT.data = .fields ts ∧ ts[3]? = some .none
/-- how a refusal lies behind a call -/
def CX1 (P : Program) (w : World) : CXT := fun outer H s E e s' => ∃ a T C dx H', e = .ref a ∧ s'.os = s.os ∧ AllBare s'.gens ∧ Un (frs outer) [] H H' s.heap s'.heap ∧ HOk P w H' s'.heap ∧
  H' a = some (.ext (xObjQ a C dx)) ∧ Fly s'.heap H' a T ∧ E (.ref a) none H'
/-- new: no traceback yet -/
def Raw (h : Heap) (a : Addr) : Prop := ∃ o vs, h.get? a = some o ∧ o.data = .fields vs ∧ vs[1]? = some .none
theorem setSame {ts : Array Value} {i : Nat} {v : Value} (h : ts[i]? = some v) : ts.setIfInBounds i v = ts := by
  apply Array.ext_getElem?
  intro j
  by_cases e : i = j
  · subst e
    rw [Array.getElem?_setIfInBounds_self_of_lt (Array.getElem?_eq_some_iff.mp h).1, h]
  · rw [Array.getElem?_setIfInBounds_ne e]
theorem mapSame {o : Obj} {ts : Array Value} {i : Nat} {v : Value} (hd : o.data = .fields ts) (h : ts[i]? = some v) : Obj.mapFields (·.setIfInBounds i v) o = o := by
  obtain ⟨c, d, dt, sl⟩ := o
  simp only at hd
  subst hd
  unfold Obj.mapFields
  simp only [setSame h]
theorem mapDict (f : Array Value → Array Value) (o : Obj) : (Obj.mapFields f o).dict = o.dict := by
  obtain ⟨c, d, dt, sl⟩ := o
  cases dt <;> rfl
section
variable {X : Cx} {pins : List (Addr × Obj)} {σ : St} {H : Hp} {s : Shared} {a C : Addr} {dx : Option Addr}
/-- behind an entry of this frame: only the refusal, the frames' slots and a new thing have changed -/
theorem fly_un {h1 h' : Heap} {T' : Addr} (I : Inv X pins σ H s) (ha : H a = some (.ext (xObjQ a C dx))) (h1s : Heap.SlotsOnly (frs X.stack) s.heap h1) (hT : T' = h1.objs.size)
    (keep : ∀ b o, b ≠ a → h1.get? b = some o → h'.get? b = some o) (hx : xObjQ a C dx h') : Un (frs X.stack) [] H H s.heap h' ∧ HOk X.prog X.w H h' ∧ H T' = none ∧ s.heap.get? T' = none := by
  have na : ∀ b, H b = none → b ≠ a := fun b n z => by subst z; rw [ha] at n; cases n
  have hz : s.heap.objs.size = T' := by rw [hT, h1s.1]
  refine ⟨⟨fun b o e n hb _ => keep b o (na b n) ((h1s.2.1 b hb).trans e), fun b o e n hb _ => ?_, fun _ _ _ n _ => n, fun b o e _ => ?_, fun _ _ q => q, fun _ _ _ q => q, fun b ps q => ⟨#[], by rw [q]; simp⟩⟩, fun b u e => ?_, I.hok.fresh (by omega), Heap.get?_none_of_le (by omega)⟩
  · obtain ⟨sl, q⟩ := h1s.2.2 b o e
    exact ⟨sl, keep b _ (na b n) q⟩
  · by_cases hb : b = a
    · subst hb; obtain ⟨o, _, q, _⟩ := hx; exact ⟨o, q⟩
    · obtain ⟨sl, q⟩ := h1s.2.2 b o e
      exact ⟨_, keep b _ hb q⟩
  · by_cases hb : b = a
    · subst hb
      rw [ha] at e; cases e
      exact xObjQ_ok hx
    · refine (I.hok b u e).stay (fun c v hc q => ?_) (fun _ q => q) fun _ _ q => q
      have hcH : H c ≠ none := by
        rcases hc with z | z
        · rw [z, e]; simp
        · rw [z]; simp
      have hca : c ≠ a := by
        rcases hc with z | z
        · rw [z]; exact hb
        · intro z2; rw [z2, ha] at z; cases z
      exact keep c v hca ((h1s.2.1 c fun z => hcH (I.stkFree c z)).trans q)
/-- the frame is noted, the flight ends -/
theorem noted_ok {M : Model} {E : Value → Shared → Prop} {Q : Unit → Shared → Prop} (I : Inv X pins σ H s) (hs : X.stack = X.env :: X.outer) (hf : X.env.frame = some X.env.locals) (ha : H a = some (.ext (xObjQ a C dx)))
    (st : Raw s.heap a ∨ ∃ T, Fly s.heap H a T)
    (k : ∀ h' T', Inv X pins σ H { s with heap := h' } → Fly h' H a T' → s.heap.get? T' = none → Q () { s with heap := h' }) :
    wpAny M X.A (noteFrame (.ref a) X.env) (fun _ s1 => wpAny M X.A (setFlight (.ref a) none) Q E s1) E s := by
  have hfr : X.A.frames = some (X.env :: X.outer) := by rw [← hs]; exact I.ok.frames
  have hl : s.heap.FunFrames X.base (X.env :: X.outer) := by rw [← hs]; exact I.stack
  obtain ⟨⟨o0, vs0, e0, c0, d0, dt0⟩, _⟩ := I.hok a _ ha
  have main : ∀ (h : Heap) (head : Value) (vs : Array Value) (o : Obj) (hadNext : Bool), (∀ b, h.get? b = s.heap.get? b) → h.objs.size = s.heap.objs.size → s.heap.get? a = some o → o.data = .fields vs → 1 < vs.size →
      wpAny M X.A (do let x ← frameOf X.env; let pl ← entryPlaceOf X.env.locals hadNext; let b ← EntryCells.newEntry head x .none (rawInt X.env.locals) .none pl; setField (.ref a) 1 b) (fun _ s' => wpAny M X.A (setFlight (.ref a) none) Q E s') E { s with heap := h } := by
    intro h head vs o hadNext hg hsz he hd hvs
    have hl' : h.FunFrames X.base (X.env :: X.outer) := hl.of_keeps fun b o q _ => ⟨o, (hg b).trans q, rfl⟩
    have hene : a ∉ (X.env :: X.outer).filterMap (·.frame) := fun hm => by
      have := I.stkFree a (by rw [hs]; exact hm)
      rw [ha] at this; cases this
    refine wpAny_bind (wpAny_frameOf_fun (s := { s with heap := h }) hfr hl' hf fun h₁ hs₁ => ?_)
    have hs₁' : Heap.SlotsOnly (frs X.stack) s.heap h₁ := by
      rw [hs]
      exact ⟨hs₁.1.trans hsz, fun b hb => (hs₁.2.1 b hb).trans (hg b), fun b o q => hs₁.2.2 b o ((hg b).trans q)⟩
    refine wpAny_bind (wpAny_entryPlaceOf fun pl hpl => ?_)
    unfold EntryCells.newEntry newFields
    refine wpAny_bind (wpAny_newObj_type ?_ (hpl.sizeOk5 _ _ _ _ _))
    have he₁ : h₁.get? a = some o := (hs₁.2.1 a hene).trans ((hg a).trans he)
    have he₂ := Heap.get?_push_of_some (h := h₁) { cls := .type "traceback", dict := none, data := .fields ([head, .ref X.env.locals, .none, rawInt X.env.locals, .none] ++ (if pl.isEmpty then List.replicate 6 Value.none else pl)).toArray } he₁
    refine wpAny_setField he₂ hd hvs ?_
    have hTe : h₁.objs.size ≠ a := Nat.ne_of_gt (Heap.lt_size he₁)
    have hd₃ := Obj.data_mapFields hd (·.setIfInBounds 1 (Value.ref h₁.objs.size))
    have he₃ := Heap.get?_update_self (Obj.mapFields (·.setIfInBounds 1 (Value.ref h₁.objs.size))) he₂ (Obj.isFreed_of_fields hd₃)
    have hT₃ := (Heap.get?_update_other (h₁.push { cls := .type "traceback", dict := none, data := .fields ([head, .ref X.env.locals, .none, rawInt X.env.locals, .none] ++ (if pl.isEmpty then List.replicate 6 Value.none else pl)).toArray })
      (Obj.mapFields (·.setIfInBounds 1 (Value.ref h₁.objs.size))) (Ne.symm hTe)).trans (Heap.get?_push_size h₁ rfl)
    unfold setFlight
    refine wpAny_bind (wpAny_field he₃ hd₃ (x := .ref h₁.objs.size) (by simp [hvs]) ?_)
    rw [if_pos (show (Value.ref h₁.objs.size != Value.none) = true from by simp)]
    refine wpAny_setField hT₃ rfl (by simp only [List.size_toArray, List.length_append, List.length_cons, List.length_nil] <;> omega) ?_
    have keep : ∀ b ob, b ≠ a → h₁.get? b = some ob →
        (((h₁.push { cls := .type "traceback", dict := none, data := .fields ([head, .ref X.env.locals, .none, rawInt X.env.locals, .none] ++ (if pl.isEmpty then List.replicate 6 Value.none else pl)).toArray }).update a (Obj.mapFields (·.setIfInBounds 1 (Value.ref h₁.objs.size)))).update h₁.objs.size
          (Obj.mapFields (·.setIfInBounds 3 ((none : Option Addr).elim Value.none fun f => rawInt f)))).get? b = some ob := fun b ob hbe hb => by
      have hbT : h₁.objs.size ≠ b := Nat.ne_of_gt (Heap.lt_size hb)
      rw [Heap.get?_update_other _ _ hbT, Heap.get?_update_other _ _ (Ne.symm hbe)]
      exact Heap.get?_push_of_some _ hb
    have hea := he₃
    have hT4 := Heap.get?_update_self (Obj.mapFields (·.setIfInBounds 3 ((none : Option Addr).elim Value.none fun f => rawInt f))) hT₃ (Obj.isFreed_of_fields (Obj.data_mapFields rfl _))
    rw [← Heap.get?_update_other _ (Obj.mapFields (·.setIfInBounds 3 ((none : Option Addr).elim Value.none fun f => rawInt f))) hTe] at hea
    revert keep hea hT4
    generalize ((h₁.push { cls := .type "traceback", dict := none, data := .fields ([head, .ref X.env.locals, .none, rawInt X.env.locals, .none] ++ (if pl.isEmpty then List.replicate 6 Value.none else pl)).toArray }).update a (Obj.mapFields (·.setIfInBounds 1 (Value.ref h₁.objs.size)))).update h₁.objs.size
          (Obj.mapFields (·.setIfInBounds 3 ((none : Option Addr).elim Value.none fun f => rawInt f))) = h'
    intro keep hea hT4
    rw [he] at e0; cases e0
    have hx : xObjQ a C dx h' := ⟨_, _, hea, (Obj.cls_mapFields _ _).trans c0, (mapDict _ _).trans d0, hd₃⟩
    obtain ⟨un, ho, fr, nw⟩ := fly_un (T' := h₁.objs.size) I ha hs₁' rfl keep hx
    refine k h' h₁.objs.size (I.call' (s' := { s with heap := h' }) (ch := []) rfl un ho I.bare fun b z => absurd z (by simp)) ⟨⟨_, _, hea, hd₃, by simp [hvs]⟩, hTe, fr, ⟨_, _, hT4, Obj.data_mapFields rfl _, ?_⟩⟩ nw
    first | (simp; done) | (rcases hpl with rfl | ⟨_, _, _, _, _, _, _, rfl⟩ <;> simp)
  rcases st with ⟨o, vs, he, hd, h1⟩ | ⟨T, ⟨⟨o, vs, he, hd, h1⟩, hTa, hTn, oT, ts, hT, hdT, h3⟩⟩
  · unfold noteFrame
    simp only [hf]
    refine wpAny_bind (wpAny_field he hd h1 ?_)
    rw [if_neg (by decide)]
    exact main s.heap _ vs o _ (fun _ => rfl) rfl he hd (Array.getElem?_eq_some_iff.mp h1).1
  · unfold noteFrame
    simp only [hf]
    refine wpAny_bind (wpAny_field he hd h1 ?_)
    rw [if_pos (show (Value.ref T != Value.none) = true from by simp)]
    refine wpAny_bind (wpAny_field hT hdT h3 ?_)
    rw [if_neg (show ¬ ((Value.none == rawInt X.env.locals) = true) from by simp [rawInt])]
    refine wpAny_bind (wpAny_setField hT hdT (Array.getElem?_eq_some_iff.mp h3).1 ?_)
    refine main (s.heap.update T (Obj.mapFields (·.setIfInBounds 3 Value.none))) _ vs o _ (fun b => ?_) (Heap.size_after_update ..) he hd (Array.getElem?_eq_some_iff.mp h1).1
    by_cases hb : b = T
    · subst hb
      rw [hT]
      have := Heap.get?_update_self (Obj.mapFields (·.setIfInBounds 3 Value.none)) hT (Obj.isFreed_of_fields (Obj.data_mapFields hdT _))
      rw [mapSame hdT h3] at this
      exact this
    · exact Heap.get?_update_other _ _ (Ne.symm hb)
end
end L2
set_option Elab.async false
set_option linter.all false
set_option maxRecDepth 100000
set_option maxHeartbeats 2000000
namespace L2
open PySem PySem.Spec PyProof.Rows PySem.W
section
variable {X : Cx} {pins : List (Addr × Obj)} {σ : St} {H : Hp} {s : Shared} {a C : Addr} {dx : Option Addr}
theorem Inv.xq (I : Inv X pins σ H s) (ha : H a = some (.ext (xObjP a C dx))) : Inv X pins σ (upd H a (.ext (xObjQ a C dx))) s := by
  have o := (I.hok a _ ha)
  have w := I.write (x := a) (e := a) (o := .ext (xObjQ a C dx)) (h' := s.heap) (t' := s.toks) (by rw [ha]; exact True.intro) (.inl rfl) (fun _ _ _ e => e) o.2.1 (xObjQ_ok o.1.q)
  exact w
theorem raw_of {P : Program} {w : World} {h : Heap} (ok : HOk P w H h) (ha : H a = some (.ext (xObjP a C dx))) : Raw h a := by
  obtain ⟨⟨o, vs, e, _, _, dt, r⟩, _⟩ := ok a _ ha
  exact ⟨o, vs, e, dt, r⟩
end
section
variable {P : Program} {w : World} {K : PySem.W.Frag} {mg : Str → Option Value} {base : Heap} {N : List Str} {qual : Str} {scope : Scope} {f : Addr} {cd : Value} {A : Around} {outer : List Env} {s0 : Shared} {H0 : Hp} {E : XK}
/-- the context of a def that may refuse -/
abbrev cxX (P : Program) (w : World) (K : PySem.W.Frag) (mg : Str → Option Value) (base : Heap) (N : List Str) (qual : Str) (scope : Scope) (f : Addr) (cd : Value) (A : Around) (outer : List Env) (s0 : Shared) (H0 : Hp) (E : XK) : Cx :=
  cxOf (CX1 P w) P w K mg base N qual scope f cd A outer s0 H0 E
theorem leaves {pins : List (Addr × Obj)} {σ : St} {H : Hp} {s : Shared} {a C : Addr} {dx : Option Addr} (I : Inv (cxX P w K mg base N qual scope f cd A outer s0 H0 E) pins σ H s) (ha : H a = some (.ext (xObjQ a C dx))) (st : Raw s.heap a ∨ ∃ T, Fly s.heap H a T)
    (hE : E (.ref a) none H) : (cxX P w K mg base N qual scope f cd A outer s0 H0 E).xe (.ref a) s := by
  show wpAny _ _ (leaving _ _) _ _ _
  unfold leaving
  exact wpAny_bind (noted_ok (X := cxX P w K mg base N qual scope f cd A outer s0 H0 E) I rfl rfl ha st fun h' T' I' fl _ => ⟨a, T', C, dx, H, rfl, I'.os, I'.bare, I'.base, I'.hok, ha, fl, hE⟩)
theorem passX : Passes (CX1 P w) (cxX P w K mg base N qual scope f cd A outer s0 H0 E) E := by
  intro pins σ H s e s' I h
  obtain ⟨a, T, C, dx, H', rfl, ho, hb, un, hok, ha, fl, hE⟩ := h
  exact leaves (I.call' (ch := []) ho un hok hb fun b z => absurd z (by simp)) ha (.inr ⟨T, fl⟩) hE
theorem passOwnX : PassesOwn (model P w) (cxX P w K mg base N qual scope f cd A outer s0 H0 E).A (cxX P w K mg base N qual scope f cd A outer s0 H0 E).env (cxX P w K mg base N qual scope f cd A outer s0 H0 E).xe := PassesOwn.leaving
def tRaise (K : PySem.W.Frag) (E : XK) (te : TE) : TS := fun _ σ H => te σ H fun v H1 => ∃ a C dx, v = .ref a ∧ XTy K C ∧ H1 a = some (.ext (xObjP a C dx)) ∧ E (.ref a) none (upd H1 a (.ext (xObjQ a C dx)))
theorem raise_own {M : Model} {A : Around} {E : Value → Shared → Prop} {env : Env} {s : Shared} {a C : Addr} {o : Obj} {vs : Array Value} {Q : Flow → Shared → Prop} (X : K.In s.heap) (cx : xclsB K C = true) (hh : A.handled = none) (hx : s.heap.get? a = some o) (hc : o.cls = .ref C) (hd : o.data = .fields vs) (h1 : vs[1]? = some .none)
    {x : Sem Value} {s₀ : Shared} (hE : E (.ref a) s) (h : ∀ {R : Value → Shared → Prop}, R (.ref a) s → wpAny M A x R E s₀) : wpAny M A (raiseStmt env (some x) none) Q E s₀ := by
  obtain ⟨nm, qn, N, bs, bm, sn, sub, ab, col, dd, k0, k1, k2, k3, k5, cC, T⟩ := xcls_of X cx
  have hob : (Value.ref C :: bm).contains (.type "BaseException") = true := by rw [List.contains_cons, T.hasType PySem.F.excBase_ValueError.hasBase]; rfl
  unfold raiseStmt
  refine wpAny_bind (h ?_)
  obtain ⟨hp, g, d, tk, os⟩ := s
  have cC : hp.get? C = _ := cC
  have hx : hp.get? a = some o := hx
  have hnt : (match o.data with | .cls _ => true | _ => false) = false := by rw [hd]
  unfold excFromValue isExcClass isInstance
  repeat (first | (with_reducible refine wpAny_loadPart_at hx ?_; first | rw [hc] | (dsimp only; rw [hd])) | (with_reducible refine wpAny_loadPart_at cC ?_) | (with_reducible refine wpAny_isSubtype_exc cC ?_; rw [hob]) | wp_step)
  rw [hd]
  refine wpAny_pure ?_
  rw [h1]
  refine wpAny_pure ?_
  rw [if_neg (by decide)]
  exact wpAny_pure (wpAny_raiseNew_none hh hE)
theorem ps_raise {x : Expr} {te : TE} {pos : Pos} (he : PE (cxX P w K mg base N qual scope f cd A outer s0 H0 E) x te) : PS (cxX P w K mg base N qual scope f cd A outer s0 H0 E) (.Raise (some x) none pos) (tRaise K E te) := by
  intro pins s σ H D I h
  rw [arm_exec_Raise]
  refine wpAny_bind (wpAny_standAt ?_)
  have hx := he pins s σ H _ I h
  show wpAny _ _ (raiseStmt _ (some (do let v ← eval x _; standAt pos; pure v)) none) _ _ _
  unfold raiseStmt
  refine wpAny_bind (wpAny_bind (thn hx fun v s1 ⟨y, H1, I1, r, a, C, dx, ey, ty, ha, q⟩ => ?_))
  subst ey
  obtain rfl : v = Value.ref a := r
  refine wpAny_bind (wpAny_standAt (wpAny_pure ?_))
  obtain ⟨⟨o, vs, e1, e2, e3, e4, e5⟩, _⟩ := I1.hok a _ ha
  have lv := leaves (I1.xq ha) upd_same (.inl (raw_of I1.hok ha)) q
  have := raise_own (A := (cxX P w K mg base N qual scope f cd A outer s0 H0 E).A) (env := (cxX P w K mg base N qual scope f cd A outer s0 H0 E).env) (M := model P w) (Q := SP (cxX P w K mg base N qual scope f cd A outer s0 H0 E) pins D) (x := pure (.ref a)) (s₀ := s1) I1.kIn ty.cx (I1.ok.hd rfl) e1 e2 e4 e5 lv (fun {R} hR => wpAny_pure hR)
  unfold raiseStmt at this
  exact this
end
/-- a def that keeps a promise, refusals among it -/
def HasX (P : Program) (w : World) (K : PySem.W.Frag) (mg : Str → Option Value) (base : Heap) (k : Nat) (x : Str) (ps : List Str) (sp : Sp) : Prop :=
  ∃ f fd, mg x = some (.ref f) ∧ PySem.W.keepIn K (.ref f) = true ∧ Binds K fd ps [] ∧ FnOk P w K mg base (CX1 P w) k f fd ps sp
section
variable {P : Program} {w : World} {K : PySem.W.Frag} {mg : Str → Option Value} {base : Heap}
theorem FnOk.x {k : Nat} {f : Addr} {fd : FuncData} {ps : List Str} {sp : Sp} (F : FnOk P w K mg base CX0 k f fd ps sp) : FnOk P w K mg base (CX1 P w) k f fd ps sp :=
  ⟨F.len, fun A outer s H args us vs Q E hr he hb hv hs => codeAny_mono (F.run A outer s H args us vs Q E hr he hb hv hs) fun r s' h => by
    cases r with
    | error e => exact h.elim
    | ok fl => cases fl <;> exact h⟩
theorem Has.x {x : Str} {ps : List Str} {k : Nat} {sp : Sp} (h : Has P w K mg base k x ps sp) : HasX P w K mg base k x ps sp := by
  obtain ⟨f, fd, h1, h2, h3, h4⟩ := h
  exact ⟨f, fd, h1, h2, h3, h4.x⟩
theorem FnOk.ofX {x qual : Str} {st : Stmt} {f : Addr} {fd : FuncData} {N ps : List Str} {k : Nat} {sp : Sp} (F : Fun K x qual st f fd) (S : FnScope N ps (defScope st)) (len : ∀ vs H Q E, sp vs H Q E → vs.length = ps.length)
    (hbody : ∀ (cdv : Value) (A : Around) (outer : List Env) (s : Shared) (H : Hp) (vs : List V) (Q : VK) (E : XK), Room k (A.deeper (envOfC qual (defScope st) s.heap.objs.size f cdv)) → sp vs H Q E →
      ∃ t, Mx.QSs (cxX P w K mg base N qual (defScope st) f cdv A outer s H E) (defBody st) t ∧ t { nx := fun _ H' => Q .non H', rt := Q } (start N vs) H) : FnOk P w K mg base (CX1 P w) (k + 1) f fd ps sp := by
  obtain ⟨oc, od, kV, doc, pm, an, cdv, ct, osl, rfl, lk, hcd⟩ := F.ex
  refine fn_of lk hcd S len fun A outer s H vs Q E hr hsp => ?_
  obtain ⟨t, h, q⟩ := hbody cdv A outer s H vs Q E hr hsp
  exact ⟨t, h.of, q⟩
theorem HasX.of {x : Str} {st : Stmt} {ps N : List Str} {k : Nat} {sp : Sp} (F : FnAt K mg x st ps) (S : FnScope N ps (defScope st)) (len : ∀ vs H Q E, sp vs H Q E → vs.length = ps.length)
    (hbody : ∀ (f : Addr) (cdv : Value) (A : Around) (outer : List Env) (s : Shared) (H : Hp) (vs : List V) (Q : VK) (E : XK), Room k (A.deeper (envOfC x (defScope st) s.heap.objs.size f cdv)) → sp vs H Q E →
      ∃ t, Mx.QSs (cxX P w K mg base N x (defScope st) f cdv A outer s H E) (defBody st) t ∧ t { nx := fun _ H' => Q .non H', rt := Q } (start N vs) H) : HasX P w K mg base (k + 1) x ps sp := by
  obtain ⟨f, fd, h1, h2, h3⟩ := F
  exact ⟨f, fd, h1, h2.kp, h3, FnOk.ofX h2 S len fun cdv A outer s H vs Q E hr h => hbody f cdv A outer s H vs Q E hr h⟩
end
section
variable {X : Cx} {e o : Expr} {es : List Expr} {ta : TE} {t : TA} {p pos apos : Pos} {x m : Str} {C : Addr} {E : XK}
theorem pe_callX {k n : Nat} {ps : List Str} {sp : Sp} (h : HasX X.prog X.w X.K X.mg X.base k x ps sp) (hx : Passes (CX1 X.prog X.w) X E) (hr : Room n X.A) (ha : PA X (e :: es) t) (hk : k ≤ n := by decide) (hg : Gl X x := by rfl)
    (hdb : (x == ("__debug__" : Str)) = false := by decide) (he : starEach (e :: es) X.env = (false, eval e X.env) :: starEach es X.env := by rfl) (hpl : (backTo pos (starEach es X.env)).any (·.1) = false := by rfl) :
    PE X (.Call (.Name x p) (e :: es) [] pos) (tCall sp [] E t) := by
  obtain ⟨f, fd, h1, h2, h3, h4⟩ := h
  exact pe_call h4 (hr.mono hk) hg h1 h2 h3 .nil hx ha hdb he hpl
end
end L2
set_option Elab.async false
set_option linter.all false
set_option maxRecDepth 100000
set_option maxHeartbeats 2000000
namespace L2
open PySem PySem.Spec PyProof.Rows PySem.W
abbrev Cx.sui (X : Cx) (e : Value) : Cx := { X with A := X.A.mark (some e), calm := false }
section
variable {X : Cx} {pins : List (Addr × Obj)} {σ : St} {H : Hp} {s : Shared} {v : Value}
theorem Cx.Ok.sui (ok : X.Ok) (v : Value) : (X.sui v).Ok :=
  ⟨ok.mod, ok.kind, ok.glob, ok.blt, ok.above, ok.inj, ok.has, ok.cab, (fun h => nomatch h), ok.frames, ok.stk, ok.exf, ok.bs, ok.bsz, ok.noex, ok.exfs, ok.funs, ok.frf⟩
theorem Inv.sui (I : Inv X pins σ H s) (v : Value) : Inv (X.sui v) pins σ H s := ⟨I.ok.sui v, I.os, I.bare, I.base, I.loc, I.cell, I.free, I.freeC, I.pin, I.hok, I.len⟩
theorem Inv.unsui (ok : X.Ok) (I : Inv (X.sui v) pins σ H s) : Inv X pins σ H s := ⟨ok, I.os, I.bare, I.base, I.loc, I.cell, I.free, I.freeC, I.pin, I.hok, I.len⟩
/-- the name of an except suite goes -/
theorem goes_ok {M : Model} {A : Around} {E : Value → Shared → Prop} {i : Nat} {x : Str} {pos : Pos} {Q : Unit → Shared → Prop} (I : Inv X pins σ H s) (hN : X.N.Nodup) (hi : X.N[i]? = some x) (hk : X.env.scope.names.lookup x = some .local)
    (h : ∀ s', Inv X pins (σ.set i none) H s' → Q () s') : wpAny M A (do bindName X.env x .none; unbindBehindTheSuite X.env x pos) Q E s := by
  obtain ⟨m, hn, hl⟩ := id I.loc
  have hcls : (X.env.scope.kind == .class || (X.env.scope.kind == .module && X.env.locals != X.env.globals)) = false := by rw [I.ok.kind]; rfl
  have cne := I.cne
  refine wpAny_nameGoes_keeps hk hn hcls fun h' v hn' hs => ?_
  obtain ⟨oL, _, _, hoL, _⟩ := id hn
  have tracked : HOk X.prog X.w H h' := fun b ob e => by
    refine (I.hok b ob e).stay (fun c w' hc q => (hs.2 c ?_).trans q) (fun _ q => q) fun _ _ q => q
    rintro rfl
    rcases hc with rfl | hc
    · rw [I.free] at e; cases e
    · rw [I.free] at hc; cases hc
  refine h _ ⟨I.ok, I.os, I.bare, ⟨fun b o e n hb hx => ?_, fun b o e n hb hx => ?_, I.base.free, fun b o e hx => ?_, I.base.tups, I.base.frzs, I.base.tbls⟩, ⟨_, hn', fun j y v' e1 e2 e3 => ?_⟩, fun y c e => ?_, I.free, I.freeC, fun p hp => ?_, tracked, by simpa using I.len⟩
  · exact (hs.2 b (Nat.ne_of_lt (Nat.lt_of_lt_of_le (Heap.lt_size e) I.ok.above))).trans (I.base.keep b o e n hb hx)
  · obtain ⟨sl, e1⟩ := I.base.slot b o e n hb hx
    exact ⟨sl, (hs.2 b (Nat.ne_of_lt (Nat.lt_of_lt_of_le (Heap.lt_size e) I.ok.above))).trans e1⟩
  · obtain ⟨o', e1⟩ := I.base.there b o e hx
    exact ⟨o', (hs.2 b (Nat.ne_of_lt (Nat.lt_of_lt_of_le (Heap.lt_size e) I.ok.above))).trans e1⟩
  · by_cases hj : i = j
    · subst hj
      rw [List.getElem?_set_self (by have := (List.getElem?_eq_some_iff.mp hi).1; rw [I.len]; exact this)] at e2
      cases e2
    · rw [List.getElem?_set_ne hj] at e2
      obtain ⟨u', r', q⟩ := hl j y v' e1 e2 e3
      refine ⟨u', r', ?_⟩
      rcases q with ⟨k, e⟩ | ⟨k, c, e, z⟩
      · refine .inl ⟨k, ?_⟩
        have : y ≠ x := fun e => hj (nodup_ix hN hi (e ▸ e1))
        simp [this, e]
      · exact .inr ⟨k, c, e, z.sameBut hs (cne y c e)⟩
  · obtain ⟨w', z⟩ := I.cell y c e
    exact ⟨w', z.sameBut hs (cne y c e)⟩
  · obtain ⟨e, n, ne, nf, d⟩ := I.pin p hp
    exact ⟨(hs.2 p.1 ne).trans e, n, ne, nf, d⟩
theorem flight_same {M : Model} {A : Around} {E : Value → Shared → Prop} {a T : Addr} {Q : Unit → Shared → Prop} (I : Inv X pins σ H s) (fl : Fly s.heap H a T) (h : ∀ s', Inv X pins σ H s' → Fly s'.heap H a T → Q () s') : wpAny M A (setFlight (.ref a) none) Q E s := by
  obtain ⟨⟨o, vs, he, hd, h1⟩, hTa, hTn, oT, ts, hT, hdT, h3⟩ := fl
  refine wpAny_setFlight_none he hd h1 hT hdT (Array.getElem?_eq_some_iff.mp h3).1 ?_
  have same : ∀ b u, s.heap.get? b = some u → (s.heap.update T (Obj.mapFields (·.setIfInBounds 3 Value.none))).get? b = some u := fun b u e => by
    by_cases hb : b = T
    · subst hb
      have := Heap.get?_update_self (Obj.mapFields (·.setIfInBounds 3 Value.none)) hT (Obj.isFreed_of_fields (Obj.data_mapFields hdT _))
      rw [mapSame hdT h3] at this
      rw [hT] at e; cases e
      exact this
    · exact (Heap.get?_update_other _ _ (Ne.symm hb)).trans e
  exact h _ (I.kept (t' := s.toks) same) ⟨⟨o, vs, same _ _ he, hd, h1⟩, hTa, hTn, oT, ts, same _ _ hT, hdT, h3⟩
def XP (X : Cx) (pins : List (Addr × Obj)) (R : St → V → Hp → Prop) (e : Value) (s' : Shared) : Prop := ∃ a T C dx σ' H', e = .ref a ∧ Inv X pins σ' H' s' ∧ H' a = some (.ext (xObjQ a C dx)) ∧ Fly s'.heap H' a T ∧ R σ' (.ref a) H'
def PSx (X : Cx) (sts : List Stmt) (t : (St → V → Hp → Prop) → TS) : Prop :=
  ∀ (pins : List (Addr × Obj)) (s : Shared) (σ : St) (H : Hp) (D : Ends) (R : St → V → Hp → Prop), Inv X pins σ H s → t R D σ H → wpAny (model X.prog X.w) X.A (execs sts X.env) (SP X pins D) (XP X pins R) s
def PEx (X : Cx) (e : Expr) (t : (V → Hp → Prop) → TE) : Prop :=
  ∀ (pins : List (Addr × Obj)) (s : Shared) (σ : St) (H : Hp) (Q : VK) (R : V → Hp → Prop), Inv X pins σ H s → t R σ H Q → wpAny (model X.prog X.w) X.A (eval e X.env) (EP X pins σ Q) (XP X pins fun σ' v H' => σ' = σ ∧ R v H') s
def rxE (R : V → Hp → Prop) : XK := fun e _ H' => ∃ a, e = .ref a ∧ R (.ref a) H'
variable {e : Expr} {es : List Expr} {p pos apos : Pos} {x m : Str} {C : Addr} {t : TA} {te ta : TE}
theorem run_fnx {k : Nat} {f : Addr} {fd : FuncData} {ps : List Str} {sp : Sp} {Q : VK} {R : V → Hp → Prop} {us : List Value} {vs : List V} (F : FnOk X.prog X.w X.K X.mg X.base (CX1 X.prog X.w) k f fd ps sp) (hr : Room k X.A) (hb : Binds X.K fd ps [])
    (I : Inv X pins σ H s) (r : Vals vs us) (h : sp vs H Q (rxE R)) : wpAny (model X.prog X.w) X.A (call (.ref f) us) (EP X pins σ Q) (XP X pins fun σ' v H' => σ' = σ ∧ R v H') s := by
  have hl : us.length = ps.length := by rw [← r.length]; exact F.len _ _ _ _ h
  have bb := hb s us I.kIn (by rw [List.append_nil]; exact hl)
  rw [List.append_nil] at bb
  refine wpAny_call (codeAny_mono (F.run X.A X.stack s H ⟨us, []⟩ us vs Q (rxE R) hr I.env0 bb r h) fun r s' hq => ?_)
  cases r with
  | error e =>
    obtain ⟨a, T, C, dx, H', rfl, ho, hba, un, hok, ha, fl, a', ea, hR⟩ := hq
    cases ea
    exact ⟨a, T, C, dx, σ, H', rfl, I.call' (ch := []) ho un hok hba fun b z => absurd z (by simp), ha, fl, rfl, hR⟩
  | ok fl =>
    cases fl with
    | ret u => exact I.after hq
    | next => exact False.elim hq
    | brk => exact False.elim hq
    | cont => exact False.elim hq
def sSetx (i : Nat) (te : (V → Hp → Prop) → TE) (R : St → V → Hp → Prop) : TS := fun D σ H => te (R σ) σ H fun v H1 => D.nx (σ.set i (some v)) H1
theorem psx_set {i : Nat} {pos' : Pos} {te : (V → Hp → Prop) → TE} (hN : X.N.Nodup) (hi : X.N[i]? = some x) (hx : Loc X.env.scope x) (he : PEx X e te) (hs : swapsWith e (some (.Name x pos')) pos.line X.env = pure false := by rfl)
    (hf : X.fn x = true ∨ X.env.scope.names.lookup x = some .local := by first | exact .inl rfl | exact .inr rfl | assumption) : PSx X [.Assign [.Name x pos'] e pos] (sSetx i te) := by
  intro pins s σ H D R I h
  refine wpAny_execs_cons ?_
  refine wpAny_Assign_Name (wpAny_mono (he pins s σ H _ (R σ) I h) (fun u s1 ⟨y, H1, I1, ry, q⟩ => ?_) fun e s' ⟨a, T, C, dx, σ', H', r1, r2, r3, r4, e1, r5⟩ => ⟨a, T, C, dx, σ', H', r1, r2, r3, r4, by rw [e1]; exact r5⟩) hs
  exact store_ok I1 hN hi hx ry (fun s2 I2 => wpAny_execs_nil ⟨_, _, I2, q⟩) hf
def sTry (K : PySem.W.Frag) (M : Addr) (iy jn : Nat) (tb : (St → V → Hp → Prop) → TS) : TS := fun D σ H => tb (fun σ' v H' => ∃ a C fs, v = .ref a ∧ XAt H' a C fs ∧ PySem.W.exmOne K (.ref C) (.ref M) = some true ∧ D.nx (((σ'.set jn (some v)).set iy (some v)).set jn none) H') D σ H
theorem ps_try {body : List Stmt} {cx n y : Str} {M : Addr} {iy jn : Nat} {tb : (St → V → Hp → Prop) → TS} {p1 p2 p3 p4 p5 : Pos} (hx : ∀ e s, ¬ X.xe e s) (hst : X.stack = X.env :: X.outer) (hfr : X.env.frame = some X.env.locals) (hb : PSx X body tb)
    (hN : X.N.Nodup) (hj : X.N[jn]? = some n) (hn : X.env.scope.names.lookup n = some .local) (hi : X.N[iy]? = some y) (hy : Loc X.env.scope y) (hne : jn ≠ iy) (hg : Gl X cx) (hm : X.mg cx = some (.ref M)) (hdb : (cx == ("__debug__" : Str)) = false := by decide) (hdn : (n == ("__debug__" : Str)) = false := by decide) (hcn : (n == ("__classdict__" : Str)) = false := by decide)
    (hf : X.fn y = true ∨ X.env.scope.names.lookup y = some .local := by first | exact .inl rfl | exact .inr rfl | assumption)
    (hs : swapsWith (.Name n p3) (some (.Name y p2)) p4.line X.env = pure false := by rfl) :
    PS X (.Try body [.ExceptHandler (some (.Name cx p1)) (some n) [.Assign [.Name y p2] (.Name n p3) p4] p5] [] [] pos) (sTry X.K M iy jn tb) := by
  intro pins s σ H D I h
  refine wpAny_Try_except (wpAny_mono (hb pins s σ H D _ I h) (fun f s' z => by cases f <;> first | exact z | exact wpAny_execs_nil z) ?_)
  rintro e s1 ⟨a, T, C, dx, σ', H', rfl, I1, ha, fl, a', C', fs, ea, xa, em, q⟩
  cases ea
  refine noted_ok I1 hst hfr ha (.inr ⟨T, fl⟩) fun h' T' I2 fl2 _ => ?_
  have I2m := I2.sui (.ref a)
  refine wpAny_handleBy_cons (codeAny_handlers_test ?_) (by intro q; cases q)
  refine ld_glob (X := X.sui (.ref a)) I2m hg hm ?_ hdb
  obtain ⟨ox, od, ia⟩ := xa.at I2
  refine (exm_one (M := model X.prog X.w) I2.kIn ia.type em).here ?_
  refine codeAny_handlers_suite_as ?_
  refine flight_same I2 fl2 fun s3 I3 fl3 => ?_
  refine store_ok (i := jn) (x := n) (v := .ref a) I3 hN hj (.inl hn) rfl (fun s4 I4 => ?_) (.inr hn)
  have hp := pss_one (ps_set (X := (X.sui (.ref a)).nox) (pos := p4) (i := iy) (x := y) (pos' := p2) hN hi hy (pe_var (i := jn) (pos := p3) hj (.inl hn) hdn hcn) hs hf)
  refine wpAny_mono (hp pins s4 _ H' { nx := fun σ2 H2 => σ2 = ((σ'.set jn (some (.ref a))).set iy (some (.ref a))) ∧ H2 = H', rt := fun _ _ => False } ((I4.sui (.ref a)).wish _) ⟨_, ?_, rfl, rfl⟩) (fun f s5 z => ?_) fun _ _ z => z.elim
  · rw [List.getElem?_set_self]
    have := (List.getElem?_eq_some_iff.mp hj).1
    rw [I3.len]; exact this
  · cases f with
    | next =>
      obtain ⟨σ5, H5, I5, rfl, rfl⟩ := z
      have I6 : Inv X pins _ H5 s5 := Inv.unsui I2.ok I5.unwish
      exact goes_ok I6 hN hj hn fun s7 I7 => ⟨_, _, I7, q⟩
    | brk => obtain ⟨_, _, _, z⟩ := z; exact z.elim
    | cont => obtain ⟨_, _, _, z⟩ := z; exact z.elim
    | ret u => obtain ⟨_, _, _, _, _, z⟩ := z; exact z.elim
end
end L2
set_option Elab.async false
set_option linter.all false
set_option maxRecDepth 100000
set_option maxHeartbeats 2000000
namespace L2
open PySem PySem.Spec PyProof.Rows PySem.W
def XInit (P : Program) (w : World) (K : PySem.W.Frag) (mg : Str → Option Value) (base : Heap) (x : Str) (C : Addr) (ps : List Str) (sp : Sp) : Prop :=
  mg x = some (.ref C) ∧ PySem.W.keepIn K (.ref C) = true ∧ XOk K C ∧ ∃ f fd, PySem.W.findIn K (.ref C) "__init__" = some (some (.ref f)) ∧ PySem.W.isFn K (.ref f) = true ∧ Binds K fd ps [] ∧ FnOk P w K mg base CX0 1 f fd ps sp
def XBare (K : PySem.W.Frag) (mg : Str → Option Value) (x : Str) (C : Addr) : Prop :=
  mg x = some (.ref C) ∧ PySem.W.keepIn K (.ref C) = true ∧ XTy K C ∧ PySem.W.excIn K C bmV "ValueError.__new__" = true
def sp_x2 (C : Addr) (f g : Str) : Sp := fun vs H Q _ => ∃ a v u, vs = [.ref a, v, u] ∧ XD H a C none [] ∧ ∀ d H', XD H' a C (some d) [(f, v), (g, u)] → SetX a d none H H' → Q .non H'
theorem SetX.then2 {a d d2 : Addr} {H H1 H2 : Hp} (x : SetX a d none H H1) (y : SetX a d2 (some d) H1 H2) : d2 = d ∧ SetX a d none H H2 := by
  have e : d2 = d := by
    rcases y.dd with e | ⟨e, _⟩
    · exact (Option.some.inj e).symm
    · cases e
  subst e
  exact ⟨rfl, x.dd, fun b o hb h1 h2 => y.kp b o (x.kp b o hb h1 h2) h1 h2⟩
/-- all but a new refusal and its dict stays -/
theorem SetX.sm {a d : Addr} {H H1 H' : Hp} {o : HO} (hn : H a = none) (e : H1 = upd H a o) (x : SetX a d none H1 H') : Same H H' := by
  subst e
  intro b o hb
  refine x.kp b o (by rw [upd_ne (ne_of_none hb hn)]; exact hb) (ne_of_none hb hn) ?_
  rcases x.dd with z | ⟨_, z⟩
  · cases z
  · intro q
    subst q
    rw [upd_ne (ne_of_none hb hn), hb] at z
    cases z
section
variable {X : Cx} {e o : Expr} {es : List Expr} {t : TA} {ta : TE} {p pos apos : Pos} {x m : Str} {C : Addr}
theorem pe_xI {n : Nat} {ps : List Str} {sp : Sp} (h : XInit X.prog X.w X.K X.mg X.base x C ps sp) (hr : Room n X.A) (ha : PA X (e :: es) t) (hk : 2 ≤ n := by decide) (hg : Gl X x := by rfl) (hdb : (x == ("__debug__" : Str)) = false := by decide)
    (he : starEach (e :: es) X.env = (false, eval e X.env) :: starEach es X.env := by rfl) (hpl : (backTo pos (starEach es X.env)).any (·.1) = false := by rfl) : PE X (.Call (.Name x p) (e :: es) [] pos) (tXMake C sp t) := by
  obtain ⟨h1, h2, h3, f, fd, h4, h5, h6, h7⟩ := h
  exact pe_xmake h3 h4 h5 h7 (hr.mono hk) h6 h2 hg h1 ha hdb he hpl
theorem pe_x0 (h : XBare X.K X.mg x C) (ha : PA X (e :: es) t) (hg : Gl X x := by rfl) (hdb : (x == ("__debug__" : Str)) = false := by decide)
    (he : starEach (e :: es) X.env = (false, eval e X.env) :: starEach es X.env := by rfl) (hpl : (backTo pos (starEach es X.env)).any (·.1) = false := by rfl) : PE X (.Call (.Name x p) (e :: es) [] pos) (tXMake0 C t) := by
  obtain ⟨h1, h2, h3, h4⟩ := h
  exact pe_xmake0 h4 h2 hg h1 ha hdb he hpl
end
section
variable {P : Program} {w : World} {K : PySem.W.Frag} {mg : Str → Option Value} {base : Heap} {C : Addr}
end
section
variable {X : Cx} {pins : List (Addr × Obj)} {σ : St} {H : Hp} {s : Shared} {e o : Expr} {es : List Expr} {t : TA} {ta : TE} {p pos apos : Pos} {x m : Str} {C : Addr}
end
end L2
set_option Elab.async false
set_option linter.all false
set_option maxRecDepth 100000
set_option maxHeartbeats 2000000
namespace L2
open PySem PySem.Spec PyProof.Rows PySem.W
section
variable {X : Cx}
end
/-- a refusal with fields that is raised: how it lies then -/
theorem raised_x {H H' : Hp} {a d C : Addr} {fs : List (Str × V)} (hn : H a = none) (x : XD H' a C (some d) fs) (sx : SetX a d none (upd H a (.ext (xObjP a C none))) H') :
    H' a = some (.ext (xObjP a C (some d))) ∧ Same H (upd H' a (.ext (xObjQ a C (some d)))) ∧ XAt (upd H' a (.ext (xObjQ a C (some d)))) a C fs := by
  rcases x with ⟨e, _⟩ | ⟨d', e, h1, h2⟩
  · cases e
  cases e
  have nd : d ≠ a := by
    rcases sx.dd with z | ⟨_, z⟩
    · cases z
    · intro q
      subst q
      rw [upd_same] at z
      cases z
  refine ⟨h1, (SetX.sm hn rfl sx).at hn, .inr (.inr (.inr ⟨d, upd_same, ?_⟩))⟩
  rw [upd_ne nd]
  exact h2
end L2
set_option Elab.async false
set_option linter.all false
set_option maxRecDepth 100000
set_option maxHeartbeats 2000000
namespace L2
open PySem PySem.Spec PyProof.Rows PySem.W
section
variable {X : Cx}
/-- a list held against an empty one -/
def rNeNil (K : PySem.W.Frag) : R2 := fun x y H Q => ∃ p q xs, x = .ref p ∧ y = .ref q ∧ SqL K H p xs ∧ SqL K H q [] ∧ Q (.bl (!xs.isEmpty)) H
theorem op_neNil {k : Nat} (hr : Room k X.A) : OpR X (compareOp .NotEq) (rNeNil X.K) := by
  intro pins s σ H x y v u Q I rx ry h
  obtain ⟨p, q, xs, rfl, rfl, hp, hq, qq⟩ := h
  cases rx
  cases ry
  obtain ⟨its, r, pl, hz⟩ := I.list hp
  obtain ⟨its2, r2, pl2, hz2⟩ := I.list hq
  cases r2
  have hu : X.A.units < cLine := by have := hu_of hr; omega
  have hl := r.length
  cases xs with
  | nil =>
    cases r
    exact SeqAt.RcNeAt.lists (e := fun _ => true) pl.isList pl2.isList rfl hu (fun j h1 => by simp at h1) _ _ _ _ ⟨.bl _, H, I, rfl, qq⟩
  | cons a b => exact SeqAt.RcNeAt.lists_lengths pl.isList pl2.isList (by rw [List.size_toArray, ← hl]; rfl) hu _ _ _ _ ⟨.bl _, H, I, rfl, qq⟩
end
end L2
namespace Mx
open PySem L2 PyProof.Rows
section
variable {X : Cx} {o e : Expr} {es : List Expr} {te to : TE} {t : TA} {pos p2 : Pos}
theorem qe_sl {lo hi : Option Expr} {tl th : TO} {r : V → Option Int → Option Int → Hp → VK → Prop} (hr : SlR X r) (he : QE X e te) (hl : PO X lo tl) (hu : PO X hi th) : QE X (.Subscript e (.Slice lo hi none p2) pos) (tSl r te tl th) := ⟨pe_slice hr he.of hl hu⟩
end
end Mx
set_option Elab.async false
set_option linter.all false
set_option maxRecDepth 100000
set_option maxHeartbeats 2000000
namespace L2
open PySem PySem.Spec PyProof.Rows PySem.W
def AtX (H : Hp) (v : V) (d : PyData) : Prop := At H v d ∨ (d = .dict [] ∧ ∃ a, v = .ref a ∧ H a = some (.dK []))
theorem AtX.same {H H' : Hp} {v : V} {d : PyData} (h : AtX H v d) (s : Same H H') : AtX H' v d := by
  rcases h with h | ⟨e, a, ea, h⟩
  · exact .inl (h.same s)
  · exact .inr ⟨e, a, ea, s _ _ h⟩
def tyD : PyData → Value
  | .none => .type "NoneType"
  | .bool _ => .type "bool"
  | .int _ => .type "int"
  | .str _ => .type "str"
  | .list _ => .type "list"
  | .tuple _ => .type "tuple"
  | .dict _ => .type "dict"
theorem AtX.ty {K : PySem.W.Frag} {H : Hp} {v : V} {d : PyData} (h : AtX H v d) : TyOf K H v (tyD d) := by
  rcases h with h | ⟨e, a, ea, h⟩
  · cases h with
    | non => exact .non
    | bl b => exact .bl b
    | int i => exact .int i
    | str x => exact .str x
    | lst e _ => exact .lst e
    | tup e _ => exact .tup e
  · subst e ea
    exact .dK h
def isTup : PyData → Bool | .tuple _ => true | _ => false
def isLst : PyData → Bool | .list _ => true | _ => false
def isStr : PyData → Bool | .str _ => true | _ => false
def isInt : PyData → Bool | .int _ => true | .bool _ => true | _ => false
def isBl : PyData → Bool | .bool _ => true | _ => false
theorem kit_tup {K : PySem.W.Frag} (d : PyData) : PySem.W.kitOne K (tyD d) (.type "tuple") = some (isTup d) := by cases d <;> rfl
theorem kit_lst {K : PySem.W.Frag} (d : PyData) : PySem.W.kitOne K (tyD d) (.type "list") = some (isLst d) := by cases d <;> rfl
theorem kit_str {K : PySem.W.Frag} (d : PyData) : PySem.W.kitOne K (tyD d) (.type "str") = some (isStr d) := by cases d <;> rfl
theorem kit_int {K : PySem.W.Frag} (d : PyData) : PySem.W.kitOne K (tyD d) (.type "int") = some (isInt d) := by cases d <;> rfl
theorem kit_bl {K : PySem.W.Frag} (d : PyData) : PySem.W.kitOne K (tyD d) (.type "bool") = some (isBl d) := by cases d <;> rfl
section
variable {X : Cx}
def rReprX : List V → Hp → VK → Prop := fun xs H Q => ∃ x d, xs = [x] ∧ AtX H x d ∧ d.showable = true ∧ d.depth ≤ 60 ∧ d.shown.length ≤ sizeLine ∧ Q (.str d.shown) H
theorem call_reprX {k : Nat} (hr : Room k X.A) : CallR X (.builtin "repr") rReprX := by
  intro pins s σ H xs us Q I r h
  obtain ⟨x, d, rfl, ha, hs, hd, hz, q⟩ := h
  rcases ha with ha | ⟨e, a, ea, ha⟩
  · exact call_repr hr pins s σ H [x] us Q I r ⟨x, d, rfl, ha, hs, hd, hz, q⟩
  · subst e ea
    cases r with
    | cons r rr =>
      cases rr
      cases r
      obtain ⟨_, hm, vs, kv, o, es, ep, e1, e2, e3, e4, e5, _⟩ := I.hok a _ ha
      cases kv
      have hes : es.toList = [] := by
        revert e5
        generalize es.toList = l
        intro e5
        cases e5
        rfl
      have rd : Reads s.heap (.ref a) (.dict []) (a :: [] ++ []) := .dict e1 e2.1 e3 (by rw [hes]; exact .nil) (by rw [hes]; exact .nil)
      have hu := hr.units
      refine repr_of_reads' rd hs (fun _ hmem => ?_) hr.gd (by omega) (fun _ _ z => z) (fun h' u tk hk => ?_) hz
      · have : sysModules = a := by simpa using hmem
        rw [this] at hm
        simp at hm
      · exact ⟨.str _, H, I.kept hk, ⟨_, rfl⟩, q⟩
def FnR (X : Cx) (n : Nat) (f : Addr) (vs : List V) (H : Hp) (Q : VK) (E : XK) : Prop := ∃ k fd ps sp, k ≤ n ∧ Binds X.K fd ps [] ∧ FnOk X.prog X.w X.K X.mg X.base (CX1 X.prog X.w) k f fd ps sp ∧ sp vs H Q E
def tCallEx (X : Cx) (n : Nat) (tf : TE) (t : TA) (R : V → Hp → Prop) : TE := fun σ H Q => tf σ H fun x H1 => ∃ f, x = .ref f ∧ PySem.W.keepIn X.K (.ref f) = true ∧ t σ H1 fun vs H2 => FnR X n f vs H2 Q (rxE R)
theorem pex_callE {n : Nat} {fe e : Expr} {es : List Expr} {tf : TE} {t : TA} {pos : Pos} (hx : ∀ e s, ¬ X.xe e s) (hr : Room n X.A) (hf : PE X fe tf) (ha : PA X (e :: es) t)
    (he : starEach (e :: es) X.env = (false, eval e X.env) :: starEach es X.env := by rfl) (hpl : (backTo pos (starEach es X.env)).any (·.1) = false := by rfl)
    (hc : eval (.Call fe (e :: es) [] pos) X.env = (do callWith pos (← eval fe X.env) [] (backTo pos (starEach (e :: es) X.env)) (backToKw pos (keywordEach [] X.env))) := by rfl) :
    PEx X (.Call fe (e :: es) [] pos) (tCallEx X n tf t) := by
  intro pins s σ H Q R I h'
  refine Call_ (wpAny_mono (hf pins s σ H _ I h') (fun u s1 ⟨x, H1, I1, rx, f, ex, kp, q⟩ => ?_) fun e s z => (hx e s z).elim) hc
  subst ex
  obtain rfl : u = Value.ref f := rx
  refine PySem.W.callWith_K (h₀ := X.base) I.ok.mod.kin kp (wpAny_mono (ha pos pins s1 σ H1 _ I1 q) (fun us s2 ⟨vs, H2, I2, r, q2⟩ => ⟨I2.kIn, ?_⟩) fun e s z => (hx e s z).elim) he hpl
  obtain ⟨k, fd, ps, sp, hk, hb, F, hsp⟩ := q2
  exact run_fnx F (hr.mono hk) hb I2 r hsp
end
end L2
set_option Elab.async false
set_option linter.all false
set_option maxRecDepth 100000
set_option maxHeartbeats 4000000
namespace Mm
open PySem L2 PyProof.Rows
def top (i : Nat) : Stmt := PySem.Challenge.pw_marchmend_k01_tests_looked_at.main.body.getD i (.Pass ⟨0, 0, 0, 0⟩)
abbrev Stp := Bool × Bool
abbrev Elm := Str × List Stp
def b2i (b : Bool) : Int := if b then 1 else 0
def stepL (w : Bool) : Str := if w then "w" else "r"
def stepD (s : Stp) : PyData := .tuple [.str (stepL s.1), .int (b2i s.2)]
def elemD (e : Elm) : PyData := .tuple [.str e.1, .list (e.2.map stepD)]
def testD (T : List Elm) : PyData := .list (T.map elemD)
def okO (o : Str) : Prop := o = "up" ∨ o = "down" ∨ o = "any"
def okE (e : Elm) : Prop := okO e.1 ∧ 1 ≤ e.2.length ∧ e.2.length ≤ 6
def okT (T : List Elm) : Prop := 1 ≤ T.length ∧ T.length ≤ 8 ∧ ∀ e ∈ T, okE e
theorem step_at {H : Hp} {v : V} {s : Stp} (h : At H v (stepD s)) : ∃ a, v = .ref a ∧ H a = some (.tup [.str (stepL s.1), .int (b2i s.2)]) := by
  obtain ⟨a, vs, rfl, h1, h2⟩ := h.tupEq
  cases h2 with
  | cons x r =>
    cases r with
    | cons y r =>
      cases r
      rw [x.strEq, y.intEq] at h1
      exact ⟨a, rfl, h1⟩
theorem elem_at {H : Hp} {v : V} {e : Elm} (h : At H v (elemD e)) : ∃ a l ws, v = .ref a ∧ H a = some (.tup [.str e.1, .ref l]) ∧ H l = some (.lst ws) ∧ AtAll H ws (e.2.map stepD) := by
  obtain ⟨a, vs, rfl, h1, h2⟩ := h.tupEq
  cases h2 with
  | cons x r =>
    cases r with
    | cons y r =>
      cases r
      obtain ⟨l, ws, rfl, h3, h4⟩ := y.lstEq
      rw [x.strEq] at h1
      exact ⟨a, l, ws, rfl, h1, h3, h4⟩
theorem iteB {b : Bool} {A B : Prop} (hb : b = true) (h : A) : if b = true then A else B := by
  rw [if_pos hb]; exact h
theorem iteN {b : Bool} {A B : Prop} (hb : b = false) (h : B) : if b = true then A else B := by
  rw [if_neg (by rw [hb]; exact Bool.false_ne_true)]; exact h
theorem iteD {c : Prop} [Decidable c] {A B : Prop} (hc : c) (h : A) : if decide c = true then A else B := iteB (decide_eq_true hc) h
theorem inV_letters (b : Bool) : inV (.str (stepL b)) [.str "r", .str "w"] = true := by cases b <;> decide +kernel
theorem inV_orders {o : Str} (h : okO o) : inV (.str o) [.str "up", .str "down", .str "any"] = true := by
  rcases h with rfl | rfl | rfl <;> decide +kernel
section
variable {P : Program} {w : World} {K : PySem.W.Frag} {mg : Str → Option Value} {base : Heap}
def sp_is_whole : Sp := fun vs H Q _ => ∃ i, vs = [.int i] ∧ Q (.bl true) H
abbrev s_is_whole : Stmt := top 20
theorem sc_is_whole : FnScope ["thing"] ["thing"] (defScope s_is_whole) := ⟨rfl, rfl, rfl, by decide +kernel, rfl, by decide +kernel, by decide +kernel⟩
/- slots: 0 thing -/
theorem ok_is_whole (B : Bl mg) (F : FnAt K mg "is_whole" s_is_whole ["thing"]) : Has P w K mg base 1 "is_whole" ["thing"] sp_is_whole := by
  refine Has.of F sc_is_whole (fun vs H Q E h => ?_) (fun f cdv A outer s H vs Q E hr h => ?_)
  · obtain ⟨i, rfl, _⟩ := h
    rfl
  · obtain ⟨i, rfl, k⟩ := h
    have sc := sc_is_whole
    refine ⟨_, (pss_one (ps_ret (pe_and (pe_callB call_isi rfl (B.of rfl) boot_isinstance (pa_cons (pv 0) (pa_cons (pe_bltn (v := .ty "int") rfl (B.of rfl) boot_int rfl) pa_nil))) (pe_one (pe_not (pe_callB call_isi rfl (B.of rfl) boot_isinstance (pa_cons (pv 0) (pa_cons (pe_bltn (v := .ty "bool") rfl (B.of rfl) boot_bool rfl) pa_nil)))))))), ?_⟩
    refine ⟨_, rfl, _, _, _, _, rfl, .int i, rfl, _, rfl, iteT ?_⟩
    refine ⟨_, rfl, _, _, _, _, rfl, .int i, rfl, _, rfl, ?_⟩
    exact k

def sp_is_bit : Sp := fun vs H Q _ => ∃ b, vs = [.int (b2i b)] ∧ ∀ H', Same H H' → Q (.bl true) H'
abbrev s_is_bit : Stmt := top 21
theorem sc_is_bit : FnScope ["thing"] ["thing"] (defScope s_is_bit) := ⟨rfl, rfl, rfl, by decide +kernel, rfl, by decide +kernel, by decide +kernel⟩
/- slots: 0 thing -/
theorem ok_is_bit (h_is_whole : Has P w K mg base 1 "is_whole" ["thing"] sp_is_whole) (F : FnAt K mg "is_bit" s_is_bit ["thing"]) : Has P w K mg base 2 "is_bit" ["thing"] sp_is_bit := by
  refine Has.of F sc_is_bit (fun vs H Q E h => ?_) (fun f cdv A outer s H vs Q E hr h => ?_)
  · obtain ⟨i, rfl, _⟩ := h
    rfl
  · obtain ⟨b, rfl, k⟩ := h
    have sc := sc_is_bit
    refine ⟨_, (pss_one (ps_ret (pe_and (pe_callH h_is_whole hr (pa_cons (pv 0) pa_nil)) (pe_one (pe_cmpR op_in_seq (pv 0) (pe_tup (pa_cons pe_int (pa_cons pe_int pa_nil))) (by with_unfolding_all rfl)))))), ?_⟩
    refine ⟨_, rfl, _, rfl, _, rfl, iteT ?_⟩
    refine ⟨_, rfl, (by show 2 ≤ sizeLine; decide), fun p hp => ⟨p, _, rfl, .inr (SqT.of upd_same), rfl, rfl, ?_⟩⟩
    cases b <;> exact k _ (Same.upd (Same.refl _) hp)
def sp_is_one_of (K : PySem.W.Frag) : Sp := fun vs H Q _ => ∃ x a xs, vs = [.str x, .ref a] ∧ (∀ H', SqT K H' a xs) ∧ xs.all flatV = true ∧ Q (.bl (inV (.str x) xs)) H
abbrev s_is_one_of : Stmt := top 22
theorem sc_is_one_of : FnScope ["thing", "words"] ["thing", "words"] (defScope s_is_one_of) := ⟨rfl, rfl, rfl, by decide +kernel, rfl, by decide +kernel, by decide +kernel⟩
/- slots: 0 thing, 1 words -/
theorem ok_is_one_of (B : Bl mg) (F : FnAt K mg "is_one_of" s_is_one_of ["thing", "words"]) : Has P w K mg base 1 "is_one_of" ["thing", "words"] (sp_is_one_of K) := by
  refine Has.of F sc_is_one_of (fun vs H Q E h => ?_) (fun f cdv A outer s H vs Q E hr h => ?_)
  · obtain ⟨x, a, xs, rfl, _⟩ := h
    rfl
  · obtain ⟨x, a, xs, rfl, hq, hf, k⟩ := h
    have sc := sc_is_one_of
    refine ⟨_, (pss_one (ps_ret (pe_and (pe_callB call_isi rfl (B.of rfl) boot_isinstance (pa_cons (pv 0) (pa_cons (pe_bltn (v := .ty "str") rfl (B.of rfl) boot_str rfl) pa_nil))) (pe_one (pe_cmpR op_in_seq (pv 0) (pv 1) (by with_unfolding_all rfl)))))), ?_⟩
    refine ⟨_, rfl, _, _, _, _, rfl, .str x, rfl, _, rfl, iteT ?_⟩
    exact ⟨_, rfl, _, rfl, a, xs, rfl, .inr (hq _), rfl, hf, k⟩
def sp_is_pair : Sp := fun vs H Q _ => ∃ a u v, vs = [.ref a] ∧ H a = some (.tup [u, v]) ∧ Q (.bl true) H
abbrev s_is_pair : Stmt := top 23
theorem sc_is_pair : FnScope ["thing"] ["thing"] (defScope s_is_pair) := ⟨rfl, rfl, rfl, by decide +kernel, rfl, by decide +kernel, by decide +kernel⟩
/- slots: 0 thing -/
theorem ok_is_pair (B : Bl mg) (F : FnAt K mg "is_pair" s_is_pair ["thing"]) : Has P w K mg base 1 "is_pair" ["thing"] sp_is_pair := by
  refine Has.of F sc_is_pair (fun vs H Q E h => ?_) (fun f cdv A outer s H vs Q E hr h => ?_)
  · obtain ⟨a, u, v, rfl, _⟩ := h
    rfl
  · obtain ⟨a, u, v, rfl, ha, k⟩ := h
    have sc := sc_is_pair
    refine ⟨_, (pss_one (ps_ret (pe_and (pe_callB call_isi rfl (B.of rfl) boot_isinstance (pa_cons (pv 0) (pa_cons (pe_bltn (v := .ty "tuple") rfl (B.of rfl) boot_tuple rfl) pa_nil))) (pe_one (pe_cmpR op_eq (pe_callB call_len_seq rfl (B.of rfl) boot_len (pa_cons (pv 0) pa_nil)) pe_int (nomark _)))))), ?_⟩
    refine ⟨_, rfl, _, _, _, _, rfl, .tup ha, rfl, _, rfl, iteT ?_⟩
    exact ⟨_, rfl, a, _, rfl, .inr (SqT.of ha), rfl, k⟩
def sp_is_filled : Sp := fun vs H Q _ => ∃ a xs n, vs = [.ref a, .int n] ∧ H a = some (.lst xs) ∧ 0 < xs.length ∧ (xs.length : Int) ≤ n ∧ Q (.bl true) H
abbrev s_is_filled : Stmt := top 24
theorem sc_is_filled : FnScope ["thing", "most"] ["thing", "most"] (defScope s_is_filled) := ⟨rfl, rfl, rfl, by decide +kernel, rfl, by decide +kernel, by decide +kernel⟩
/- slots: 0 thing, 1 most -/
theorem ok_is_filled (B : Bl mg) (F : FnAt K mg "is_filled" s_is_filled ["thing", "most"]) : Has P w K mg base 1 "is_filled" ["thing", "most"] sp_is_filled := by
  refine Has.of F sc_is_filled (fun vs H Q E h => ?_) (fun f cdv A outer s H vs Q E hr h => ?_)
  · obtain ⟨a, xs, n, rfl, _⟩ := h
    rfl
  · obtain ⟨a, xs, n, rfl, ha, h1, h2, k⟩ := h
    have sc := sc_is_filled
    refine ⟨_, (pss_one (ps_ret (pe_and (pe_callB call_isi rfl (B.of rfl) boot_isinstance (pa_cons (pv 0) (pa_cons (pe_bltn (v := .ty "list") rfl (B.of rfl) boot_list rfl) pa_nil))) (pe_and (pe_cmpR op_gt (pe_callB call_len_seq rfl (B.of rfl) boot_len (pa_cons (pv 0) pa_nil)) pe_int (nomark _)) (pe_one (pe_cmpR op_le (pe_callB call_len_seq rfl (B.of rfl) boot_len (pa_cons (pv 0) pa_nil)) (pv 1) (nomark _))))))), ?_⟩
    refine ⟨_, rfl, _, _, _, _, rfl, .lst ha, rfl, _, rfl, iteT ?_⟩
    refine ⟨_, rfl, a, _, rfl, .inl (SqL.of ha), _, _, rfl, rfl, _, rfl, iteD (by omega) ?_⟩
    refine ⟨_, rfl, a, _, rfl, .inl (SqL.of ha), _, rfl, _, _, rfl, rfl, ?_⟩
    show Q (.bl (decide ((xs.length : Int) ≤ n))) H
    rw [decide_eq_true h2]
    exact k
def sp_is_step : Sp := fun vs H Q _ => ∃ v s, vs = [v] ∧ At H v (stepD s) ∧ ∀ H', Same H H' → Q (.bl true) H'
abbrev s_is_step : Stmt := top 25
theorem sc_is_step : FnScope ["thing"] ["thing"] (defScope s_is_step) := ⟨rfl, rfl, rfl, by decide +kernel, rfl, by decide +kernel, by decide +kernel⟩
/- slots: 0 thing -/
theorem ok_is_step (g_LETTERS : GTup K mg "LETTERS" [.str "r", .str "w"]) (h_is_pair : Has P w K mg base 1 "is_pair" ["thing"] sp_is_pair) (h_is_one_of : Has P w K mg base 1 "is_one_of" ["thing", "words"] (sp_is_one_of K))
    (h_is_bit : Has P w K mg base 2 "is_bit" ["thing"] sp_is_bit) (F : FnAt K mg "is_step" s_is_step ["thing"]) : Has P w K mg base 3 "is_step" ["thing"] sp_is_step := by
  refine Has.of F sc_is_step (fun vs H Q E h => ?_) (fun f cdv A outer s H vs Q E hr h => ?_)
  · obtain ⟨v, s, rfl, _⟩ := h
    rfl
  · obtain ⟨v, ⟨sw, sb⟩, rfl, hv, k⟩ := h
    obtain ⟨a, rfl, ha⟩ := step_at hv
    have sc := sc_is_step
    refine ⟨_, (pss_one (ps_ret (pe_and (pe_callH h_is_pair hr (pa_cons (pv 0) pa_nil)) (pe_and (pe_callH h_is_one_of hr (pa_cons (pe_ix ix_tup (pv 0) pe_int (fun _ _ => rfl)) (pa_cons (pe_gtup g_LETTERS) pa_nil))) (pe_one (pe_callH h_is_bit hr (pa_cons (pe_ix ix_tup (pv 0) pe_int (fun _ _ => rfl)) pa_nil))))))), ?_⟩
    refine ⟨_, rfl, a, _, _, rfl, ha, _, rfl, iteT ?_⟩
    refine ⟨_, rfl, a, _, _, _, rfl, rfl, SqT.of ha, rfl, fun aL hL => ⟨stepL sw, aL, _, rfl, hL, rfl, _, rfl, iteB (inV_letters sw) ?_⟩⟩
    exact ⟨_, rfl, a, _, _, _, rfl, rfl, SqT.of ha, rfl, sb, rfl, k⟩
def sp_is_framed : Sp := fun vs H Q _ => ∃ v e, vs = [v] ∧ At H v (elemD e) ∧ okE e ∧ Q (.bl true) H
abbrev s_is_framed : Stmt := top 26
theorem sc_is_framed : FnScope ["thing"] ["thing"] (defScope s_is_framed) := ⟨rfl, rfl, rfl, by decide +kernel, rfl, by decide +kernel, by decide +kernel⟩
/- slots: 0 thing -/
theorem ok_is_framed (g_ORDERS : GTup K mg "ORDERS" [.str "up", .str "down", .str "any"]) (g_MOST_IN_ELEMENT : ∃ t, mg "MOST_IN_ELEMENT" = some (.int 6 t)) (h_is_pair : Has P w K mg base 1 "is_pair" ["thing"] sp_is_pair)
    (h_is_one_of : Has P w K mg base 1 "is_one_of" ["thing", "words"] (sp_is_one_of K)) (h_is_filled : Has P w K mg base 1 "is_filled" ["thing", "most"] sp_is_filled) (F : FnAt K mg "is_framed" s_is_framed ["thing"]) : Has P w K mg base 2 "is_framed" ["thing"] sp_is_framed := by
  refine Has.of F sc_is_framed (fun vs H Q E h => ?_) (fun f cdv A outer s H vs Q E hr h => ?_)
  · obtain ⟨v, s, rfl, _⟩ := h
    rfl
  · obtain ⟨v, e, rfl, hv, ⟨h1, h2, h3⟩, k⟩ := h
    obtain ⟨a, l, ws, rfl, ha, hl, hw⟩ := elem_at hv
    have hlen := hw.length
    rw [List.length_map] at hlen
    have sc := sc_is_framed
    refine ⟨_, (pss_one (ps_ret (pe_and (pe_callH h_is_pair hr (pa_cons (pv 0) pa_nil)) (pe_and (pe_callH h_is_one_of hr (pa_cons (pe_ix ix_tup (pv 0) pe_int (fun _ _ => rfl)) (pa_cons (pe_gtup g_ORDERS) pa_nil))) (pe_one (pe_callH h_is_filled hr (pa_cons (pe_ix ix_tup (pv 0) pe_int (fun _ _ => rfl)) (pa_cons (pe_gint g_MOST_IN_ELEMENT) pa_nil)))))))), ?_⟩
    refine ⟨_, rfl, a, _, _, rfl, ha, _, rfl, iteT ?_⟩
    refine ⟨_, rfl, a, _, _, _, rfl, rfl, SqT.of ha, rfl, fun aL hL => ⟨e.1, aL, _, rfl, hL, rfl, _, rfl, iteB (inV_orders h1) ?_⟩⟩
    exact ⟨_, rfl, a, _, _, _, rfl, rfl, SqT.of ha, rfl, l, ws, 6, rfl, hl, by omega, by omega, k⟩
def sp_look_at_element : Sp := fun vs H Q _ => ∃ n v e, vs = [.int n, v] ∧ At H v (elemD e) ∧ okE e ∧ ∀ H', Same H H' → Q .non H'
abbrev s_look_at_element : Stmt := top 27
theorem sc_look_at_element : FnScope ["number", "thing", "place", "step"] ["number", "thing"] (defScope s_look_at_element) := ⟨rfl, rfl, rfl, by decide +kernel, rfl, by decide +kernel, by decide +kernel⟩
/- slots: 0 number, 1 thing, 2 place, 3 step -/
theorem ok_look_at_element (B : Bl mg) (h_is_framed : Has P w K mg base 2 "is_framed" ["thing"] sp_is_framed) (h_is_step : Has P w K mg base 3 "is_step" ["thing"] sp_is_step) (F : FnAt K mg "look_at_element" s_look_at_element ["number", "thing"]) :
    Has P w K mg base 4 "look_at_element" ["number", "thing"] sp_look_at_element := by
  refine Has.of F sc_look_at_element (fun vs H Q E h => ?_) (fun f cdv A outer s H vs Q E hr h => ?_)
  · obtain ⟨n, v, s, rfl, _⟩ := h
    rfl
  · obtain ⟨n, v, e, rfl, hv, he, k⟩ := h
    obtain ⟨a, l, ws, rfl, ha, hl, hw⟩ := elem_at hv
    have sc := sc_look_at_element
    refine ⟨_, (pss_cons (ps_if (pt_not (pt_val (pe_callH h_is_framed hr (pa_cons (pv 1) pa_nil))))
        (pss_one ps_never)
        pss_nil)
      (pss_one (ps_for PassesOwn.never rfl (pi_enum rfl (B.of rfl) (pa_cons (pe_ix ix_tup (pv 1) pe_int (fun _ _ => rfl)) pa_nil)) (pg_tup rfl (pgs_cons (pg_name (i := 2) sc.nd rfl (Or.inl rfl)) (pgs_cons (pg_name (i := 3) sc.nd rfl (Or.inl rfl)) pgs_nil)))
        (pss_one (ps_if (pt_not (pt_val (pe_callH h_is_step hr (pa_cons (pv 3) pa_nil))))
          (pss_one ps_never)
          pss_nil))))), ?_⟩
    refine ⟨_, rfl, _, e, rfl, hv, he, true, rfl, iteF ?_⟩
    refine ⟨_, rfl, a, _, _, _, rfl, rfl, SqT.of ha, rfl, l, ws, rfl, SqL.of hl, for_enum (xs := ws) (fun i σ H2 => ∃ p q, σ = [some (.int n), some (.ref a), p, q] ∧ Same H H2) ⟨none, none, rfl, Same.refl _⟩
      (fun i σ H2 _ ⟨_, _, _, s2⟩ => SqL.of (s2 _ _ hl)) ?_ (fun σ H2 ⟨_, _, _, s2⟩ => k H2 s2)⟩
    rintro i x p σ H2 hx ⟨_, _, rfl, s2⟩ hp
    obtain ⟨d, hd, hat⟩ := hw.get hx
    rw [List.getElem?_map] at hd
    cases es : e.2[i]? with
    | none => rw [es] at hd; cases hd
    | some st =>
      rw [es] at hd
      cases hd
      have s3 : Same H (upd H2 p (.tup [.int i, x])) := s2.upd hp
      refine ⟨p, _, rfl, SqT.of upd_same, rfl, _, _, rfl, _, _, rfl, rfl, ?_⟩
      refine ⟨_, rfl, x, st, rfl, hat.same s3, fun H3 s4 => ⟨true, rfl, iteF ⟨_, _, rfl, s3.trans s4⟩⟩⟩
def sp_look_at_test : Sp := fun vs H Q _ => ∃ v T, vs = [v] ∧ At H v (testD T) ∧ okT T ∧ ∀ H', Same H H' → Q .non H'
abbrev s_look_at_test : Stmt := top 28
theorem sc_look_at_test : FnScope ["thing", "number", "element"] ["thing"] (defScope s_look_at_test) := ⟨rfl, rfl, rfl, by decide +kernel, rfl, by decide +kernel, by decide +kernel⟩
/- slots: 0 thing, 1 number, 2 element -/
theorem ok_look_at_test (B : Bl mg) (g_MOST_IN_TEST : ∃ t, mg "MOST_IN_TEST" = some (.int 8 t)) (h_is_filled : Has P w K mg base 1 "is_filled" ["thing", "most"] sp_is_filled) (h_look_at_element : Has P w K mg base 4 "look_at_element" ["number", "thing"] sp_look_at_element)
    (F : FnAt K mg "look_at_test" s_look_at_test ["thing"]) : Has P w K mg base 5 "look_at_test" ["thing"] sp_look_at_test := by
  refine Has.of F sc_look_at_test (fun vs H Q E h => ?_) (fun f cdv A outer s H vs Q E hr h => ?_)
  · obtain ⟨v, s, rfl, _⟩ := h
    rfl
  · obtain ⟨v, T, rfl, hv, ⟨h1, h2, h3⟩, k⟩ := h
    obtain ⟨l, ws, rfl, hl, hw⟩ := hv.lstEq
    have hlen := hw.length
    rw [List.length_map] at hlen
    have sc := sc_look_at_test
    refine ⟨_, (pss_cons (ps_if (pt_not (pt_val (pe_callH h_is_filled hr (pa_cons (pv 0) (pa_cons (pe_gint g_MOST_IN_TEST) pa_nil)))))
        (pss_one ps_never)
        pss_nil)
      (pss_one (ps_for PassesOwn.never rfl (pi_enum rfl (B.of rfl) (pa_cons (pv 0) pa_nil)) (pg_tup rfl (pgs_cons (pg_name (i := 1) sc.nd rfl (Or.inl rfl)) (pgs_cons (pg_name (i := 2) sc.nd rfl (Or.inl rfl)) pgs_nil)))
        (pss_one (ps_expr (pe_callH h_look_at_element hr (pa_cons (pv 1) (pa_cons (pv 2) pa_nil)))))))), ?_⟩
    refine ⟨_, rfl, l, ws, 8, rfl, hl, by omega, by omega, true, rfl, iteF ?_⟩
    refine ⟨_, rfl, l, ws, rfl, SqL.of hl, for_enum (xs := ws) (fun i σ H2 => ∃ p q, σ = [some (.ref l), p, q] ∧ Same H H2) ⟨none, none, rfl, Same.refl _⟩
      (fun i σ H2 _ ⟨_, _, _, s2⟩ => SqL.of (s2 _ _ hl)) ?_ (fun σ H2 ⟨_, _, _, s2⟩ => k H2 s2)⟩
    rintro i x p σ H2 hx ⟨_, _, rfl, s2⟩ hp
    obtain ⟨d, hd, hat⟩ := hw.get hx
    rw [List.getElem?_map] at hd
    cases es : T[i]? with
    | none => rw [es] at hd; cases hd
    | some e =>
      rw [es] at hd
      cases hd
      have s3 : Same H (upd H2 p (.tup [.int i, x])) := s2.upd hp
      refine ⟨p, _, rfl, SqT.of upd_same, rfl, _, _, rfl, _, _, rfl, rfl, ?_⟩
      exact ⟨_, rfl, _, rfl, _, x, e, rfl, hat.same s3, h3 e (List.mem_of_getElem? es), fun H3 s4 => ⟨_, _, rfl, s3.trans s4⟩⟩
end
end Mm
set_option Elab.async false
set_option linter.all false
set_option maxRecDepth 100000
set_option maxHeartbeats 4000000
namespace Mm
open PySem L2 PyProof.Rows
def steps (T : List Elm) : List Stp := T.flatMap (·.2)
theorem steps_len : ∀ {T : List Elm}, (∀ e ∈ T, okE e) → (steps T).length ≤ 6 * T.length
  | [], _ => by simp [steps]
  | e :: r, h => by
    have h1 := (h e List.mem_cons_self).2.2
    have h2 := steps_len (T := r) fun x hx => h x (List.mem_cons_of_mem _ hx)
    unfold steps at h2 ⊢
    rw [List.flatMap_cons, List.length_append, List.length_cons]
    omega
theorem steps_take {T : List Elm} {i : Nat} {e : Elm} (h : T[i]? = some e) : steps (T.take (i + 1)) = steps (T.take i) ++ e.2 := by
  obtain ⟨hi, he⟩ := List.getElem?_eq_some_iff.mp h
  subst he
  unfold steps
  rw [List.take_add_one, List.flatMap_append]
  simp [hi]
def isSure : Option Bool → List Stp → Bool
  | _, [] => true
  | _, (true, b) :: r => isSure (some b) r
  | k, (false, b) :: r => if k = some b then isSure k r else false
def kv : Option Bool → V
  | none => .non
  | some b => .int (b2i b)
theorem map_get {α β : Type} {f : α → β} {l : List α} {i : Nat} {d : β} (h : (l.map f)[i]? = some d) : ∃ x, l[i]? = some x ∧ d = f x := by
  rw [List.getElem?_map] at h
  cases e : l[i]? with
  | none => rw [e] at h; cases h
  | some x => rw [e] at h; exact ⟨x, rfl, (Option.some.inj h).symm⟩
theorem small48 {n : Nat} (h : n ≤ 1000) : n ≤ sizeLine := Nat.le_trans h (by decide)
section
variable {P : Program} {w : World} {K : PySem.W.Frag} {mg : Str → Option Value} {base : Heap}
def sp_steps_of : Sp := fun vs H Q _ => ∃ v T, vs = [v] ∧ At H v (testD T) ∧ okT T ∧ ∀ a ws H', Same H H' → H' a = some (.lst ws) → AtAll H' ws ((steps T).map stepD) → Q (.ref a) H'
abbrev s_steps_of : Stmt := top 29
theorem sc_steps_of : FnScope ["test", "steps", "element"] ["test"] (defScope s_steps_of) := ⟨rfl, rfl, rfl, by decide +kernel, rfl, by decide +kernel, by decide +kernel⟩
/- slots: 0 test, 1 steps, 2 element -/
theorem ok_steps_of (F : FnAt K mg "steps_of" s_steps_of ["test"]) : Has P w K mg base 1 "steps_of" ["test"] sp_steps_of := by
  refine Has.of F sc_steps_of (fun vs H Q E h => ?_) (fun f cdv A outer s H vs Q E hr h => ?_)
  · obtain ⟨v, T, rfl, _⟩ := h
    rfl
  · obtain ⟨v, T, rfl, hv, ⟨h1, h2, h3⟩, k⟩ := h
    obtain ⟨l, ws, rfl, hl, hw⟩ := hv.lstEq
    have hlen := hw.length
    rw [List.length_map] at hlen
    have sc := sc_steps_of
    refine ⟨_, (pss_cons (ps_set (i := 1) sc.nd rfl (Or.inl rfl) (pe_lst pa_nil))
      (pss_cons (ps_for PassesOwn.never rfl (pi_list (pv 0)) (pg_name (i := 2) sc.nd rfl (Or.inl rfl))
        (pss_one (ps_expr (pe_bm PySem.F.plainAttrs_list PySem.F.slot_list_extend PySem.F.type_list_extend mt_extend (pv 1) (pa_cons (pe_ix ix_tup (pv 2) pe_int (fun _ _ => rfl)) pa_nil)))))
      (pss_one (ps_ret (pv 1))))), ?_⟩
    refine ⟨Nat.zero_le _, fun p hp => ?_⟩
    refine ⟨_, rfl, l, rfl, ⟨ws, SqL.of (by rw [upd_ne (ne_of_none hl hp)]; exact hl)⟩, for_list (xs := ws) (fun i σ H2 => ∃ q us, σ = [some (.ref l), some (.ref p), q] ∧ Same H H2 ∧ H2 p = some (.lst us) ∧ AtAll H us ((steps (T.take i)).map stepD))
      ⟨none, [], rfl, (Same.refl H).upd hp, upd_same, .nil⟩ (fun i σ H2 _ ⟨_, _, _, s2, _⟩ => SqL.of (s2 _ _ hl)) ?_ ?_⟩
    · rintro i x σ H2 hx ⟨q, us, rfl, s2, hp2, hus⟩
      obtain ⟨d, hd, hat⟩ := hw.get hx
      obtain ⟨e, he, rfl⟩ := map_get hd
      obtain ⟨a, b, zs, rfl, ha, hb, hz⟩ := elem_at hat
      have hok := h3 e (List.mem_of_getElem? he)
      have hil : i < T.length := (List.getElem?_eq_some_iff.mp he).1
      have l1 := hus.length
      have l2 := hz.length
      rw [List.length_map] at l1 l2
      have l3 : (steps (T.take i)).length ≤ 6 * (T.take i).length := steps_len fun y hy => h3 y (List.mem_of_mem_take hy)
      rw [List.length_take] at l3
      have l4 := hok.2.2
      refine ⟨_, rfl, .inl ⟨rfl, _, SqL.of hp2⟩, _, rfl, a, _, _, _, rfl, rfl, SqT.of (s2 _ _ ha), rfl, p, b, us, zs, rfl, rfl, hp2, s2 _ _ hb, small48 (by omega), ?_⟩
      refine ⟨_, _, rfl, s2.at hp, upd_same, ?_⟩
      rw [steps_take he, List.map_append]
      exact hus.append hz
    · rintro σ H2 ⟨q, us, rfl, s2, hp2, hus⟩
      rw [hlen, List.take_length] at hus
      exact ⟨_, rfl, k p us H2 s2 hp2 (hus.same s2)⟩
def sp_is_sure : Sp := fun vs H Q _ => ∃ v T, vs = [v] ∧ At H v (testD T) ∧ okT T ∧ ∀ H', Same H H' → Q (.bl (isSure none (steps T))) H'
abbrev s_is_sure : Stmt := top 31
theorem sc_is_sure : FnScope ["test", "known", "step"] ["test"] (defScope s_is_sure) := ⟨rfl, rfl, rfl, by decide +kernel, rfl, by decide +kernel, by decide +kernel⟩
/- slots: 0 test, 1 known, 2 step -/
theorem ok_is_sure (h_look_at_test : Has P w K mg base 5 "look_at_test" ["thing"] sp_look_at_test) (h_steps_of : Has P w K mg base 1 "steps_of" ["test"] sp_steps_of) (F : FnAt K mg "is_sure" s_is_sure ["test"]) : Has P w K mg base 6 "is_sure" ["test"] sp_is_sure := by
  refine Has.of F sc_is_sure (fun vs H Q E h => ?_) (fun f cdv A outer s H vs Q E hr h => ?_)
  · obtain ⟨v, T, rfl, _⟩ := h
    rfl
  · obtain ⟨v, T, rfl, hv, hT, k⟩ := h
    have sc := sc_is_sure
    refine ⟨_, (pss_cons (ps_expr (pe_callH h_look_at_test hr (pa_cons (pv 0) pa_nil)))
      (pss_cons (ps_set (i := 1) sc.nd rfl (Or.inl rfl) pe_non)
      (pss_cons (ps_for PassesOwn.never rfl (pi_list (pe_callH h_steps_of hr (pa_cons (pv 0) pa_nil))) (pg_name (i := 2) sc.nd rfl (Or.inl rfl))
        (pss_one (ps_if (pt_cmpR op_eq (pe_ix ix_tup (pv 2) pe_int (fun _ _ => rfl)) pe_str (nomark _))
          (pss_one (ps_set (i := 1) sc.nd rfl (Or.inl rfl) (pe_ix ix_tup (pv 2) pe_int (fun _ _ => rfl))))
          (pss_one (ps_if (pt_cmpR op_ne (pe_ix ix_tup (pv 2) pe_int (fun _ _ => rfl)) (pv 1) (nomark _))
            (pss_one (ps_ret pe_bl))
            pss_nil)))))
      (pss_one (ps_ret pe_bl))))), ?_⟩
    refine ⟨_, rfl, v, T, rfl, hv, hT, fun H1 s1 => ?_⟩
    refine ⟨_, rfl, v, T, rfl, hv.same s1, hT, fun a ws H2 s2 ha hw => ⟨a, rfl, ⟨ws, SqL.of ha⟩, for_list (xs := ws) (fun i σ H3 => ∃ kn q, σ = [some v, some (kv kn), q] ∧ Same H2 H3 ∧ isSure none (steps T) = isSure kn ((steps T).drop i))
      ⟨none, none, rfl, Same.refl _, rfl⟩ (fun i σ H3 _ ⟨_, _, _, s3, _⟩ => SqL.of (s3 _ _ ha)) ?_ ?_⟩⟩
    · rintro i x σ H3 hx ⟨kn, q, rfl, s3, hS⟩
      obtain ⟨d, hd, hat⟩ := hw.get hx
      obtain ⟨⟨sw, sb⟩, he, rfl⟩ := map_get hd
      obtain ⟨b, rfl, hb⟩ := step_at (hat.same s3)
      have hdrop : (steps T).drop i = (sw, sb) :: (steps T).drop (i + 1) := by
        obtain ⟨hi, e⟩ := List.getElem?_eq_some_iff.mp he
        rw [List.drop_eq_getElem_cons hi, e]
      rw [hdrop] at hS
      have s4 : Same H H3 := (s1.trans s2).trans s3
      refine ⟨_, rfl, b, _, _, _, rfl, rfl, SqT.of hb, rfl, rfl, _, rfl, ?_⟩
      cases sw with
      | true =>
        refine iteB (show decide (V.str (stepL true) = V.str "w") = true by decide +kernel) ?_
        exact ⟨_, rfl, b, _, _, _, rfl, rfl, SqT.of hb, rfl, some sb, _, rfl, s3, hS⟩
      | false =>
        refine iteN (show decide (V.str (stepL false) = V.str "w") = false by decide +kernel) ?_
        refine ⟨_, rfl, b, _, _, _, rfl, rfl, SqT.of hb, rfl, _, rfl, (by cases kn <;> rfl), _, rfl, ?_⟩
        by_cases hk : kn = some sb
        · subst hk
          have e1 : isSure none (steps T) = isSure (some sb) ((steps T).drop (i + 1)) := by rw [hS]; simp [isSure]
          refine iteN (by simp [kv]) ?_
          exact ⟨some sb, _, rfl, s3, e1⟩
        · have e1 : isSure none (steps T) = false := by rw [hS]; simp [isSure, hk]
          refine iteB ?_ ?_
          · cases kn with
            | none => simp [kv]
            | some b2 => cases b2 <;> cases sb <;> first | exact absurd rfl hk | decide +kernel
          · rw [← e1]
            exact k H3 s4
    · rintro σ H3 ⟨kn, q, rfl, s3, hS⟩
      have hl := hw.length
      rw [List.length_map] at hl
      rw [hl, List.drop_length] at hS
      have := k H3 ((s1.trans s2).trans s3)
      rw [hS] at this
      exact this
end
end Mm
set_option Elab.async false
set_option linter.all false
set_option maxRecDepth 100000
set_option maxHeartbeats 4000000
namespace Mm
open PySem L2 PyProof.Rows
def Dig (ds zs : List Int) : Prop := ds.length = zs.length ∧ ∀ (i : Nat) d z, ds[i]? = some d → zs[i]? = some z → 0 ≤ d ∧ d < z
theorem Dig.get {ds zs : List Int} (h : Dig ds zs) {i : Nat} {z : Int} (hz : zs[i]? = some z) : ∃ d, ds[i]? = some d ∧ 0 ≤ d ∧ d < z := by
  have hi : i < ds.length := by rw [h.1]; exact (List.getElem?_eq_some_iff.mp hz).1
  exact ⟨ds[i], by simp [hi], h.2 i _ z (by simp [hi]) hz⟩
theorem int_get {ds : List Int} {i : Nat} {v : V} (h : (ds.map V.int)[i]? = some v) : ∃ d, ds[i]? = some d ∧ v = .int d := map_get h
theorem get_int {ds : List Int} {i : Nat} {d : Int} (h : ds[i]? = some d) : (ds.map V.int)[i]? = some (.int d) := by rw [List.getElem?_map, h]; rfl
section
variable {P : Program} {w : World} {K : PySem.W.Frag} {mg : Str → Option Value} {base : Heap}
def sp_digits : Sp := fun vs H Q _ => ∃ c t a zs, vs = [.int c, .int t, .ref a] ∧ H a = some (.lst (zs.map V.int)) ∧ zs.length ≤ 64 ∧ (∀ z ∈ zs, 0 < z ∧ z ≤ 1000) ∧ 0 ≤ t ∧ t ≤ 1000000 ∧
  ∀ p ds H', Same H H' → H p = none → H' p = some (.lst (ds.map V.int)) → Dig ds zs → Q (.ref p) H'
abbrev s__law_digits : Stmt := top 47
theorem sc__law_digits : FnScope ["_law_cell", "_law_turn", "_law_sizes", "_law_number", "_law_wide", "_law_seed", "_law_found", "_law_k", "_law_size"] ["_law_cell", "_law_turn", "_law_sizes"] (defScope s__law_digits) := ⟨rfl, rfl, rfl, by decide +kernel, rfl, by decide +kernel, by decide +kernel⟩
/- slots: 0 _law_cell, 1 _law_turn, 2 _law_sizes, 3 _law_number, 4 _law_wide, 5 _law_seed, 6 _law_found, 7 _law_k, 8 _law_size -/
theorem ok_digits (B : Bl mg) (F : FnAt K mg "_law_digits" s__law_digits ["_law_cell", "_law_turn", "_law_sizes"]) : Has P w K mg base 1 "_law_digits" ["_law_cell", "_law_turn", "_law_sizes"] sp_digits := by
  refine Has.of F sc__law_digits (fun vs H Q E h => ?_) (fun f cdv A outer s H vs Q E hr h => ?_)
  · obtain ⟨c, t, a, zs, rfl, _⟩ := h
    rfl
  · obtain ⟨c, t, a, zs, rfl, ha, hl, hz, ht0, ht1, k⟩ := h
    have sc := sc__law_digits
    refine ⟨_, (pss_cons (ps_set (i := 3) sc.nd rfl (Or.inl rfl) (pe_callB call_abs rfl (B.of rfl) boot_abs (pa_cons (pv 0) pa_nil)))
      (pss_cons (ps_set (i := 4) sc.nd rfl (Or.inl rfl) (pe_cmpR op_ge (pv 3) (pe_op op_pow pe_int pe_int) (nomark _)))
      (pss_cons (ps_set (i := 5) sc.nd rfl (Or.inl rfl) (pe_op op_add (pe_op op_mod (pv 3) pe_int) (pe_op op_mul pe_int (pv 1))))
      (pss_cons (ps_set (i := 6) sc.nd rfl (Or.inl rfl) (pe_lst pa_nil))
      (pss_cons (ps_for PassesOwn.never rfl (pi_enum rfl (B.of rfl) (pa_cons (pv 2) pa_nil)) (pg_tup rfl (pgs_cons (pg_name (i := 7) sc.nd rfl (Or.inl rfl)) (pgs_cons (pg_name (i := 8) sc.nd rfl (Or.inl rfl)) pgs_nil)))
        (pss_one (ps_if (PW.pt (pw_and (pt_val (pv 4)) (pw_and1 (pt_cmpR op_gt (pv 3) pe_int (nomark _)))))
          (pss_cons (ps_expr (pe_bm PySem.F.plainAttrs_list PySem.F.slot_list_append PySem.F.type_list_append mt_append (pv 6) (pa_cons (pe_op op_mod (pv 3) (pv 8)) pa_nil)))
          (pss_one (ps_set (i := 3) sc.nd rfl (Or.inl rfl) (pe_op op_fdiv (pv 3) (pv 8)))))
          (pss_cons (ps_set (i := 5) sc.nd rfl (Or.inl rfl) (pe_op op_mod (pe_op op_pow (pe_op op_add (pv 5) (pe_op op_mul pe_int (pe_op op_add (pv 7) pe_int))) pe_int) pe_int))
          (pss_one (ps_expr (pe_bm PySem.F.plainAttrs_list PySem.F.slot_list_append PySem.F.type_list_append mt_append (pv 6) (pa_cons (pe_op op_mod (pe_op op_fdiv (pv 5) pe_int) (pv 8)) pa_nil))))))))
      (pss_one (ps_ret (pv 6)))))))), ?_⟩
    refine ⟨_, rfl, c, rfl, ?_⟩
    refine ⟨_, rfl, 10, 18, rfl, rfl, ⟨by decide, by decide, by decide⟩, _, _, rfl, rfl, ?_⟩
    refine ⟨_, rfl, _, _, rfl, rfl, (by show (0 : Int) < 2147483647; decide), _, rfl, _, _, rfl, rfl, .inl ⟨by decide, by decide⟩, _, _, rfl, rfl, ?_⟩
    refine ⟨Nat.zero_le _, fun p hp => ?_⟩
    generalize hnum : (if c < 0 then -c else c) = num
    generalize hwd : decide ((10 : Int) ^ (18 : Int).toNat ≤ num) = wd
    have hs0 : 0 ≤ num % 2147483647 + 7919 * t := by have := Int.emod_nonneg num (show (2147483647 : Int) ≠ 0 by decide); omega
    have hs1 : num % 2147483647 + 7919 * t < 2 ^ 40 := by have := Int.emod_lt_of_pos num (show (0 : Int) < 2147483647 by decide); omega
    refine ⟨_, rfl, a, _, rfl, SqL.of (by rw [upd_ne (ne_of_none ha hp)]; exact ha), for_enum (xs := zs.map V.int) (fun i σ H2 => ∃ (nu seed : Int) (ds : List Int) (q1 q2 : Option V), σ = [some (.int c), some (.int t), some (.ref a), some (.int nu), some (.bl wd), some (.int seed), some (.ref p), q1, q2] ∧
      Same H H2 ∧ H2 p = some (.lst (ds.map V.int)) ∧ ds.length = i ∧ (∀ (j : Nat) d z, ds[j]? = some d → zs[j]? = some z → 0 ≤ d ∧ d < z) ∧ 0 ≤ seed ∧ seed < 2 ^ 40) ?_ (fun i σ H2 _ ⟨_, _, _, _, _, _, s2, _⟩ => SqL.of (s2 _ _ ha)) ?_ ?_⟩
    · exact ⟨num, _, [], none, none, by rw [← hwd]; rfl, (Same.refl H).upd hp, upd_same, rfl, fun j d z h => by simp at h, hs0, hs1⟩
    · rintro i x pp σ H2 hx ⟨nu, seed, ds, q1, q2, rfl, s2, hp2, hln, hds, hse0, hse1⟩ hpp
      obtain ⟨z, hzi, rfl⟩ := int_get hx
      obtain ⟨hz0, hz1⟩ := hz z (List.mem_of_getElem? hzi)
      have hil : i < zs.length := (List.getElem?_eq_some_iff.mp hzi).1
      have s3 : Same H (upd H2 pp (.tup [.int i, .int z])) := s2.upd hpp
      have hp3 : upd H2 pp (.tup [.int i, .int z]) p = some (.lst (ds.map V.int)) := by rw [upd_ne (ne_of_none hp2 hpp)]; exact hp2
      have fin : ∀ (d : Int), 0 ≤ d → d < z → ∀ (j : Nat) d' z', (ds ++ [d])[j]? = some d' → zs[j]? = some z' → 0 ≤ d' ∧ d' < z' := fun d h0 h1 j d' z' hj hj2 => by
        by_cases hlt : j < ds.length
        · rw [List.getElem?_append_left hlt] at hj
          exact hds j d' z' hj hj2
        · rw [List.getElem?_append_right (by omega)] at hj
          have hj0 : j - ds.length = 0 := by
            cases q : j - ds.length with
            | zero => rfl
            | succ n => rw [q] at hj; simp at hj
          rw [hj0] at hj
          have e1 : d = d' := by simpa using hj
          have e2 : j = i := by omega
          subst e1 e2
          rw [hzi] at hj2; cases hj2
          exact ⟨h0, h1⟩
      refine ⟨pp, _, rfl, SqT.of upd_same, rfl, _, _, rfl, _, _, rfl, rfl, ?_⟩
      refine ⟨_, rfl, wd, rfl, ?_⟩
      cases wd with
      | true =>
        refine iteT ⟨_, rfl, _, _, rfl, rfl, _, rfl, ?_⟩
        by_cases hn : 0 < nu
        · refine iteD hn ?_
          refine ⟨_, rfl, .inl ⟨rfl, _, SqL.of hp3⟩, _, rfl, _, rfl, _, _, rfl, rfl, hz0, p, _, _, rfl, rfl, hp3, sl_lt (by rw [List.length_map]; omega), ?_⟩
          refine ⟨_, rfl, _, rfl, _, _, rfl, rfl, ⟨hz0, by omega⟩, ?_⟩
          exact ⟨_, seed, ds ++ [nu % z], _, _, rfl, s3.at hp, by rw [List.map_append]; exact upd_same, by simp [hln], fin _ (Int.emod_nonneg _ (by omega)) (Int.emod_lt_of_pos _ hz0), hse0, hse1⟩
        · refine iteN (decide_eq_false hn) ?_
          refine ⟨_, rfl, _, rfl, _, _, rfl, rfl, _, _, rfl, rfl, .inl ⟨by decide, by decide⟩, _, _, rfl, rfl, _, _, rfl, rfl, ⟨by decide, by decide, by omega⟩, _, _, rfl, rfl, (by show (0 : Int) < 2147483587; decide), ?_⟩
          have g0 := Int.emod_nonneg ((seed + 104729 * ((i : Int) + 1)) ^ (2 : Int).toNat) (show (2147483587 : Int) ≠ 0 by decide)
          have g1 := Int.emod_lt_of_pos ((seed + 104729 * ((i : Int) + 1)) ^ (2 : Int).toNat) (show (0 : Int) < 2147483587 by decide)
          generalize hse' : (seed + 104729 * ((i : Int) + 1)) ^ (2 : Int).toNat % 2147483587 = seed' at g0 g1
          refine ⟨_, rfl, .inl ⟨rfl, _, SqL.of hp3⟩, _, rfl, _, _, rfl, rfl, ⟨by decide, by decide⟩, _, rfl, _, _, rfl, rfl, hz0, p, _, _, rfl, rfl, hp3, sl_lt (by rw [List.length_map]; omega), ?_⟩
          exact ⟨nu, seed', ds ++ [seed' / 16 % z], _, _, by rw [← hse']; rfl, s3.at hp, by rw [List.map_append, ← hse']; exact upd_same, by simp [hln], fin _ (Int.emod_nonneg _ (by omega)) (Int.emod_lt_of_pos _ hz0), g0, by omega⟩
      | false =>
        refine iteF (iteF ?_)
        refine ⟨_, rfl, _, rfl, _, _, rfl, rfl, _, _, rfl, rfl, .inl ⟨by decide, by decide⟩, _, _, rfl, rfl, _, _, rfl, rfl, ⟨by decide, by decide, by omega⟩, _, _, rfl, rfl, (by show (0 : Int) < 2147483587; decide), ?_⟩
        have g0 := Int.emod_nonneg ((seed + 104729 * ((i : Int) + 1)) ^ (2 : Int).toNat) (show (2147483587 : Int) ≠ 0 by decide)
        have g1 := Int.emod_lt_of_pos ((seed + 104729 * ((i : Int) + 1)) ^ (2 : Int).toNat) (show (0 : Int) < 2147483587 by decide)
        generalize hse' : (seed + 104729 * ((i : Int) + 1)) ^ (2 : Int).toNat % 2147483587 = seed' at g0 g1
        refine ⟨_, rfl, .inl ⟨rfl, _, SqL.of hp3⟩, _, rfl, _, _, rfl, rfl, ⟨by decide, by decide⟩, _, rfl, _, _, rfl, rfl, hz0, p, _, _, rfl, rfl, hp3, sl_lt (by rw [List.length_map]; omega), ?_⟩
        exact ⟨nu, seed', ds ++ [seed' / 16 % z], _, _, by rw [← hse']; rfl, s3.at hp, by rw [List.map_append, ← hse']; exact upd_same, by simp [hln], fin _ (Int.emod_nonneg _ (by omega)) (Int.emod_lt_of_pos _ hz0), g0, by omega⟩
    · rintro σ H2 ⟨nu, seed, ds, q1, q2, rfl, s2, hp2, hln, hds, _, _⟩
      rw [List.length_map] at hln
      exact ⟨_, rfl, k p ds H2 s2 hp hp2 ⟨hln, hds⟩⟩
end
end Mm
set_option Elab.async false
set_option linter.all false
set_option maxRecDepth 100000
set_option maxHeartbeats 4000000
namespace Mm
open PySem L2 PyProof.Rows
theorem mod2_bit (n : Int) : n % 2 = b2i (decide (n % 2 = 1)) := by
  by_cases h : n % 2 = 1
  · simp [b2i, h]
  · have h0 := Int.emod_nonneg n (show (2 : Int) ≠ 0 by decide)
    have h1 := Int.emod_lt_of_pos n (show (0 : Int) < 2 by decide)
    simp only [b2i, h, decide_false]
    show n % 2 = 0
    omega
theorem order_of {d : Int} (h0 : 0 ≤ d) (h1 : d < 3) : ∃ o, okO o ∧ atI [V.str "up", .str "down", .str "any"] d = some (.str o) := by
  have h : d = 0 ∨ d = 1 ∨ d = 2 := by omega
  rcases h with rfl | rfl | rfl
  · exact ⟨_, .inl rfl, rfl⟩
  · exact ⟨_, .inr (.inl rfl), rfl⟩
  · exact ⟨_, .inr (.inr rfl), rfl⟩
/-- the first steps of a test's element among the digits -/
theorem picks {ds : List Int} {d1 : Int} (hd : Dig ds [3, 6, 4, 4, 4, 4, 4, 4]) (h0 : 0 ≤ d1) (h1 : d1 < 6) : ∃ ps : List Int, cutV (ds.map V.int) (some 2) (some (3 + d1)) = ps.map V.int ∧ 1 ≤ ps.length ∧ ps.length ≤ 6 ∧ ∀ p ∈ ps, 0 ≤ p ∧ p < 4 := by
  have hl : ds.length = 8 := hd.1
  refine ⟨(ds.drop 2).take (1 + d1.toNat), ?_, ?_, ?_, fun p hp => ?_⟩
  · unfold cutV
    have e1 : HT.sIx (ds.map V.int).length 0 (some 2) = 2 := by
      rw [List.length_map, hl]; rfl
    have e2 : HT.sIx (ds.map V.int).length (ds.map V.int).length (some (3 + d1)) = 3 + d1.toNat := by
      rw [List.length_map, hl]
      show (if 3 + d1 < 0 then _ else min (3 + d1).toNat 8) = _
      rw [if_neg (by omega)]
      omega
    rw [e1, e2, show 3 + d1.toNat - 2 = 1 + d1.toNat by omega, ← List.map_drop, ← List.map_take]
  · rw [List.length_take, List.length_drop]; omega
  · rw [List.length_take, List.length_drop]; omega
  · have hp2 := List.mem_of_mem_take hp
    obtain ⟨i, hi, e⟩ := List.getElem_of_mem hp2
    rw [List.length_drop] at hi
    rw [List.getElem_drop] at e
    have hz : ([3, 6, 4, 4, 4, 4, 4, 4] : List Int)[2 + i]? = some 4 := by
      have : i < 6 := by omega
      rcases i with _ | _ | _ | _ | _ | _ | i <;> first | rfl | omega
    have := hd.2 (2 + i) p 4 (by rw [← e]; simp) hz
    exact this
section
variable {P : Program} {w : World} {K : PySem.W.Frag} {mg : Str → Option Value} {base : Heap}
def sp_test : Sp := fun vs H Q _ => ∃ (a : Addr) (cs : List Int) (su : Bool), vs = [.ref a, .bl su] ∧ H a = some (.lst (cs.map V.int)) ∧ 1 ≤ cs.length ∧ cs.length ≤ 8 ∧
  ∀ p T H', Same H H' → H p = none → At H' (.ref p) (testD T) → okT T → T.length = cs.length → Q (.ref p) H'
abbrev s__law_test : Stmt := top 48
theorem sc__law_test : FnScope ["_law_cells", "_law_sure", "_law_known", "_law_test_here", "_law_turn", "_law_cell", "_law_d", "_law_steps", "_law_pick", "_law_step"] ["_law_cells", "_law_sure"] (defScope s__law_test) := ⟨rfl, rfl, rfl, by decide +kernel, rfl, by decide +kernel, by decide +kernel⟩
/- slots: 0 _law_cells, 1 _law_sure, 2 _law_known, 3 _law_test_here, 4 _law_turn, 5 _law_cell, 6 _law_d, 7 _law_steps, 8 _law_pick, 9 _law_step -/
theorem ok_test (B : Bl mg) (h__law_digits : Has P w K mg base 1 "_law_digits" ["_law_cell", "_law_turn", "_law_sizes"] sp_digits) (F : FnAt K mg "_law_test" s__law_test ["_law_cells", "_law_sure"]) : Has P w K mg base 2 "_law_test" ["_law_cells", "_law_sure"] sp_test := by
  refine Has.of F sc__law_test (fun vs H Q E h => ?_) (fun f cdv A outer s H vs Q E hr h => ?_)
  · obtain ⟨a, cs, su, rfl, _⟩ := h
    rfl
  · obtain ⟨a, cs, su, rfl, ha, hl0, hl1, k⟩ := h
    have sc := sc__law_test
    refine ⟨_, (pss_cons (ps_set (i := 2) sc.nd rfl (Or.inl rfl) pe_non)
      (pss_cons (ps_set (i := 3) sc.nd rfl (Or.inl rfl) (pe_lst pa_nil))
      (pss_cons (ps_for PassesOwn.never rfl (pi_enum rfl (B.of rfl) (pa_cons (pv 0) pa_nil)) (pg_tup rfl (pgs_cons (pg_name (i := 4) sc.nd rfl (Or.inl rfl)) (pgs_cons (pg_name (i := 5) sc.nd rfl (Or.inl rfl)) pgs_nil)))
        (pss_cons (ps_set (i := 6) sc.nd rfl (Or.inl rfl) (pe_callH h__law_digits hr (pa_cons (pv 5) (pa_cons (pe_op op_add pe_int (pv 4)) (pa_cons (pe_op op_cat (pe_lst (pa_cons pe_int (pa_cons pe_int pa_nil))) (pe_op op_rep (pe_lst (pa_cons pe_int pa_nil)) pe_int)) pa_nil)))))
        (pss_cons (ps_set (i := 7) sc.nd rfl (Or.inl rfl) (pe_lst pa_nil))
        (pss_cons (ps_for PassesOwn.never rfl (pi_list (pe_slice sl_list (pv 6) (po_some pe_int) (po_some (pe_op op_add pe_int (pe_ix ix_list (pv 6) pe_int (fun _ _ => rfl)))))) (pg_name (i := 8) sc.nd rfl (Or.inl rfl))
          (pss_cons (ps_set (i := 9) sc.nd rfl (Or.inl rfl) (pe_tup (pa_cons pe_str (pa_cons (pe_op op_mod (pv 8) pe_int) pa_nil))))
          (pss_cut (ps_if (PW.pt (pw_and (pt_cmpR op_gt (pv 8) pe_int (nomark _)) (pw_and1 (pt_not (pt_val (pv 1))))))
            (pss_one (ps_set (i := 9) sc.nd rfl (Or.inl rfl) (pe_tup (pa_cons pe_str (pa_cons (pe_op op_mod (pv 8) pe_int) pa_nil)))))
            (pss_one (ps_if (PW.pt (pw_and (pt_cmpR op_gt (pv 8) pe_int (nomark _)) (pw_and1 (pt_cmp (pc_notN (pv 2))))))
              (pss_one (ps_set (i := 9) sc.nd rfl (Or.inl rfl) (pe_tup (pa_cons pe_str (pa_cons (pv 2) pa_nil)))))
              pss_nil)))
          (pss_cons (ps_set (i := 2) sc.nd rfl (Or.inl rfl) (pe_ix ix_tup (pv 9) pe_int (fun _ _ => rfl)))
          (pss_one (ps_expr (pe_bm PySem.F.plainAttrs_list PySem.F.slot_list_append PySem.F.type_list_append mt_append (pv 7) (pa_cons (pv 9) pa_nil))))))))
        (pss_one (ps_expr (pe_bm PySem.F.plainAttrs_list PySem.F.slot_list_append PySem.F.type_list_append mt_append (pv 3) (pa_cons (pe_tup (pa_cons (pe_ix ix_list (pe_lst (pa_cons pe_str (pa_cons pe_str (pa_cons pe_str pa_nil)))) (pe_ix ix_list (pv 6) pe_int (fun _ _ => rfl)) (fun _ _ => rfl)) (pa_cons (pv 7) pa_nil))) pa_nil))))))))
      (pss_one (ps_ret (pv 3)))))), ?_⟩
    refine ⟨Nat.zero_le _, fun p hp => ?_⟩
    refine ⟨_, rfl, a, _, rfl, SqL.of (by rw [upd_ne (ne_of_none ha hp)]; exact ha), for_enum (xs := cs.map V.int) (fun i σ H2 => ∃ (kn : Option Bool) (T : List Elm) (q4 q5 q6 q7 q8 q9 : Option V), σ = [some (.ref a), some (.bl su), some (kv kn), some (.ref p), q4, q5, q6, q7, q8, q9] ∧
      Same H H2 ∧ Bld [] H2 p (T.map elemD) ∧ (∀ e ∈ T, okE e) ∧ T.length = i) ⟨none, [], none, none, none, none, none, none, rfl, (Same.refl H).upd hp, Bld.new, (by intro e he; cases he), rfl⟩ (fun i σ H2 _ ⟨_, _, _, _, _, _, _, _, _, s2, _⟩ => SqL.of (s2 _ _ ha)) ?_ ?_⟩
    · rintro i x pp σ H2 hx ⟨kn, T, q4, q5, q6, q7, q8, q9, rfl, s2, bT, okT', hTl⟩ hpp
      obtain ⟨c, hc, rfl⟩ := int_get hx
      have hil : i < cs.length := (List.getElem?_eq_some_iff.mp hc).1
      refine ⟨pp, _, rfl, SqT.of upd_same, rfl, _, _, rfl, _, _, rfl, rfl, ?_⟩
      generalize hA : upd H2 pp (.tup [.int i, .int c]) = HA
      have sA : Same H2 HA := by rw [← hA]; exact (Same.refl H2).upd hpp
      -- the digits
      refine ⟨_, rfl, _, rfl, _, _, rfl, rfl, (by show 2 ≤ sizeLine; decide), fun a1 h1 => ⟨(by show 1 ≤ sizeLine; decide), fun a2 h2 => ⟨a2, 6, _, rfl, rfl, upd_same, by decide, by decide, (by show 1 * 6 ≤ sizeLine; decide), fun a3 h3 => ?_⟩⟩⟩
      have e1 : upd (upd (upd HA a1 (.lst [.int 3, .int 6])) a2 (.lst [.int 4])) a3 (.lst (List.replicate (6 : Int).toNat [V.int 4]).flatten) a1 = some (.lst [.int 3, .int 6]) := by
        rw [upd_ne (ne_of_none (o := .lst [.int 3, .int 6]) (by rw [upd_ne (ne_of_none upd_same h2)]; exact upd_same) h3), upd_ne (ne_of_none upd_same h2)]; exact upd_same
      refine ⟨a1, a3, _, _, rfl, rfl, e1, upd_same, (by show 2 + 6 ≤ sizeLine; decide), fun a4 h4 => ?_⟩
      generalize hB : upd (upd (upd (upd HA a1 (.lst [.int 3, .int 6])) a2 (.lst [.int 4])) a3 (.lst (List.replicate (6 : Int).toNat [V.int 4]).flatten)) a4 (.lst ([V.int 3, .int 6] ++ (List.replicate (6 : Int).toNat [V.int 4]).flatten)) = HB
      have sB : Same HA HB := by rw [← hB]; exact ((((Same.refl HA).upd h1).upd h2).upd h3).upd h4
      have hB4 : HB a4 = some (.lst (([3, 6, 4, 4, 4, 4, 4, 4] : List Int).map V.int)) := by rw [← hB]; exact upd_same
      refine ⟨c, 20 + i, a4, [3, 6, 4, 4, 4, 4, 4, 4], rfl, hB4, by decide, by decide, by omega, by omega, fun dd ds HC sC nC hC hD => ?_⟩
      obtain ⟨d0, g0, m0, m1⟩ := hD.get (i := 0) (z := 3) rfl
      obtain ⟨d1, g1, n0, n1⟩ := hD.get (i := 1) (z := 6) rfl
      -- the steps
      refine ⟨Nat.zero_le _, fun l hl => ?_⟩
      have hC1 : upd HC l (.lst []) dd = some (.lst (ds.map V.int)) := by rw [upd_ne (ne_of_none hC hl)]; exact hC
      obtain ⟨ps, eps, pl0, pl1, hps⟩ := picks hD n0 n1
      refine ⟨_, rfl, 2, rfl, _, rfl, dd, _, _, _, rfl, rfl, SqL.of hC1, atI_lit 1 (get_int g1), _, _, rfl, rfl, _, rfl, dd, _, rfl, SqL.of hC1, fun sp hsp => ?_⟩
      rw [eps]
      generalize hE : upd (upd HC l (.lst [])) sp (.lst (ps.map V.int)) = HE
      have sC2 : Same H2 HC := (sA.trans sB).trans sC
      have sE : Same HC HE := by rw [← hE]; exact ((Same.refl HC).upd hl).upd hsp
      have hEsp : HE sp = some (.lst (ps.map V.int)) := by rw [← hE]; exact upd_same
      have hEl : HE l = some (.lst []) := by rw [← hE, upd_ne (ne_of_none upd_same hsp)]; exact upd_same
      have nlp : l ≠ p := (ne_of_none (sC2 _ _ bT.choose_spec.1) hl).symm
      have nlsp : l ≠ sp := ne_of_none (o := .lst []) upd_same hsp
      have nsp : HC sp = none := by
        have := hsp; rw [upd_ne nlsp.symm] at this; exact this
      refine ⟨sp, rfl, ⟨_, SqL.of hEsp⟩, for_list (xs := ps.map V.int) (fun j σ H3 => ∃ (kn : Option Bool) (ss : List Stp) (q8 q9 : Option V), σ = [some (.ref a), some (.bl su), some (kv kn), some (.ref p), some (.int i), some (.int c), some (.ref dd), some (.ref l), q8, q9] ∧
        Same HC H3 ∧ H3 sp = some (.lst (ps.map V.int)) ∧ Bld [p] H3 l (ss.map stepD) ∧ ss.length = j) ⟨kn, [], q8, q9, rfl, sE, hEsp, ⟨[], hEl, .nil⟩, rfl⟩ (fun j σ H3 _ ⟨_, _, _, _, _, _, h, _⟩ => SqL.of h) ?_ ?_⟩
      · rintro j x σ H3 hx ⟨kn, ss, q8, q9, rfl, s3, hsp3, bS, hsl⟩
        obtain ⟨pk, hpk, rfl⟩ := int_get hx
        have hjl : j < ps.length := (List.getElem?_eq_some_iff.mp hpk).1
        refine ⟨_, rfl, _, _, rfl, rfl, (by show (0 : Int) < 2; decide), (by show 2 ≤ sizeLine; decide), fun q hq => ?_⟩
        have sq : Same H3 (upd H3 q (.tup [.str "w", .int (pk % 2)])) := (Same.refl H3).upd hq
        refine ⟨fun σ' H' => ∃ q' sw sb, σ' = [some (.ref a), some (.bl su), some (kv kn), some (.ref p), some (.int i), some (.int c), some (.ref dd), some (.ref l), some (.int pk), some (.ref q')] ∧ Same H3 H' ∧ H' q' = some (.tup [.str (stepL sw), .int (b2i sb)]), ?_, ?_⟩
        · have base1 : ∃ q' sw sb, [some (V.ref a), some (.bl su), some (kv kn), some (.ref p), some (.int i), some (.int c), some (.ref dd), some (.ref l), some (.int pk), some (.ref q)] = [some (.ref a), some (.bl su), some (kv kn), some (.ref p), some (.int i), some (.int c), some (.ref dd), some (.ref l), some (.int pk), some (.ref q')] ∧ Same H3 (upd H3 q (.tup [.str "w", .int (pk % 2)])) ∧ upd H3 q (.tup [.str "w", .int (pk % 2)]) q' = some (.tup [.str (stepL sw), .int (b2i sb)]) :=
            ⟨q, true, decide (pk % 2 = 1), rfl, sq, by rw [upd_same, ← mod2_bit]; rfl⟩
          refine ⟨_, rfl, _, _, rfl, rfl, _, rfl, ?_⟩
          by_cases h1p : 1 < pk
          · refine iteD h1p ⟨_, rfl, su, rfl, ?_⟩
            cases su with
            | false =>
              refine iteT ⟨_, rfl, _, _, rfl, rfl, (by show (0 : Int) < 2; decide), (by show 2 ≤ sizeLine; decide), fun q2 hq2 => ?_⟩
              exact ⟨q2, false, decide (pk % 2 = 1), rfl, sq.upd hq2, by rw [upd_same, ← mod2_bit]; rfl⟩
            | true =>
              refine iteF ⟨_, rfl, _, _, rfl, rfl, _, rfl, iteD h1p ⟨_, rfl, _, rfl, ?_⟩⟩
              cases kn with
              | none => exact iteN (by simp [kv]) base1
              | some kb =>
                refine iteB (by simp [kv]) ⟨_, rfl, (by show 2 ≤ sizeLine; decide), fun q2 hq2 => ?_⟩
                exact ⟨q2, false, kb, rfl, sq.upd hq2, by rw [upd_same]; rfl⟩
          · refine iteN (decide_eq_false h1p) (iteF ⟨_, rfl, _, _, rfl, rfl, _, rfl, iteN (decide_eq_false h1p) (iteF ?_)⟩)
            exact base1
        · rintro σ' H4 ⟨q', sw, sb, rfl, s4, hq'⟩
          have bS4 := bS.grow s4
          obtain ⟨us, hus, _⟩ := id bS4
          have hul := bS4.len hus
          rw [List.length_map] at hul
          have nql : q' ≠ l := ne_of hq' hus (by intro z; cases z)
          have nqp : q' ≠ p := ne_of hq' ((bT.grow ((sC2.trans s3).trans s4)).choose_spec.1) (by intro z; cases z)
          refine ⟨_, rfl, q', _, _, _, rfl, rfl, SqT.of hq', rfl, ?_⟩
          refine ⟨_, rfl, .inl ⟨rfl, _, SqL.of hus⟩, _, rfl, l, us, .ref q', rfl, rfl, hus, sl_lt (by omega), ?_⟩
          refine ⟨some sb, ss ++ [(sw, sb)], _, _, rfl, (s3.trans s4).at hl, ?_, ?_, by simp [hsl]⟩
          · rw [upd_ne nlsp.symm]
            exact s4 _ _ hsp3
          · rw [List.map_append]
            refine bS4.push hus (.tup (by rw [hideL_get (by simp [nql, nqp])]; exact hq') (.cons (.str _) (.cons (.int _) .nil)))
      · rintro σ H3 ⟨kn3, ss, q8, q9, rfl, s3, hsp3, bS, hsl⟩
        rw [List.length_map] at hsl
        have bT3 := bT.grow (sC2.trans s3)
        obtain ⟨ws, hws, _⟩ := id bT3
        have hwl := bT3.len hws
        rw [List.length_map] at hwl
        obtain ⟨o, ho, hat⟩ := order_of m0 m1
        refine ⟨_, rfl, .inl ⟨rfl, _, SqL.of hws⟩, (by show 3 ≤ sizeLine; decide), fun r hr => ?_⟩
        have hd3 : upd H3 r (.lst [.str "up", .str "down", .str "any"]) dd = some (.lst (ds.map V.int)) := by rw [upd_ne (ne_of_none (s3 _ _ hC) hr)]; exact s3 _ _ hC
        refine ⟨_, rfl, dd, _, _, _, rfl, rfl, SqL.of hd3, atI_lit 0 (get_int g0), r, _, _, _, rfl, rfl, SqL.of upd_same, hat, _, rfl, (by show 2 ≤ sizeLine; decide), fun e he => ?_⟩
        generalize hF : upd H3 r (.lst [.str "up", .str "down", .str "any"]) = HF at he hd3
        have sF : Same H3 HF := by rw [← hF]; exact (Same.refl H3).upd hr
        have sG : Same H3 (upd HF e (.tup [.str o, .ref l])) := sF.upd he
        have hws2 := sG _ _ hws
        have nep : e ≠ p := (ne_of_none (sF _ _ hws) he).symm
        refine ⟨p, ws, .ref e, rfl, rfl, hws2, sl_lt (by omega), ?_⟩
        refine ⟨kn3, T ++ [(o, ss)], _, _, _, _, _, _, rfl, ((s2.trans sC2).trans (s3.trans sG)).at hp, ?_, ?_, by simp [hTl]⟩
        · rw [List.map_append]
          refine (bT3.grow sG).push hws2 (.tup (by rw [hideL_get (by simp [nep])]; exact upd_same) (.cons (.str _) (.cons ?_ .nil)))
          exact (bS.at (by simp [nlp])).same (hideL_mono sG _)
        · intro e2 he2
          rcases List.mem_append.mp he2 with h | h
          · exact okT' e2 h
          · have : e2 = (o, ss) := by simpa using h
            subst this
            exact ⟨ho, by show 1 ≤ ss.length; omega, by show ss.length ≤ 6; omega⟩
    · rintro σ H2 ⟨kn, T, q4, q5, q6, q7, q8, q9, rfl, s2, bT, okT', hTl⟩
      rw [List.length_map] at hTl
      exact ⟨_, rfl, k p T H2 s2 hp bT.out ⟨by omega, by omega, okT'⟩ hTl⟩
end
end Mm
set_option Elab.async false
set_option linter.all false
set_option maxRecDepth 100000
set_option maxHeartbeats 4000000
namespace Mm
open PySem L2 PyProof.Rows Mx
def heldB : Option Bool → List Stp → Option Bool
  | k, [] => k
  | _, (true, b) :: r => heldB (some b) r
  | k, (false, _) :: r => heldB k r
theorem stepW (b : Bool) : decide (V.str (stepL b) = V.str "w") = b := by cases b <;> decide +kernel
def lvB (T : List Elm) : Bool := decide (heldB (some false) (steps T) = some false)
def byS (f : Bool) (ss : List Stp) : List Stp := ss.map fun s => (s.1, xor s.2 f)
def madeT (f : Bool) (T : List Elm) : List Elm := T.map fun e => (e.1, byS f e.2)
def lastE : Elm := ("any", [(false, true), (true, false)])
def leftT (f : Bool) (T : List Elm) : List Elm := if lvB (madeT f T) = true then madeT f T else madeT f T ++ [lastE]
theorem notTup {H : Hp} {D : Addr} {us : List V} (h : H D = some (.lst us)) : ∀ ys, H D ≠ some (.tup ys) := fun ys z => by rw [h] at z; cases z
theorem notTup0 {H : Hp} {D : Addr} (h : H D = none) : ∀ ys, H D ≠ some (.tup ys) := fun ys z => by rw [h] at z; cases z
theorem steps_upd {H : Hp} {D : Addr} {o : HO} (hD : ∀ ys, H D ≠ some (.tup ys)) : ∀ {ws : List V} {ss : List Stp}, AtAll H ws (ss.map stepD) → AtAll (upd H D o) ws (ss.map stepD)
  | _, [], .nil => .nil
  | _, s :: ss, .cons x r => by
    refine .cons ?_ (steps_upd hD r)
    obtain ⟨a, rfl, ha⟩ := step_at x
    exact .tup (by rw [upd_ne (fun z => by subst z; exact hD _ ha)]; exact ha) (.cons (.str _) (.cons (.int _) .nil))
/-- the elements of a test that is made: their lists are new -/
structure NT (H H' : Hp) (D : Addr) (us : List V) (M : List Elm) : Prop where
  len : us.length = M.length
  el : ∀ (i : Nat) v e, us[i]? = some v → M[i]? = some e → ∃ a l ws, v = .ref a ∧ l ≠ D ∧ H l = none ∧ H' a = some (.tup [.str e.1, .ref l]) ∧ H' l = some (.lst ws) ∧ AtAll H' ws (e.2.map stepD)
theorem NT.same {H H' H2 : Hp} {D : Addr} {us : List V} {M : List Elm} (n : NT H H' D us M) (s : Same H' H2) : NT H H2 D us M := ⟨n.len, fun i v e h1 h2 => by
  obtain ⟨a, l, ws, e1, e2, e3, e4, e5, e6⟩ := n.el i v e h1 h2
  exact ⟨a, l, ws, e1, e2, e3, s _ _ e4, s _ _ e5, e6.same s⟩⟩
theorem NT.push {H H' : Hp} {D a l : Addr} {us ws : List V} {M : List Elm} {e : Elm} (n : NT H H' D us M) (hD : ∀ ys, H' D ≠ some (.tup ys)) (h1 : l ≠ D) (h2 : H l = none) (h3 : H' a = some (.tup [.str e.1, .ref l])) (h4 : H' l = some (.lst ws)) (h5 : AtAll H' ws (e.2.map stepD)) :
    NT H (upd H' D (.lst (us ++ [.ref a]))) D (us ++ [.ref a]) (M ++ [e]) := by
  refine ⟨by simp [n.len], fun i v e' g1 g2 => ?_⟩
  by_cases hi : i < us.length
  · rw [List.getElem?_append_left hi] at g1
    rw [List.getElem?_append_left (by rw [← n.len]; exact hi)] at g2
    obtain ⟨a, l, ws, e1, e2, e3, e4, e5, e6⟩ := n.el i v e' g1 g2
    exact ⟨a, l, ws, e1, e2, e3, by rw [upd_ne (fun z => by subst z; exact hD _ e4)]; exact e4, by rw [upd_ne e2]; exact e5, steps_upd hD e6⟩
  · rw [List.getElem?_append_right (by omega)] at g1
    rw [List.getElem?_append_right (by rw [← n.len]; omega)] at g2
    have hj : i - us.length = 0 := by
      cases q : i - us.length with
      | zero => rfl
      | succ k => rw [q] at g1; simp at g1
    rw [hj] at g1
    rw [← n.len, hj] at g2
    have q1 : v = .ref a := (Option.some.inj g1).symm
    have q2 : e' = e := (Option.some.inj g2).symm
    subst q1 q2
    exact ⟨a, l, ws, rfl, h1, h2, by rw [upd_ne (fun z => by subst z; exact hD _ h3)]; exact h3, by rw [upd_ne h1]; exact h4, steps_upd hD h5⟩
theorem NT.to {H H' : Hp} {D p : Addr} {us : List V} {M : List Elm} (n : NT H H' D us M) (hp : H' p = none) : NT H H' p us M := ⟨n.len, fun i v e h1 h2 => by
  obtain ⟨a, l, ws, e1, e2, e3, e4, e5, e6⟩ := n.el i v e h1 h2
  exact ⟨a, l, ws, e1, ne_of_none e5 hp, e3, e4, e5, e6⟩⟩
theorem NT.at {H H' : Hp} {D : Addr} {us : List V} {M : List Elm} (n : NT H H' D us M) (hD : H' D = some (.lst us)) : At H' (.ref D) (testD M) := by
  refine .lst hD ?_
  have go : ∀ (us : List V) (M : List Elm), us.length = M.length → (∀ (i : Nat) v e, us[i]? = some v → M[i]? = some e → At H' v (elemD e)) → AtAll H' us (M.map elemD) := by
    intro us
    induction us with
    | nil =>
      intro M hl _
      cases M with
      | nil => exact .nil
      | cons _ _ => simp at hl
    | cons u us ih =>
      intro M hl h
      cases M with
      | nil => simp at hl
      | cons m M => exact .cons (h 0 u m rfl rfl) (ih M (by simpa using hl) fun i v e g1 g2 => h (i + 1) v e (by simpa using g1) (by simpa using g2))
  refine go us M n.len fun i v e g1 g2 => ?_
  obtain ⟨a, l, ws, rfl, e2, e3, e4, e5, e6⟩ := n.el i v e g1 g2
  exact .tup e4 (.cons (.str _) (.cons (.lst e5 e6) .nil))
section
variable {P : Program} {w : World} {K : PySem.W.Frag} {mg : Str → Option Value} {base : Heap}
def sp_held_behind : Sp := fun vs H Q _ => ∃ (k : Option Bool) (l : Addr) (ws : List V) (ss : List Stp), vs = [kv k, .ref l] ∧ H l = some (.lst ws) ∧ AtAll H ws (ss.map stepD) ∧ Q (kv (heldB k ss)) H
abbrev s_held_behind : Stmt := top 30
theorem sc_held_behind : FnScope ["held", "steps", "step"] ["held", "steps"] (defScope s_held_behind) := ⟨rfl, rfl, rfl, by decide +kernel, rfl, by decide +kernel, by decide +kernel⟩
/- slots: 0 held, 1 steps, 2 step -/
theorem ok_held_behind (F : FnAt K mg "held_behind" s_held_behind ["held", "steps"]) : Has P w K mg base 1 "held_behind" ["held", "steps"] sp_held_behind := by
  refine Has.ofQ F sc_held_behind (fun vs H Q E h => ?_) (fun f cdv A outer s H vs Q E hr h => ?_)
  · obtain ⟨k, l, ws, ss, rfl, _⟩ := h
    rfl
  · obtain ⟨k, l, ws, ss, rfl, hl, hw, q⟩ := h
    have hln := hw.length
    rw [List.length_map] at hln
    have sc := sc_held_behind
    refine ⟨_, (qss_litQ rfl (qss_cons (qs_for PassesOwn.never rfl (qi_list (qe_of (pv 1))) (pg_name (i := 2) sc.nd rfl (Or.inl rfl))
        (qss_one (qs_ifT (qt_cmpR op_eq (qe_ix ix_tup (qe_of (pv 2)) (qe_of pe_int) (fun _ _ => rfl)) (qe_of pe_str) (nomark _))
          (qss_one (qs_setE (i := 0) sc.nd rfl (Or.inl rfl) (qe_ix ix_tup (qe_of (pv 2)) (qe_of pe_int) (fun _ _ => rfl))))
          qss_nil)))
      (qss_one (qs_retE (qe_of (pv 0)))))), ?_⟩
    refine ⟨_, rfl, l, rfl, ⟨_, SqL.of hl⟩, for_list (xs := ws) (fun i σ H2 => ∃ (kn : Option Bool) (q2 : Option V), σ = [some (kv kn), some (.ref l), q2] ∧ H2 = H ∧ heldB k ss = heldB kn (ss.drop i)) ⟨k, none, rfl, rfl, rfl⟩ (fun i σ H2 _ ⟨_, _, _, e, _⟩ => by rw [e]; exact SqL.of hl) ?_ ?_⟩
    · rintro i x σ H2 hx ⟨kn, q2, rfl, rfl, hh⟩
      obtain ⟨d, hd, hat⟩ := hw.get hx
      obtain ⟨⟨sw, sb⟩, he, rfl⟩ := map_get hd
      obtain ⟨b, rfl, hb⟩ := step_at hat
      have hdrop : ss.drop i = (sw, sb) :: ss.drop (i + 1) := by
        obtain ⟨hi, e⟩ := List.getElem?_eq_some_iff.mp he
        rw [List.drop_eq_getElem_cons hi, e]
      rw [hdrop] at hh
      refine ⟨_, rfl, b, _, _, _, rfl, rfl, SqT.of hb, rfl, rfl, _, rfl, ?_⟩
      rw [stepW]
      cases sw with
      | true => exact iteT ⟨_, rfl, b, _, _, _, rfl, rfl, SqT.of hb, rfl, some sb, _, rfl, rfl, hh⟩
      | false => exact iteF ⟨kn, _, rfl, rfl, hh⟩
    · rintro σ H2 ⟨kn, q2, rfl, rfl, hh⟩
      rw [hln, List.drop_length] at hh
      rw [hh] at q
      exact ⟨_, rfl, q⟩
def sp_turn : Sp := fun vs H Q _ => ∃ b f : Bool, vs = [.int (b2i b), .int (b2i f)] ∧ Q (.int (b2i (xor b f))) H
abbrev s_turned : Stmt := top 35
theorem sc_turned : FnScope ["bit", "by"] ["bit", "by"] (defScope s_turned) := ⟨rfl, rfl, rfl, by decide +kernel, rfl, by decide +kernel, by decide +kernel⟩
/- slots: 0 bit, 1 by -/
theorem ok_turn (F : FnAt K mg "turned" s_turned ["bit", "by"]) : Has P w K mg base 1 "turned" ["bit", "by"] sp_turn := by
  refine Has.ofQ F sc_turned (fun vs H Q E h => ?_) (fun f cdv A outer s H vs Q E hr h => ?_)
  · obtain ⟨b, f, rfl, _⟩ := h
    rfl
  · obtain ⟨b, f, rfl, q⟩ := h
    have sc := sc_turned
    refine ⟨_, (qss_litQ rfl (qss_one (qs_retE (qe_ifExp (qt_cmpR op_eq (qe_of (pv 1)) (qe_of pe_int) (nomark _)) (qe_of (pv 0)) (qe_op op_sub (qe_of pe_int) (qe_of (pv 0))))))), ?_⟩
    refine ⟨_, rfl, rfl, _, rfl, ?_⟩
    cases f with
    | false => exact iteB (by decide +kernel) ⟨_, rfl, by rw [Bool.xor_false] at q; exact q⟩
    | true =>
      refine iteN (by decide +kernel) ⟨_, rfl, _, _, rfl, rfl, ?_⟩
      cases b <;> exact q
def sp_only_writes : Sp := fun vs H Q _ => ∃ v e, vs = [v] ∧ At H v (elemD e) ∧ okE e ∧ ∀ H', Same H H' → Q (.bl (e.2.all (·.1))) H'
abbrev s_only_writes : Stmt := top 36
theorem sc_only_writes : FnScope ["element"] ["element"] (defScope s_only_writes) := ⟨rfl, rfl, rfl, by decide +kernel, rfl, by decide +kernel, by decide +kernel⟩
/- slots: 0 element -/
theorem ok_only_writes (z_all : mg "all" = none) (F : FnAt K mg "only_writes" s_only_writes ["element"]) : Has P w K mg base 1 "only_writes" ["element"] sp_only_writes := by
  refine Has.ofQ F sc_only_writes (fun vs H Q E h => ?_) (fun f cdv A outer s H vs Q E hr h => ?_)
  · obtain ⟨v, e, rfl, _⟩ := h
    rfl
  · obtain ⟨v, e, rfl, hv, ok, q⟩ := h
    obtain ⟨a, l, ws, rfl, ha, hl, hw⟩ := elem_at hv
    have hln := hw.length
    rw [List.length_map] at hln
    have sc := sc_only_writes
    refine ⟨_, (qss_litQ rfl (qss_one (qs_retE (qe_callB (call_allB rfl) rfl z_all boot_allF (qa_lc (qe_of (pe_comp rfl (compOk_of rfl) (M := ["step"]) (ix := [none]) (pi_list (pe_ix ix_tup (pv 0) pe_int (fun _ _ => rfl))) (fun _ _ _ _ => (pg_name (i := 0) (show List.Nodup (["step"] : List Str) by decide +kernel) rfl (Or.inl rfl))) (fun _ _ _ _ => pts_nil) (fun _ _ _ _ => (pe_cmpR op_eq (pe_ix (ix_tupK (K := K) rfl) (pv 0) pe_int (fun _ _ => rfl)) pe_str (nomark _))))) qa_nil))))), ?_⟩
    refine ⟨_, rfl, a, _, _, _, rfl, rfl, SqT.of ha, rfl, l, rfl, ⟨_, SqL.of hl⟩, fun D hD => comp_by (n := e.2.length) (fun i H' => Same H H' ∧ H' D = some (.lst (((e.2.take i).map (·.1)).map V.bl))) ⟨(Same.refl H).upd hD, upd_same⟩ ?_ ?_⟩
    · rintro H3 ⟨s3, e3⟩
      refine ⟨⟨_, SqL.of (s3 _ _ hl), by omega⟩, ?_⟩
      refine ⟨D, _, rfl, e3, ?_⟩
      rw [List.take_length, List.all_map]
      exact q _ s3
    · rintro i H3 hi ⟨s3, e3⟩
      refine ⟨⟨_, _, SqL.of (s3 _ _ hl), List.getElem?_eq_getElem (by omega)⟩, ?_⟩
      rintro x H4 ⟨rfl, hx⟩
      obtain ⟨d, hd, hat⟩ := hw.get (hx _ (SqL.of (s3 _ _ hl)))
      obtain ⟨⟨sw, sb⟩, he, rfl⟩ := map_get hd
      obtain ⟨b, rfl, hb⟩ := step_at (hat.same s3)
      have := ok.2.2
      refine ⟨KeepS.set (KeepS.refl _) rfl, yes ?_⟩
      refine ⟨_, rfl, b, _, _, _, rfl, rfl, SqT.of hb, rfl, rfl, ?_⟩
      rw [stepW]
      refine ⟨_, e3, sl_lt (by rw [List.length_map, List.length_map, List.length_take]; omega), s3.at hD, ?_⟩
      rw [upd_same, List.take_add_one, he]
      simp
def sp_steps_by : Sp := fun vs H Q _ => ∃ (l : Addr) (ws : List V) (ss : List Stp) (f : Bool), vs = [.ref l, .int (b2i f)] ∧ H l = some (.lst ws) ∧ AtAll H ws (ss.map stepD) ∧ ss.length ≤ 6 ∧
  ∀ D us H', Same H H' → H D = none → H' D = some (.lst us) → AtAll H' us ((byS f ss).map stepD) → Q (.ref D) H'
abbrev s_steps_by : Stmt := top 37
theorem sc_steps_by : FnScope ["steps", "first"] ["steps", "first"] (defScope s_steps_by) := ⟨rfl, rfl, rfl, by decide +kernel, rfl, by decide +kernel, by decide +kernel⟩
/- slots: 0 steps, 1 first; cells: first -/
theorem ok_steps_by (h_turned : Has P w K mg base 1 "turned" ["bit", "by"] sp_turn) (F : FnAt K mg "steps_by" s_steps_by ["steps", "first"]) : Has P w K mg base 2 "steps_by" ["steps", "first"] sp_steps_by := by
  refine Has.ofQ F sc_steps_by (fun vs H Q E h => ?_) (fun f cdv A outer s H vs Q E hr h => ?_)
  · obtain ⟨l, ws, ss, f, rfl, _⟩ := h
    rfl
  · obtain ⟨l, ws, ss, fb, rfl, hl, hw, h6, q⟩ := h
    have hln := hw.length
    rw [List.length_map] at hln
    have sc := sc_steps_by
    refine ⟨_, (qss_litQ rfl (qss_one (qs_retE (qe_of (pe_comp rfl (compOk_of rfl) (M := ["step", "first"]) (ix := [none, some 1]) (pi_list (pv 0)) (fun _ _ _ _ => (pg_name (i := 0) (show List.Nodup (["step", "first"] : List Str) by decide +kernel) rfl (Or.inl rfl))) (fun _ _ _ _ => pts_nil) (fun _ _ _ _ => (pe_tup (pa_cons (pe_ix (ix_tupK (K := K) rfl) (pv 0) pe_int (fun _ _ => rfl)) (pa_cons (pe_callH h_turned hr (pa_cons (pe_ix (ix_tupK (K := K) rfl) (pv 0) pe_int (fun _ _ => rfl)) (pa_cons (pv 1) pa_nil))) pa_nil))))))))), ?_⟩
    refine ⟨_, rfl, l, rfl, ⟨_, SqL.of hl⟩, fun D hD => comp_by (n := ss.length) (fun i H' => Same H H' ∧ ∃ us, H' D = some (.lst us) ∧ us.length = i ∧ AtAll H' us ((byS fb (ss.take i)).map stepD)) ⟨(Same.refl H).upd hD, [], upd_same, rfl, .nil⟩ ?_ ?_⟩
    · rintro H3 ⟨s3, us, e3, hul, hus⟩
      refine ⟨⟨_, SqL.of (s3 _ _ hl), by omega⟩, ?_⟩
      rw [List.take_length] at hus
      exact q D us H3 s3 hD e3 hus
    · rintro i H3 hi ⟨s3, us, e3, hul, hus⟩
      refine ⟨⟨_, _, SqL.of (s3 _ _ hl), List.getElem?_eq_getElem (by omega)⟩, ?_⟩
      rintro x H4 ⟨rfl, hx⟩
      obtain ⟨d, hd, hat⟩ := hw.get (hx _ (SqL.of (s3 _ _ hl)))
      obtain ⟨⟨sw, sb⟩, he, rfl⟩ := map_get hd
      obtain ⟨b, rfl, hb⟩ := step_at (hat.same s3)
      refine ⟨KeepS.set (KeepS.refl _) rfl, yes ?_⟩
      refine ⟨_, rfl, b, _, _, _, rfl, rfl, SqT.of hb, rfl, _, rfl, b, _, _, _, rfl, rfl, SqT.of hb, rfl, _, rfl, sb, fb, rfl, (by show 2 ≤ sizeLine; decide), fun p hp => ?_⟩
      have s4 : Same H4 (upd H4 p (.tup [.str (stepL sw), .int (b2i (xor sb fb))])) := (Same.refl H4).upd hp
      refine ⟨us, s4 _ _ e3, sl_lt (by omega), (s3.trans s4).at hD, us ++ [.ref p], upd_same, by simp [hul], ?_⟩
      have e : (byS fb (ss.take (i + 1))).map stepD = ((byS fb (ss.take i)) ++ [(sw, xor sb fb)]).map stepD := by
        unfold byS
        rw [List.take_add_one, he]
        simp
      rw [e]
      refine steps_upd (notTup (s4 _ _ e3)) ?_
      rw [List.map_append]
      exact (hus.same s4).append (.cons (.tup upd_same (.cons (.str _) (.cons (.int _) .nil))) .nil)
def sp_leaves : Sp := fun vs H Q _ => ∃ v T, vs = [v] ∧ At H v (testD T) ∧ okT T ∧ ∀ H', Same H H' → Q (.bl (lvB T)) H'
theorem kv_zero (k : Option Bool) : decide (kv k = V.int 0) = decide (k = some false) := by
  cases k with
  | none => decide
  | some b => cases b <;> decide
theorem heldB_some : ∀ (ss : List Stp) (b : Bool), ∃ c, heldB (some b) ss = some c
  | [], b => ⟨b, rfl⟩
  | (true, c) :: r, _ => heldB_some r c
  | (false, _) :: r, b => heldB_some r b
abbrev s_leaves : Stmt := top 38
theorem sc_leaves : FnScope ["test"] ["test"] (defScope s_leaves) := ⟨rfl, rfl, rfl, by decide +kernel, rfl, by decide +kernel, by decide +kernel⟩
/- slots: 0 test -/
theorem ok_leaves (h_steps_of : Has P w K mg base 1 "steps_of" ["test"] sp_steps_of) (h_held_behind : Has P w K mg base 1 "held_behind" ["held", "steps"] sp_held_behind) (F : FnAt K mg "leaves" s_leaves ["test"]) : Has P w K mg base 2 "leaves" ["test"] sp_leaves := by
  refine Has.ofQ F sc_leaves (fun vs H Q E h => ?_) (fun f cdv A outer s H vs Q E hr h => ?_)
  · obtain ⟨v, T, rfl, _⟩ := h
    rfl
  · obtain ⟨v, T, rfl, hv, hT, q⟩ := h
    have sc := sc_leaves
    refine ⟨_, (qss_litQ rfl (qss_one (qs_retE (qe_cmpR op_eq (qe_callH h_held_behind hr (qa_cs (qe_of pe_int) (qa_cl (qe_callH h_steps_of hr (qa_nm (qe_of (pv 0)) qa_nil)) qa_nil))) (qe_of pe_int) (nomark _))))), ?_⟩
    refine ⟨_, rfl, v, T, rfl, hv, hT, fun a ws H1 s1 ha hw => ?_⟩
    refine ⟨some false, a, ws, _, rfl, ha, hw, ?_⟩
    obtain ⟨c, hc⟩ := heldB_some (steps T) false
    have := q H1 s1
    unfold lvB at this
    rw [← kv_zero] at this
    rw [hc] at this ⊢
    exact ⟨rfl, this⟩
abbrev s_leaves_all : Stmt := top 40
theorem sc_leaves_all : FnScope ["test"] ["test"] (defScope s_leaves_all) := ⟨rfl, rfl, rfl, by decide +kernel, rfl, by decide +kernel, by decide +kernel⟩
/- slots: 0 test -/
theorem ok_leaves_all (h_look_at_test : Has P w K mg base 5 "look_at_test" ["thing"] sp_look_at_test) (h_leaves : Has P w K mg base 2 "leaves" ["test"] sp_leaves) (F : FnAt K mg "leaves_all" s_leaves_all ["test"]) : Has P w K mg base 6 "leaves_all" ["test"] sp_leaves := by
  refine Has.ofQ F sc_leaves_all (fun vs H Q E h => ?_) (fun f cdv A outer s H vs Q E hr h => ?_)
  · obtain ⟨v, T, rfl, _⟩ := h
    rfl
  · obtain ⟨v, T, rfl, hv, hT, q⟩ := h
    have sc := sc_leaves_all
    refine ⟨_, (qss_litQ rfl (qss_cons (qs_expr (qe_callH h_look_at_test hr (qa_nm (qe_of (pv 0)) qa_nil)))
      (qss_one (qs_retE (qe_callH h_leaves hr (qa_nm (qe_of (pv 0)) qa_nil)))))), ?_⟩
    refine ⟨_, rfl, v, T, rfl, hv, hT, fun H1 s1 => ?_⟩
    exact ⟨_, rfl, v, T, rfl, hv.same s1, hT, fun H2 s2 => q H2 (s1.trans s2)⟩
def sp_look_at_sure (CS : Addr) : Sp := fun vs H Q E => ∃ v T, vs = [v] ∧ At H v (testD T) ∧ okT T ∧ (isSure none (steps T) = true → ∀ H', Same H H' → Q .non H') ∧ (isSure none (steps T) = false → ∀ a H', Same H H' → XAt H' a CS [] → E (.ref a) none H')
abbrev s_look_at_sure : Stmt := top 32
theorem sc_look_at_sure : FnScope ["test"] ["test"] (defScope s_look_at_sure) := ⟨rfl, rfl, rfl, by decide +kernel, rfl, by decide +kernel, by decide +kernel⟩
/- slots: 0 test -/
theorem ok_look_at_sure {CS : Addr} (xS : XBare K mg "NotSure" CS) (h_is_sure : Has P w K mg base 6 "is_sure" ["test"] sp_is_sure) (F : FnAt K mg "look_at_sure" s_look_at_sure ["test"]) : HasX P w K mg base 7 "look_at_sure" ["test"] (sp_look_at_sure CS) := by
  refine HasX.of F sc_look_at_sure (fun vs H Q E h => ?_) (fun f cdv A outer s H vs Q E hr h => ?_)
  · obtain ⟨v, T, rfl, _⟩ := h
    rfl
  · obtain ⟨v, T, rfl, hv, hT, q1, q2⟩ := h
    have sc := sc_look_at_sure
    refine ⟨_, (qss_litQ rfl (qss_one (qs_ifT (qt_not (qt_valC (qe_callH h_is_sure hr (qa_nm (qe_of (pv 0)) qa_nil))))
        (qss_one (qs_of (ps_raise (pe_x0 xS (pa_cons pe_str pa_nil)))))
        qss_nil))), ?_⟩
    refine ⟨_, rfl, v, T, rfl, hv, hT, fun H1 s1 => ⟨_, rfl, ?_⟩⟩
    cases hs : isSure none (steps T) with
    | true => exact iteF (q1 hs H1 s1)
    | false =>
      refine iteT ⟨(by show 1 ≤ sizeLine; decide), fun a ha => ⟨a, CS, none, rfl, xS.2.2.1, upd_same, ?_⟩⟩
      rw [upd_upd]
      exact q2 hs a _ (s1.upd ha) (.inr (.inr (.inl ⟨rfl, upd_same⟩)))
end
end Mm
set_option Elab.async false
set_option linter.all false
set_option maxRecDepth 100000
set_option maxHeartbeats 4000000
namespace Mm
open PySem L2 PyProof.Rows Mx
def hd0 (T : List Elm) : Elm := T.headD ("", [])
def headF (T : List Elm) : Bool := (heldB none (hd0 T).2).getD false
def lvOk (T : List Elm) : Bool := isSure none (steps T) && ((hd0 T).2.all (·.1) && decide (2 ≤ T.length))
theorem hd0_get {T : List Elm} (h : 1 ≤ T.length) : T[0]? = some (hd0 T) := by
  cases T with
  | nil => simp at h
  | cons e r => rfl
theorem held_all : ∀ (ss : List Stp) (k : Option Bool), 1 ≤ ss.length → ss.all (·.1) = true → ∃ b, heldB k ss = some b
  | (true, b) :: r, _, _, h => heldB_some r b
  | (false, b) :: r, _, _, h => by simp at h
theorem byS_len (f : Bool) (ss : List Stp) : (byS f ss).length = ss.length := by simp [byS]
theorem okT_made {f : Bool} {T : List Elm} (h0 : 1 ≤ T.length) (h8 : T.length ≤ 8) (h : ∀ e ∈ T, okE e) : okT (madeT f T) := by
  refine ⟨by simpa [madeT] using h0, by simpa [madeT] using h8, fun e he => ?_⟩
  obtain ⟨e', he', rfl⟩ := List.mem_map.mp he
  obtain ⟨o1, o2, o3⟩ := h e' he'
  exact ⟨o1, by rw [byS_len]; exact o2, by rw [byS_len]; exact o3⟩
section
variable {P : Program} {w : World} {K : PySem.W.Frag} {mg : Str → Option Value} {base : Heap}
def sp_leaving_of (CS : Addr) : Sp := fun vs H Q E => ∃ v T, vs = [v] ∧ At H v (testD T) ∧ okT T ∧ (lvOk T = true → ∀ D us H', Same H H' → H D = none → H' D = some (.lst us) → NT H H' D us (leftT (headF T) T.tail) → Q (.ref D) H') ∧ (lvOk T = false → ∀ a H', Same H H' → XAt H' a CS [] → E (.ref a) none H')
abbrev s_leaving_of : Stmt := top 39
theorem sc_leaving_of : FnScope ["test", "first", "made"] ["test"] (defScope s_leaving_of) := ⟨rfl, rfl, rfl, by decide +kernel, rfl, by decide +kernel, by decide +kernel⟩
/- slots: 0 test, 1 first, 2 made; cells: first -/
theorem ok_leaving_of {CS : Addr} (B : Bl mg) (xS : XBare K mg "NotSure" CS) (h_look_at_sure : HasX P w K mg base 7 "look_at_sure" ["test"] (sp_look_at_sure CS)) (h_only_writes : Has P w K mg base 1 "only_writes" ["element"] sp_only_writes) (h_held_behind : Has P w K mg base 1 "held_behind" ["held", "steps"] sp_held_behind)
    (h_steps_by : Has P w K mg base 2 "steps_by" ["steps", "first"] sp_steps_by) (h_leaves : Has P w K mg base 2 "leaves" ["test"] sp_leaves) (F : FnAt K mg "leaving_of" s_leaving_of ["test"]) : HasX P w K mg base 8 "leaving_of" ["test"] (sp_leaving_of CS) := by
  refine HasX.of F sc_leaving_of (fun vs H Q E h => ?_) (fun f cdv A outer s H vs Q E hr h => ?_)
  · obtain ⟨v, T, rfl, _⟩ := h
    rfl
  · obtain ⟨v, T, rfl, hv, hT, q1, q2⟩ := h
    obtain ⟨l, ws, rfl, hl, hw⟩ := hv.lstEq
    have hln := hw.length
    rw [List.length_map] at hln
    obtain ⟨t1, t8, te⟩ := id hT
    have h0 := hd0_get t1
    have ok0 := te _ (List.mem_of_getElem? h0)
    obtain ⟨v0, hv0⟩ : ∃ v0, ws[0]? = some v0 := ⟨ws[0]'(by omega), List.getElem?_eq_getElem _⟩
    have hat0 : At H v0 (elemD (hd0 T)) := by
      obtain ⟨d, hd, hat⟩ := hw.get hv0
      obtain ⟨e, he, rfl⟩ := map_get hd
      rw [h0] at he; cases he
      exact hat
    obtain ⟨a0, l0, w0, rfl, ha0, hl0, hw0⟩ := elem_at hat0
    have ref : ∀ {H1 : Hp} {a : Addr}, lvOk T = false → Same H H1 → H1 a = none → E (.ref a) none (upd (upd H1 a (.ext (xObjP a CS none))) a (.ext (xObjQ a CS none))) := fun {H1 a} hlv s1 ha => by
      rw [upd_upd]
      exact q2 hlv a _ (s1.upd ha) (.inr (.inr (.inl ⟨rfl, upd_same⟩)))
    have z1 : 1 ≤ sizeLine := by decide
    have sc := sc_leaving_of
    refine ⟨_, (qss_litQ rfl (qss_cons (qs_expr (qe_of (pe_callX h_look_at_sure passX hr (pa_cons (pv 0) pa_nil))))
      (qss_cons (qs_ifT (qt_not (qt_valC (qe_callH h_only_writes hr (qa_sb (qe_ix ix_list (qe_of (pv 0)) (qe_of pe_int) (fun _ _ => rfl)) qa_nil))))
        (qss_one (qs_of (ps_raise (pe_x0 xS (pa_cons pe_str pa_nil)))))
        qss_nil)
      (qss_cons (qs_ifT (qt_cmpR op_eq (qe_callB call_len_seq rfl (B.of rfl) boot_len (qa_nm (qe_of (pv 0)) qa_nil)) (qe_of pe_int) (nomark _))
        (qss_one (qs_of (ps_raise (pe_x0 xS (pa_cons pe_str pa_nil)))))
        qss_nil)
      (qss_cons (qs_setE (i := 1) sc.nd rfl (Or.inr rfl) (qe_callH h_held_behind hr (qa_cs (qe_of pe_non) (qa_sb (qe_ix ix_tup (qe_ix ix_list (qe_of (pv 0)) (qe_of pe_int) (fun _ _ => rfl)) (qe_of pe_int) (fun _ _ => rfl)) qa_nil))))
      (qss_cons (qs_of (ps_setC (i := 2) rfl sc.nd rfl (Or.inl rfl) rfl (compOk_of rfl) (M := ["element", "first"]) (ix := [none, some 1]) (pi_list (pe_slice sl_list (pv 0) (po_some pe_int) po_none)) (fun _ _ _ _ => (pg_name (i := 0) (show List.Nodup (["element", "first"] : List Str) by decide +kernel) rfl (Or.inl rfl))) (fun _ _ _ _ => pts_nil) (fun _ _ _ _ => (pe_tup (pa_cons (pe_ix (ix_tupK (K := K) rfl) (pv 0) pe_int (fun _ _ => rfl)) (pa_cons (pe_callH h_steps_by hr (pa_cons (pe_ix (ix_tupK (K := K) rfl) (pv 0) pe_int (fun _ _ => rfl)) (pa_cons (pv 1) pa_nil))) pa_nil))))))
      (qss_one (qs_retE (qe_ifExp (qt_valC (qe_callH h_leaves hr (qa_nm (qe_of (pv 2)) qa_nil))) (qe_of (pv 2)) (qe_op op_cat (qe_of (pv 2)) (qe_lst (qa_tp (qe_tup (qa_cs (qe_of pe_str) (qa_ls (qe_lst (qa_tp (qe_tup (qa_cs (qe_of pe_str) (qa_cs (qe_of pe_int) qa_nil))) (qa_tp (qe_tup (qa_cs (qe_of pe_str) (qa_cs (qe_of pe_int) qa_nil))) qa_nil))) qa_nil))) qa_nil)))))))))))), ?_⟩
    refine ⟨_, rfl, _, T, rfl, hv, hT, fun hsu H1 s1 => ?_, fun hsu a H1 s1 xa => q2 (by unfold lvOk; rw [hsu]; rfl) a H1 s1 xa⟩
    refine ⟨_, rfl, l, _, _, _, rfl, rfl, SqL.of (s1 _ _ hl), atI_lit 0 hv0, _, _, rfl, hat0.same s1, ok0, fun H2 s2 => ⟨_, rfl, ?_⟩⟩
    have s02 := s1.trans s2
    cases hwr : (hd0 T).2.all (·.1) with
    | false => exact iteT ⟨z1, fun a ha => ⟨a, CS, none, rfl, xS.2.2.1, upd_same, ref (by unfold lvOk; rw [hsu, hwr]; rfl) s02 ha⟩⟩
    | true =>
      refine iteF ?_
      refine ⟨_, rfl, l, _, rfl, .inl (SqL.of (s02 _ _ hl)), rfl, _, rfl, ?_⟩
      by_cases hl2 : 2 ≤ T.length
      rotate_left
      · refine iteB (decide_eq_true (by rw [hln]; congr 1; omega)) ⟨z1, fun a ha => ⟨a, CS, none, rfl, xS.2.2.1, upd_same, ref (by unfold lvOk; rw [hsu, hwr, decide_eq_false hl2]; rfl) s02 ha⟩⟩
      refine iteN (decide_eq_false (by rw [hln]; intro z; have := V.int.inj z; omega)) ?_
      have hlv : lvOk T = true := by unfold lvOk; rw [hsu, hwr, decide_eq_true hl2]; rfl
      refine ⟨_, rfl, l, _, _, _, rfl, rfl, SqL.of (s02 _ _ hl), atI_lit 0 hv0, a0, _, _, _, rfl, rfl, SqT.of (s02 _ _ ha0), rfl, none, l0, w0, _, rfl, s02 _ _ hl0, hw0.same s02, ?_⟩
      obtain ⟨fb, hfb⟩ := held_all (hd0 T).2 none ok0.2.1 hwr
      have hF : headF T = fb := by unfold headF; rw [hfb]; rfl
      rw [hfb]
      refine ⟨_, rfl, _, rfl, l, _, rfl, SqL.of (s02 _ _ hl), fun p hp => ?_⟩
      rw [show cutV ws (some 1) none = ws.drop 1 from cut_drop 1]
      have s3 : Same H2 (upd H2 p (.lst (ws.drop 1))) := (Same.refl H2).upd hp
      have e3 : upd H2 p (.lst (ws.drop 1)) p = some (.lst (ws.drop 1)) := upd_same
      revert s3 e3
      generalize upd H2 p (.lst (ws.drop 1)) = H3
      intro s3 e3
      have s03 := s02.trans s3
      have htl : T.tail = T.drop 1 := by cases T <;> rfl
      have hdl : (ws.drop 1).length = T.tail.length := by rw [List.length_drop, List.length_tail]; omega
      refine ⟨p, rfl, ⟨_, SqL.of e3⟩, fun D hD => comp_by (n := T.tail.length) (fun i H' => Same H3 H' ∧ ∃ us, H' D = some (.lst us) ∧ NT H H' D us (madeT fb (T.tail.take i))) ⟨(Same.refl H3).upd hD, [], upd_same, ⟨by simp [madeT], fun i v e g => by simp at g⟩⟩ ?_ ?_⟩
      rotate_left
      · rintro i H4 hi ⟨s4, us, e4, nt⟩
        refine ⟨⟨_, _, SqL.of (s4 _ _ e3), List.getElem?_eq_getElem (by omega)⟩, ?_⟩
        rintro x H5 ⟨rfl, hx⟩
        have hx' := hx _ (SqL.of (s4 _ _ e3))
        rw [List.getElem?_drop] at hx'
        obtain ⟨d, hd, hat⟩ := hw.get hx'
        obtain ⟨e, he, rfl⟩ := map_get hd
        have hei : T.tail[i]? = some e := by rw [htl, List.getElem?_drop]; exact he
        obtain ⟨a, le, we, rfl, ha, hle, hwe⟩ := elem_at (hat.same (s03.trans s4))
        have oke := te e (List.mem_of_getElem? he)
        refine ⟨KeepS.set (KeepS.refl _) rfl, yes ?_⟩
        refine ⟨_, rfl, a, _, _, _, rfl, rfl, SqT.of ha, rfl, _, rfl, a, _, _, _, rfl, rfl, SqT.of ha, rfl, _, rfl, le, we, e.2, fb, rfl, hle, hwe, oke.2.2, fun l2 w2 H6 s6 hl2n hl2 hw2 => ⟨(by show 2 ≤ sizeLine; decide), fun t ht => ?_⟩⟩
        have s7 : Same H6 (upd H6 t (.tup [.str e.1, .ref l2])) := (Same.refl H6).upd ht
        have f7 : upd H6 t (.tup [.str e.1, .ref l2]) t = some (.tup [.str e.1, .ref l2]) := upd_same
        revert s7 f7
        generalize upd H6 t (.tup [.str e.1, .ref l2]) = H7
        intro s7 f7
        have s57 := s6.trans s7
        have hul := nt.len
        simp [madeT] at hul
        refine ⟨us, s57 _ _ e4, sl_lt (by omega), (s4.trans s57).at hD, us ++ [.ref t], upd_same, ?_⟩
        have em : madeT fb (T.tail.take (i + 1)) = madeT fb (T.tail.take i) ++ [(e.1, byS fb e.2)] := by
          unfold madeT
          rw [List.take_add_one, hei]
          simp
        rw [em]
        exact (nt.same s57).push (notTup (s57 _ _ e4)) (ne_of_none e4 hl2n).symm ((s03.trans s4).free hl2n) f7 (s7 _ _ hl2) (hw2.same s7)
      · rintro H4 ⟨s4, us, e4, nt⟩
        refine ⟨⟨_, SqL.of (s4 _ _ e3), by omega⟩, ?_⟩
        rw [List.take_length] at nt
        have s04 := s03.trans s4
        have hDn : H D = none := s03.free hD
        have okM := okT_made (f := fb) (T := T.tail) (by rw [List.length_tail]; omega) (by rw [List.length_tail]; omega) (fun e he => te e (List.mem_of_mem_tail he))
        have hM := nt.at e4
        refine ⟨_, rfl, _, _, rfl, hM, okM, fun H5 s5 => ⟨_, rfl, ?_⟩⟩
        rw [← hF] at nt ⊢
        cases hlb : lvB (madeT (headF T) T.tail) with
        | true =>
          refine iteT ⟨_, rfl, q1 hlv D us H5 (s04.trans s5) hDn (s5 _ _ e4) ?_⟩
          unfold leftT
          rw [if_pos hlb]
          exact nt.same s5
        | false =>
          have z2 : 2 ≤ sizeLine := by decide
          refine iteF ⟨_, rfl, z2, fun t1 h1 => ⟨z2, fun t2 h2 => ⟨z2, fun l3 h3 => ⟨z2, fun t3 h4 => ⟨z1, fun l4 h5 => ?_⟩⟩⟩⟩⟩
          have u1 : Same H5 (upd H5 t1 (.tup [.str "r", .int 1])) := (Same.refl H5).upd h1
          have g1 : upd H5 t1 (.tup [.str "r", .int 1]) t1 = some (.tup [.str "r", .int 1]) := upd_same
          revert u1 g1 h2 h3 h4 h5
          generalize upd H5 t1 (.tup [.str "r", .int 1]) = H6
          intro h2 h3 h4 h5 u1 g1
          have u2 : Same H6 (upd H6 t2 (.tup [.str "w", .int 0])) := (Same.refl H6).upd h2
          have g2 : upd H6 t2 (.tup [.str "w", .int 0]) t2 = some (.tup [.str "w", .int 0]) := upd_same
          revert u2 g2 h3 h4 h5
          generalize upd H6 t2 (.tup [.str "w", .int 0]) = H7
          intro h3 h4 h5 u2 g2
          have u3 : Same H7 (upd H7 l3 (.lst [.ref t1, .ref t2])) := (Same.refl H7).upd h3
          have g3 : upd H7 l3 (.lst [.ref t1, .ref t2]) l3 = some (.lst [.ref t1, .ref t2]) := upd_same
          revert u3 g3 h4 h5
          generalize upd H7 l3 (.lst [.ref t1, .ref t2]) = H8
          intro h4 h5 u3 g3
          have u4 : Same H8 (upd H8 t3 (.tup [.str "any", .ref l3])) := (Same.refl H8).upd h4
          have g4 : upd H8 t3 (.tup [.str "any", .ref l3]) t3 = some (.tup [.str "any", .ref l3]) := upd_same
          revert u4 g4 h5
          generalize upd H8 t3 (.tup [.str "any", .ref l3]) = H9
          intro h5 u4 g4
          have u5 : Same H9 (upd H9 l4 (.lst [.ref t3])) := (Same.refl H9).upd h5
          have g5 : upd H9 l4 (.lst [.ref t3]) l4 = some (.lst [.ref t3]) := upd_same
          revert u5 g5
          generalize upd H9 l4 (.lst [.ref t3]) = HA
          intro u5 g5
          have v5 := u5
          have v4 := u4.trans v5
          have v3 := u3.trans v4
          have v2 := u2.trans v3
          have v1 := u1.trans v2
          have hul := nt.len
          simp [madeT] at hul
          refine ⟨D, l4, us, [.ref t3], rfl, rfl, v1 _ _ (s5 _ _ e4), g5, sl_le (by simp; omega), fun p5 h6 => ?_⟩
          have w5 := (s04.trans s5).trans v1
          refine q1 hlv p5 _ _ (w5.upd h6) (w5.free h6) upd_same ?_
          unfold leftT
          rw [if_neg (by rw [hlb]; exact Bool.false_ne_true)]
          refine (((nt.same s5).same v1).to h6).push (e := lastE) (notTup0 h6) (l := l3) (ne_of_none (v4 _ _ g3) h6) ((((s04.trans s5).trans u1).trans u2).free h3) (v5 _ _ g4) (v4 _ _ g3) ?_
          exact .cons (.tup (v2 _ _ g1) (.cons (.str _) (.cons (.int _) .nil))) (.cons (.tup (v3 _ _ g2) (.cons (.str _) (.cons (.int _) .nil))) .nil)
end
end Mm
set_option Elab.async false
set_option linter.all false
set_option maxRecDepth 100000
set_option maxHeartbeats 4000000
namespace Mm
open PySem L2 PyProof.Rows Mx
theorem iteDN {c : Prop} [Decidable c] {A B : Prop} (hc : ¬ c) (h : B) : if decide c = true then A else B := iteN (decide_eq_false hc) h
def wholeD : PyData → Bool | .int _ => true | _ => false
def bitD : PyData → Bool | .int i => decide (i = 0 ∨ i = 1) | _ => false
def oneD (xs : List V) : PyData → Bool | .str x => inV (.str x) xs | _ => false
def pairD : PyData → Bool | .tuple [_, _] => true | _ => false
def fillD (n : Int) : PyData → Bool | .list ds => decide (0 < ds.length ∧ (ds.length : Int) ≤ n) | _ => false
def stepB : PyData → Bool | .tuple [a, b] => oneD [.str "r", .str "w"] a && bitD b | _ => false
def frameB : PyData → Bool | .tuple [a, b] => oneD [.str "up", .str "down", .str "any"] a && fillD 6 b | _ => false
section
variable {P : Program} {w : World} {K : PySem.W.Frag} {mg : Str → Option Value} {base : Heap}
def sg_whole : Sp := fun vs H Q _ => ∃ v d, vs = [v] ∧ AtX H v d ∧ Q (.bl (wholeD d)) H
theorem og_whole (B : Bl mg) (F : FnAt K mg "is_whole" s_is_whole ["thing"]) : Has P w K mg base 1 "is_whole" ["thing"] sg_whole := by
  refine Has.ofQ F sc_is_whole (fun vs H Q E h => ?_) (fun f cdv A outer s H vs Q E hr h => ?_)
  · obtain ⟨v, d, rfl, _⟩ := h
    rfl
  · obtain ⟨v, d, rfl, hv, q⟩ := h
    have sc := sc_is_whole
    refine ⟨_, (qss_litQ rfl (qss_one (qs_retE (qe_of (pe_and (pe_callB call_isi rfl (B.of rfl) boot_isinstance (pa_cons (pv 0) (pa_cons (pe_bltn (v := .ty "int") rfl (B.of rfl) boot_int rfl) pa_nil))) (pe_one (pe_not (pe_callB call_isi rfl (B.of rfl) boot_isinstance (pa_cons (pv 0) (pa_cons (pe_bltn (v := .ty "bool") rfl (B.of rfl) boot_bool rfl) pa_nil)))))))))), ?_⟩
    refine ⟨_, rfl, _, _, _, _, rfl, hv.ty, kit_int d, _, rfl, ?_⟩
    cases hi : isInt d with
    | false =>
      have e : wholeD d = false := by cases d <;> first | rfl | cases hi
      rw [e] at q
      exact iteF q
    | true =>
      refine iteT ⟨_, rfl, _, _, _, _, rfl, hv.ty, kit_bl d, _, rfl, ?_⟩
      have e : wholeD d = !isBl d := by cases d <;> first | rfl | cases hi
      rw [e] at q
      exact q
def sg_bit : Sp := fun vs H Q _ => ∃ v d, vs = [v] ∧ AtX H v d ∧ ∀ H', Same H H' → Q (.bl (bitD d)) H'
theorem og_bit (h_is_whole : Has P w K mg base 1 "is_whole" ["thing"] sg_whole) (F : FnAt K mg "is_bit" s_is_bit ["thing"]) : Has P w K mg base 2 "is_bit" ["thing"] sg_bit := by
  refine Has.ofQ F sc_is_bit (fun vs H Q E h => ?_) (fun f cdv A outer s H vs Q E hr h => ?_)
  · obtain ⟨v, d, rfl, _⟩ := h
    rfl
  · obtain ⟨v, d, rfl, hv, q⟩ := h
    have sc := sc_is_bit
    refine ⟨_, (qss_litQ rfl (qss_one (qs_retE (qe_of (pe_and (pe_callH h_is_whole hr (pa_cons (pv 0) pa_nil)) (pe_one (pe_cmpR op_in_seq (pv 0) (pe_tup (pa_cons pe_int (pa_cons pe_int pa_nil))) (by with_unfolding_all rfl)))))))), ?_⟩
    refine ⟨_, rfl, v, d, rfl, hv, _, rfl, ?_⟩
    cases hw : wholeD d with
    | false =>
      have e : bitD d = false := by cases d <;> first | rfl | cases hw
      rw [e] at q
      exact iteF (q H (Same.refl H))
    | true =>
      obtain ⟨i, rfl⟩ : ∃ i, d = .int i := by cases d <;> first | exact ⟨_, rfl⟩ | cases hw
      have ev : v = .int i := by
        rcases hv with h | ⟨e, _⟩
        · exact h.intEq
        · cases e
      subst ev
      refine iteT ⟨_, rfl, (by show 2 ≤ sizeLine; decide), fun t ht => ⟨t, _, rfl, .inr (SqT.of upd_same), rfl, by decide, ?_⟩⟩
      have e : inV (.int i) [.int 0, .int 1] = bitD (.int i) := by
        unfold bitD
        show ((0 == i) || ((1 == i) || false)) = _
        rw [Bool.eq_iff_iff, decide_eq_true_eq, Bool.or_false, Bool.or_eq_true, beq_iff_eq, beq_iff_eq]
        constructor
        · rintro (h | h)
          · exact .inl h.symm
          · exact .inr h.symm
        · rintro (h | h)
          · exact .inl h.symm
          · exact .inr h.symm
      show Q (.bl (inV (.int i) [.int 0, .int 1])) _
      rw [e]
      exact q _ ((Same.refl H).upd ht)
def sg_one (K : PySem.W.Frag) : Sp := fun vs H Q _ => ∃ v d a xs, vs = [v, .ref a] ∧ AtX H v d ∧ (∀ H', SqT K H' a xs) ∧ xs.all flatV = true ∧ Q (.bl (oneD xs d)) H
theorem og_one (B : Bl mg) (F : FnAt K mg "is_one_of" s_is_one_of ["thing", "words"]) : Has P w K mg base 1 "is_one_of" ["thing", "words"] (sg_one K) := by
  refine Has.ofQ F sc_is_one_of (fun vs H Q E h => ?_) (fun f cdv A outer s H vs Q E hr h => ?_)
  · obtain ⟨v, d, a, xs, rfl, _⟩ := h
    rfl
  · obtain ⟨v, d, a, xs, rfl, hv, ha, hx, q⟩ := h
    have sc := sc_is_one_of
    refine ⟨_, (qss_litQ rfl (qss_one (qs_retE (qe_of (pe_and (pe_callB call_isi rfl (B.of rfl) boot_isinstance (pa_cons (pv 0) (pa_cons (pe_bltn (v := .ty "str") rfl (B.of rfl) boot_str rfl) pa_nil))) (pe_one (pe_cmpR op_in_seq (pv 0) (pv 1) (by with_unfolding_all rfl)))))))), ?_⟩
    refine ⟨_, rfl, _, _, _, _, rfl, hv.ty, kit_str d, _, rfl, ?_⟩
    cases hs : isStr d with
    | false =>
      have e : oneD xs d = false := by cases d <;> first | rfl | cases hs
      rw [e] at q
      exact iteF q
    | true =>
      obtain ⟨x, rfl⟩ : ∃ x, d = .str x := by cases d <;> first | exact ⟨_, rfl⟩ | cases hs
      have ev : v = .str x := by
        rcases hv with h | ⟨e, _⟩
        · exact h.strEq
        · cases e
      subst ev
      exact iteT ⟨_, rfl, _, rfl, a, xs, rfl, .inr (ha _), rfl, hx, q⟩
def sg_pair : Sp := fun vs H Q _ => ∃ v d, vs = [v] ∧ AtX H v d ∧ Q (.bl (pairD d)) H
theorem og_pair (B : Bl mg) (F : FnAt K mg "is_pair" s_is_pair ["thing"]) : Has P w K mg base 1 "is_pair" ["thing"] sg_pair := by
  refine Has.ofQ F sc_is_pair (fun vs H Q E h => ?_) (fun f cdv A outer s H vs Q E hr h => ?_)
  · obtain ⟨v, d, rfl, _⟩ := h
    rfl
  · obtain ⟨v, d, rfl, hv, q⟩ := h
    have sc := sc_is_pair
    refine ⟨_, (qss_litQ rfl (qss_one (qs_retE (qe_of (pe_and (pe_callB call_isi rfl (B.of rfl) boot_isinstance (pa_cons (pv 0) (pa_cons (pe_bltn (v := .ty "tuple") rfl (B.of rfl) boot_tuple rfl) pa_nil))) (pe_one (pe_cmpR op_eq (pe_callB call_len_seq rfl (B.of rfl) boot_len (pa_cons (pv 0) pa_nil)) pe_int (nomark _)))))))), ?_⟩
    refine ⟨_, rfl, _, _, _, _, rfl, hv.ty, kit_tup d, _, rfl, ?_⟩
    cases hs : isTup d with
    | false =>
      have e : pairD d = false := by cases d <;> first | rfl | cases hs
      rw [e] at q
      exact iteF q
    | true =>
      obtain ⟨ds, rfl⟩ : ∃ ds, d = .tuple ds := by cases d <;> first | exact ⟨_, rfl⟩ | cases hs
      have hv' : At H v (.tuple ds) := by
        rcases hv with h | ⟨e, _⟩
        · exact h
        · cases e
      obtain ⟨a, vs, rfl, ha, hw⟩ := hv'.tupEq
      have hl := hw.length
      refine iteT ⟨_, rfl, a, _, rfl, .inr (SqT.of ha), rfl, ?_⟩
      have e : decide (V.int (vs.length : Int) = V.int 2) = pairD (.tuple ds) := by
        rw [hl]
        match ds with
        | [] => decide
        | [_] => rfl
        | [_, _] => rfl
        | _ :: _ :: _ :: r => 
          show decide _ = false
          refine decide_eq_false (fun z => ?_)
          have := V.int.inj z
          simp at this
          omega
      rw [e]
      exact q
def sg_fill : Sp := fun vs H Q _ => ∃ v d n, vs = [v, .int n] ∧ AtX H v d ∧ Q (.bl (fillD n d)) H
theorem og_fill (B : Bl mg) (F : FnAt K mg "is_filled" s_is_filled ["thing", "most"]) : Has P w K mg base 1 "is_filled" ["thing", "most"] sg_fill := by
  refine Has.ofQ F sc_is_filled (fun vs H Q E h => ?_) (fun f cdv A outer s H vs Q E hr h => ?_)
  · obtain ⟨v, d, n, rfl, _⟩ := h
    rfl
  · obtain ⟨v, d, n, rfl, hv, q⟩ := h
    have sc := sc_is_filled
    refine ⟨_, (qss_litQ rfl (qss_one (qs_retE (qe_of (pe_and (pe_callB call_isi rfl (B.of rfl) boot_isinstance (pa_cons (pv 0) (pa_cons (pe_bltn (v := .ty "list") rfl (B.of rfl) boot_list rfl) pa_nil))) (pe_and (pe_cmpR op_gt (pe_callB call_len_seq rfl (B.of rfl) boot_len (pa_cons (pv 0) pa_nil)) pe_int (nomark _)) (pe_one (pe_cmpR op_le (pe_callB call_len_seq rfl (B.of rfl) boot_len (pa_cons (pv 0) pa_nil)) (pv 1) (nomark _))))))))), ?_⟩
    refine ⟨_, rfl, _, _, _, _, rfl, hv.ty, kit_lst d, _, rfl, ?_⟩
    cases hs : isLst d with
    | false =>
      have e : fillD n d = false := by cases d <;> first | rfl | cases hs
      rw [e] at q
      exact iteF q
    | true =>
      obtain ⟨ds, rfl⟩ : ∃ ds, d = .list ds := by cases d <;> first | exact ⟨_, rfl⟩ | cases hs
      have hv' : At H v (.list ds) := by
        rcases hv with h | ⟨e, _⟩
        · exact h
        · cases e
      obtain ⟨a, vs, rfl, ha, hw⟩ := hv'.lstEq
      have hl := hw.length
      have ef : fillD n (.list ds) = decide (0 < ds.length ∧ (ds.length : Int) ≤ n) := rfl
      rw [ef] at q
      refine iteT ⟨_, rfl, a, _, rfl, .inl (SqL.of ha), _, _, rfl, rfl, _, rfl, ?_⟩
      by_cases h0 : 0 < ds.length
      · refine iteD (by omega) ?_
        refine ⟨_, rfl, a, _, rfl, .inl (SqL.of ha), _, rfl, _, _, rfl, rfl, ?_⟩
        have e : decide (0 < ds.length ∧ (ds.length : Int) ≤ n) = decide ((vs.length : Int) ≤ n) := by rw [hl]; simp [h0]
        rw [e] at q
        exact q
      · refine iteDN (by omega) ?_
        rw [decide_eq_false (fun z => h0 z.1)] at q
        exact q
end
end Mm
set_option Elab.async false
set_option linter.all false
set_option maxRecDepth 100000
set_option maxHeartbeats 4000000
namespace Mm
open PySem L2 PyProof.Rows Mx
theorem pair_at {H : Hp} {v : V} {d : PyData} (hv : AtX H v d) (hp : pairD d = true) : ∃ a x y dx dy, d = .tuple [dx, dy] ∧ v = .ref a ∧ H a = some (.tup [x, y]) ∧ At H x dx ∧ At H y dy := by
  match d, hp with
  | .tuple [dx, dy], _ =>
    have hv' : At H v (.tuple [dx, dy]) := by
      rcases hv with h | ⟨e, _⟩
      · exact h
      · cases e
    obtain ⟨a, vs, rfl, ha, hw⟩ := hv'.tupEq
    cases hw with
    | cons h1 r =>
      cases r with
      | cons h2 r =>
        cases r
        exact ⟨a, _, _, dx, dy, rfl, rfl, ha, h1, h2⟩
theorem stepB_pair {d : PyData} (h : pairD d = false) : stepB d = false ∧ frameB d = false := by
  match d with
  | .tuple [_, _] => cases h
  | .tuple [] => exact ⟨rfl, rfl⟩
  | .tuple [_] => exact ⟨rfl, rfl⟩
  | .tuple (_ :: _ :: _ :: _) => exact ⟨rfl, rfl⟩
  | .none => exact ⟨rfl, rfl⟩
  | .bool _ => exact ⟨rfl, rfl⟩
  | .int _ => exact ⟨rfl, rfl⟩
  | .str _ => exact ⟨rfl, rfl⟩
  | .list _ => exact ⟨rfl, rfl⟩
  | .dict _ => exact ⟨rfl, rfl⟩
section
variable {P : Program} {w : World} {K : PySem.W.Frag} {mg : Str → Option Value} {base : Heap}
def sg_step : Sp := fun vs H Q _ => ∃ v d, vs = [v] ∧ AtX H v d ∧ ∀ H', Same H H' → Q (.bl (stepB d)) H'
theorem og_step (g_LETTERS : GTup K mg "LETTERS" [.str "r", .str "w"]) (h_is_pair : Has P w K mg base 1 "is_pair" ["thing"] sg_pair) (h_is_one_of : Has P w K mg base 1 "is_one_of" ["thing", "words"] (sg_one K)) (h_is_bit : Has P w K mg base 2 "is_bit" ["thing"] sg_bit)
    (F : FnAt K mg "is_step" s_is_step ["thing"]) : Has P w K mg base 3 "is_step" ["thing"] sg_step := by
  refine Has.ofQ F sc_is_step (fun vs H Q E h => ?_) (fun f cdv A outer s H vs Q E hr h => ?_)
  · obtain ⟨v, d, rfl, _⟩ := h
    rfl
  · obtain ⟨v, d, rfl, hv, q⟩ := h
    have sc := sc_is_step
    refine ⟨_, (qss_litQ rfl (qss_one (qs_retE (qe_of (pe_and (pe_callH h_is_pair hr (pa_cons (pv 0) pa_nil)) (pe_and (pe_callH h_is_one_of hr (pa_cons (pe_ix ix_tup (pv 0) pe_int (fun _ _ => rfl)) (pa_cons (pe_gtup g_LETTERS) pa_nil))) (pe_one (pe_callH h_is_bit hr (pa_cons (pe_ix ix_tup (pv 0) pe_int (fun _ _ => rfl)) pa_nil))))))))), ?_⟩
    refine ⟨_, rfl, v, d, rfl, hv, _, rfl, ?_⟩
    cases hp : pairD d with
    | false =>
      rw [(stepB_pair hp).1] at q
      exact iteF (q H (Same.refl H))
    | true =>
      obtain ⟨a, x, y, dx, dy, rfl, rfl, ha, h1, h2⟩ := pair_at hv hp
      refine iteT ⟨_, rfl, a, _, _, _, rfl, rfl, SqT.of ha, rfl, fun g hg => ⟨_, dx, g, _, rfl, .inl h1, hg, by decide, _, rfl, ?_⟩⟩
      have e : stepB (.tuple [dx, dy]) = (oneD [.str "r", .str "w"] dx && bitD dy) := rfl
      rw [e] at q
      cases ho : oneD [.str "r", .str "w"] dx with
      | false =>
        rw [ho] at q
        exact iteF (q H (Same.refl H))
      | true =>
        rw [ho] at q
        exact iteT ⟨_, rfl, a, _, _, _, rfl, rfl, SqT.of ha, rfl, _, dy, rfl, .inl h2, q⟩
def sg_frame : Sp := fun vs H Q _ => ∃ v d, vs = [v] ∧ AtX H v d ∧ Q (.bl (frameB d)) H
theorem og_frame (g_ORDERS : GTup K mg "ORDERS" [.str "up", .str "down", .str "any"]) (g_MOST_IN_ELEMENT : ∃ t, mg "MOST_IN_ELEMENT" = some (.int 6 t)) (h_is_pair : Has P w K mg base 1 "is_pair" ["thing"] sg_pair) (h_is_one_of : Has P w K mg base 1 "is_one_of" ["thing", "words"] (sg_one K)) (h_is_filled : Has P w K mg base 1 "is_filled" ["thing", "most"] sg_fill)
    (F : FnAt K mg "is_framed" s_is_framed ["thing"]) : Has P w K mg base 2 "is_framed" ["thing"] sg_frame := by
  refine Has.ofQ F sc_is_framed (fun vs H Q E h => ?_) (fun f cdv A outer s H vs Q E hr h => ?_)
  · obtain ⟨v, d, rfl, _⟩ := h
    rfl
  · obtain ⟨v, d, rfl, hv, q⟩ := h
    have sc := sc_is_framed
    refine ⟨_, (qss_litQ rfl (qss_one (qs_retE (qe_of (pe_and (pe_callH h_is_pair hr (pa_cons (pv 0) pa_nil)) (pe_and (pe_callH h_is_one_of hr (pa_cons (pe_ix ix_tup (pv 0) pe_int (fun _ _ => rfl)) (pa_cons (pe_gtup g_ORDERS) pa_nil))) (pe_one (pe_callH h_is_filled hr (pa_cons (pe_ix ix_tup (pv 0) pe_int (fun _ _ => rfl)) (pa_cons (pe_gint g_MOST_IN_ELEMENT) pa_nil)))))))))), ?_⟩
    refine ⟨_, rfl, v, d, rfl, hv, _, rfl, ?_⟩
    cases hp : pairD d with
    | false =>
      rw [(stepB_pair hp).2] at q
      exact iteF q
    | true =>
      obtain ⟨a, x, y, dx, dy, rfl, rfl, ha, h1, h2⟩ := pair_at hv hp
      refine iteT ⟨_, rfl, a, _, _, _, rfl, rfl, SqT.of ha, rfl, fun g hg => ⟨_, dx, g, _, rfl, .inl h1, hg, by decide, _, rfl, ?_⟩⟩
      have e : frameB (.tuple [dx, dy]) = (oneD [.str "up", .str "down", .str "any"] dx && fillD 6 dy) := rfl
      rw [e] at q
      cases ho : oneD [.str "up", .str "down", .str "any"] dx with
      | false =>
        rw [ho] at q
        exact iteF q
      | true =>
        rw [ho] at q
        exact iteT ⟨_, rfl, a, _, _, _, rfl, rfl, SqT.of ha, rfl, _, dy, 6, rfl, .inl h2, q⟩
/-- the first step of an element that is none -/
def badStep (ds : List PyData) : Option Nat := ds.findIdx? (fun x => !stepB x)
def stepsD : PyData → List PyData | .tuple [_, .list ds] => ds | _ => []
def elBad (d : PyData) : Option (Option Nat) := if frameB d = true then (badStep (stepsD d)).map some else some none
def optN : Option Nat → V | none => .non | some n => .int n
theorem frame_at {H : Hp} {v : V} {d : PyData} (hv : AtX H v d) (hf : frameB d = true) : ∃ a l ws o ds, d = .tuple [.str o, .list ds] ∧ v = .ref a ∧ H a = some (.tup [.str o, .ref l]) ∧ H l = some (.lst ws) ∧ AtAll H ws ds ∧ okO o ∧ 1 ≤ ds.length ∧ ds.length ≤ 6 := by
  have hp : pairD d = true := by
    cases hq : pairD d with
    | true => rfl
    | false => rw [(stepB_pair hq).2] at hf; cases hf
  obtain ⟨a, x, y, dx, dy, rfl, rfl, ha, h1, h2⟩ := pair_at hv hp
  have e : frameB (.tuple [dx, dy]) = (oneD [.str "up", .str "down", .str "any"] dx && fillD 6 dy) := rfl
  rw [e, Bool.and_eq_true] at hf
  obtain ⟨o, rfl⟩ : ∃ o, dx = .str o := by
    cases dx <;> first | exact ⟨_, rfl⟩ | exact absurd hf.1 (by simp [oneD])
  obtain ⟨ds, rfl⟩ : ∃ ds, dy = .list ds := by
    cases dy <;> first | exact ⟨_, rfl⟩ | exact absurd hf.2 (by simp [fillD])
  obtain ⟨l, ws, rfl, hl, hw⟩ := h2.lstEq
  have := h1.strEq
  subst this
  have h3 : 0 < ds.length ∧ (ds.length : Int) ≤ 6 := of_decide_eq_true hf.2
  refine ⟨a, l, ws, o, ds, rfl, rfl, ha, hl, hw, ?_, by omega, by omega⟩
  have h4 : inV (.str o) [.str "up", .str "down", .str "any"] = true := hf.1
  have e : ∀ {a b : Str}, ¬ b = a → eqV (V.str a) (V.str b) = false := fun {a b} h => by simp [eqV]; exact fun z => h z.symm
  by_cases h0 : o = "up"
  · exact .inl h0
  by_cases h1 : o = "down"
  · exact .inr (.inl h1)
  by_cases h2 : o = "any"
  · exact .inr (.inr h2)
  exfalso
  revert h4
  simp [inV, e h0, e h1, e h2]
def sg_elem (C : Addr) : Sp := fun vs H Q E => ∃ n : Nat, ∃ v d, vs = [.int n, v] ∧ AtX H v d ∧ (elBad d = none → ∀ H', Same H H' → Q .non H') ∧ (∀ s, elBad d = some s → ∀ a H', Same H H' → XAt H' a C [("element", .int n), ("step", optN s)] → E (.ref a) none H')
theorem og_elem {C : Addr} (B : Bl mg) (xT : XInit P w K mg base "NoTest" C ["self", "element", "step"] (sp_x2 C "element" "step")) (h_is_framed : Has P w K mg base 2 "is_framed" ["thing"] sg_frame) (h_is_step : Has P w K mg base 3 "is_step" ["thing"] sg_step) (F : FnAt K mg "look_at_element" s_look_at_element ["number", "thing"]) :
    HasX P w K mg base 4 "look_at_element" ["number", "thing"] (sg_elem C) := by
  refine HasX.of F sc_look_at_element (fun vs H Q E h => ?_) (fun f cdv A outer s H vs Q E hr h => ?_)
  · obtain ⟨n, v, d, rfl, _⟩ := h
    rfl
  · obtain ⟨n, v, d, rfl, hv, q1, q2⟩ := h
    have z2 : 2 ≤ sizeLine := by decide
    have sc := sc_look_at_element
    refine ⟨_, (qss_litQ rfl (qss_cons (qs_ifT (qt_not (qt_valC (qe_callH h_is_framed hr (qa_nm (qe_of (pv 1)) qa_nil))))
        (qss_one (qs_of (ps_raise (pe_xI xT hr (pa_cons (pv 0) (pa_cons pe_non pa_nil))))))
        qss_nil)
      (qss_one (qs_for passOwnX rfl (qi_of (pi_enum rfl (B.of rfl) (pa_cons (pe_ix ix_tup (pv 1) pe_int (fun _ _ => rfl)) pa_nil))) (pg_tup rfl (pgs_cons (pg_name (i := 2) sc.nd rfl (Or.inl rfl)) (pgs_cons (pg_name (i := 3) sc.nd rfl (Or.inl rfl)) pgs_nil)))
        (qss_one (qs_ifT (qt_not (qt_valC (qe_callH h_is_step hr (qa_nm (qe_of (pv 3)) qa_nil))))
          (qss_one (qs_of (ps_raise (pe_xI xT hr (pa_cons (pv 0) (pa_cons (pv 2) pa_nil))))))
          qss_nil)))))), ?_⟩
    refine ⟨_, rfl, v, d, rfl, hv, _, rfl, ?_⟩
    have hraise : ∀ {H1 : Hp} {a : Addr} (s : Option Nat), elBad d = some s → Same H H1 → H1 a = none → ∀ dd H4, XD H4 a C (some dd) [("element", .int n), ("step", optN s)] → SetX a dd none (upd H1 a (.ext (xObjP a C none))) H4 → (∃ a' C' dx, V.ref a = V.ref a' ∧ XTy K C' ∧ H4 a' = some (.ext (xObjP a' C' dx)) ∧ E (.ref a') none (upd H4 a' (.ext (xObjQ a' C' dx)))) := fun {H1 a} s hb s1 ha dd H4 x4 s4 => by
      obtain ⟨r1, r2, r3⟩ := raised_x ha x4 s4
      exact ⟨a, C, some dd, rfl, xT.2.2.1.toXTy, r1, q2 s hb a _ (s1.trans r2) r3⟩
    cases hf : frameB d with
    | false =>
      refine iteT ⟨_, rfl, z2, fun a ha => ⟨a, _, _, rfl, .inl ⟨rfl, rfl, upd_same⟩, fun dd H1 x1 s1 => ⟨rfl, ?_⟩⟩⟩
      exact hraise none (by unfold elBad; rw [hf]; rfl) (Same.refl H) ha dd H1 x1 s1
    | true =>
      refine iteF ?_
      obtain ⟨a, l, ws, o, ds, rfl, rfl, ha, hl, hw, oo, l1, l6⟩ := frame_at hv hf
      have hwl := hw.length
      have he : elBad (.tuple [.str o, .list ds]) = (badStep ds).map some := by unfold elBad; rw [if_pos hf]; rfl
      refine ⟨_, rfl, a, _, _, _, rfl, rfl, SqT.of ha, rfl, l, ws, rfl, SqL.of hl, for_enum (xs := ws) (fun i σ H2 => ∃ p q, σ = [some (.int n), some (.ref a), p, q] ∧ Same H H2 ∧ ∀ j, j < i → ∀ x, ds[j]? = some x → stepB x = true) ⟨none, none, rfl, Same.refl _, fun j hj => absurd hj (by omega)⟩
        (fun i σ H2 _ ⟨_, _, _, s2, _⟩ => SqL.of (s2 _ _ hl)) ?_ ?_⟩
      · rintro i x p σ H2 hx ⟨_, _, rfl, s2, hok⟩ hp
        obtain ⟨dd, hd, hat⟩ := hw.get hx
        have s3 : Same H (upd H2 p (.tup [.int i, x])) := s2.upd hp
        refine ⟨p, _, rfl, SqT.of upd_same, rfl, _, _, rfl, _, _, rfl, rfl, ?_⟩
        refine ⟨_, rfl, x, dd, rfl, .inl (hat.same s3), fun H3 s4 => ⟨_, rfl, ?_⟩⟩
        cases hs : stepB dd with
        | true =>
          refine iteF ⟨_, _, rfl, s3.trans s4, fun j hj y hy => ?_⟩
          by_cases e : j = i
          · subst e; rw [hd] at hy; cases hy; exact hs
          · exact hok j (by omega) y hy
        | false =>
          have hb : badStep ds = some i := by
            unfold badStep
            rw [List.findIdx?_eq_some_iff_getElem]
            obtain ⟨hi, e⟩ := List.getElem?_eq_some_iff.mp hd
            refine ⟨hi, by rw [e, hs]; rfl, fun j hj => ?_⟩
            have := hok j hj _ (List.getElem?_eq_getElem (by omega))
            rw [this]; exact fun z => by cases z
          refine iteT ⟨_, rfl, _, rfl, z2, fun a' ha' => ⟨a', _, _, rfl, .inl ⟨rfl, rfl, upd_same⟩, fun d4 H4 x4 s4' => ⟨rfl, ?_⟩⟩⟩
          exact hraise (some i) (by rw [he, hb]; rfl) (s3.trans s4) ha' d4 H4 x4 s4'
      · rintro σ H2 ⟨_, _, rfl, s2, hok⟩
        refine q1 ?_ H2 s2
        rw [he]
        have : badStep ds = none := by
          unfold badStep
          rw [List.findIdx?_eq_none_iff]
          intro x hx
          obtain ⟨j, hj⟩ := List.getElem?_of_mem hx
          have hjl := (List.getElem?_eq_some_iff.mp hj).1
          rw [hok j (by omega) x hj]; rfl
        rw [this]; rfl
end
end Mm
set_option Elab.async false
set_option linter.all false
set_option maxRecDepth 100000
set_option maxHeartbeats 4000000
namespace Mm
open PySem L2 PyProof.Rows Mx
theorem qss_never {X : Cx} {sts : List Stmt} : QSs X sts tNever := ⟨pss_never⟩
abbrev Bad := Option Nat × Option Nat
def firstBad : Nat → List PyData → Option Bad
  | _, [] => none
  | n, x :: xs => match elBad x with | some s => some (some n, s) | none => firstBad (n + 1) xs
def lstD : PyData → List PyData | .list ds => ds | _ => []
def testBad (d : PyData) : Option Bad := if fillD 8 d = true then firstBad 0 (lstD d) else some (none, none)
theorem firstBad_at : ∀ (ds : List PyData) (n i : Nat) (x : PyData) (s : Option Nat), ds[i]? = some x → (∀ j, j < i → ∀ y, ds[j]? = some y → elBad y = none) → elBad x = some s → firstBad n ds = some (some (n + i), s)
  | [], n, i, x, s, h, _, _ => by simp at h
  | y :: ys, n, 0, x, s, h, _, hb => by
    cases h
    unfold firstBad
    rw [hb]
    rfl
  | y :: ys, n, i + 1, x, s, h, ho, hb => by
    unfold firstBad
    rw [ho 0 (by omega) y rfl]
    show firstBad (n + 1) ys = _
    rw [firstBad_at ys (n + 1) i x s h (fun j hj z hz => ho (j + 1) (by omega) z hz) hb]
    rw [show n + 1 + i = n + (i + 1) by omega]
theorem firstBad_none : ∀ (ds : List PyData) (n : Nat), (∀ y ∈ ds, elBad y = none) → firstBad n ds = none
  | [], _, _ => rfl
  | y :: ys, n, h => by
    unfold firstBad
    rw [h y (List.mem_cons_self ..)]
    exact firstBad_none ys (n + 1) fun z hz => h z (List.mem_cons_of_mem _ hz)
theorem firstBad_all : ∀ (ds : List PyData) (n : Nat), firstBad n ds = none → ∀ y ∈ ds, elBad y = none
  | [], _, _, y, hy => by cases hy
  | y :: ys, n, h, z, hz => by
    unfold firstBad at h
    cases he : elBad y with
    | some s => rw [he] at h; cases h
    | none =>
      rw [he] at h
      rcases List.mem_cons.mp hz with rfl | hz
      · exact he
      · exact firstBad_all ys (n + 1) h z hz
/-- what is let by is a test -/
theorem step_of {d : PyData} (h : stepB d = true) : ∃ s, d = stepD s := by
  match d, h with
  | .tuple [a, b], h =>
    have h' : (oneD [.str "r", .str "w"] a && bitD b) = true := h
    rw [Bool.and_eq_true] at h'
    obtain ⟨x, rfl⟩ : ∃ x, a = .str x := by
      cases a <;> first | exact ⟨_, rfl⟩ | exact absurd h'.1 (by simp [oneD])
    obtain ⟨i, rfl⟩ : ∃ i, b = .int i := by
      cases b <;> first | exact ⟨_, rfl⟩ | exact absurd h'.2 (by simp [bitD])
    have h1 : inV (.str x) [.str "r", .str "w"] = true := h'.1
    have h2 : i = 0 ∨ i = 1 := of_decide_eq_true h'.2
    have e : ∀ {a b : Str}, ¬ b = a → eqV (V.str a) (V.str b) = false := fun {a b} h => by simp [eqV]; exact fun z => h z.symm
    have h3 : x = "r" ∨ x = "w" := by
      by_cases h0 : x = "r"
      · exact .inl h0
      by_cases h1' : x = "w"
      · exact .inr h1'
      exfalso
      revert h1
      simp [inV, e h0, e h1']
    rcases h3 with rfl | rfl <;> rcases h2 with rfl | rfl
    · exact ⟨(false, false), rfl⟩
    · exact ⟨(false, true), rfl⟩
    · exact ⟨(true, false), rfl⟩
    · exact ⟨(true, true), rfl⟩
theorem all_of {α : Type} {f : α → PyData} {p : α → Prop} : ∀ (ds : List PyData), (∀ d ∈ ds, ∃ s, d = f s ∧ p s) → ∃ ss : List α, ds = ss.map f ∧ ∀ s ∈ ss, p s
  | [], _ => ⟨[], rfl, fun s h => by cases h⟩
  | d :: ds, h => by
    obtain ⟨s, rfl, hs⟩ := h d (List.mem_cons_self ..)
    obtain ⟨ss, rfl, hss⟩ := all_of ds fun z hz => h z (List.mem_cons_of_mem _ hz)
    refine ⟨s :: ss, rfl, fun z hz => ?_⟩
    rcases List.mem_cons.mp hz with rfl | hz
    · exact hs
    · exact hss z hz
theorem frame_of {d : PyData} (hf : frameB d = true) : ∃ o ds, d = .tuple [.str o, .list ds] ∧ okO o ∧ 1 ≤ ds.length ∧ ds.length ≤ 6 := by
  have hp : pairD d = true := by
    cases hq : pairD d with
    | true => rfl
    | false => rw [(stepB_pair hq).2] at hf; cases hf
  match d, hp with
  | .tuple [dx, dy], _ =>
    have e : frameB (.tuple [dx, dy]) = (oneD [.str "up", .str "down", .str "any"] dx && fillD 6 dy) := rfl
    rw [e, Bool.and_eq_true] at hf
    obtain ⟨o, rfl⟩ : ∃ o, dx = .str o := by
      cases dx <;> first | exact ⟨_, rfl⟩ | exact absurd hf.1 (by simp [oneD])
    obtain ⟨ds, rfl⟩ : ∃ ds, dy = .list ds := by
      cases dy <;> first | exact ⟨_, rfl⟩ | exact absurd hf.2 (by simp [fillD])
    have h3 : 0 < ds.length ∧ (ds.length : Int) ≤ 6 := of_decide_eq_true hf.2
    refine ⟨o, ds, rfl, ?_, by omega, by omega⟩
    have h4 : inV (.str o) [.str "up", .str "down", .str "any"] = true := hf.1
    have e : ∀ {a b : Str}, ¬ b = a → eqV (V.str a) (V.str b) = false := fun {a b} h => by simp [eqV]; exact fun z => h z.symm
    by_cases h0 : o = "up"
    · exact .inl h0
    by_cases h1 : o = "down"
    · exact .inr (.inl h1)
    by_cases h2 : o = "any"
    · exact .inr (.inr h2)
    exfalso
    revert h4
    simp [inV, e h0, e h1, e h2]
theorem elem_of {d : PyData} (h : elBad d = none) : ∃ e, d = elemD e ∧ okE e := by
  unfold elBad at h
  by_cases hf : frameB d = true
  · rw [if_pos hf] at h
    obtain ⟨o, ds, rfl, oo, l1, l6⟩ := frame_of hf
    have hb : badStep ds = none := by
      cases hz : badStep ds with
      | none => rfl
      | some i =>
        have e : stepsD (.tuple [.str o, .list ds]) = ds := rfl
        rw [e, hz] at h
        cases h
    unfold badStep at hb
    rw [List.findIdx?_eq_none_iff] at hb
    obtain ⟨ss, rfl, _⟩ := all_of (f := stepD) (p := fun _ => True) ds (fun d hd => by
      have := hb d hd
      obtain ⟨s, hs⟩ := step_of (d := d) (by cases hz : stepB d with
        | true => rfl
        | false => rw [hz] at this; cases this)
      exact ⟨s, hs, trivial⟩)
    rw [List.length_map] at l1 l6
    exact ⟨(o, ss), rfl, oo, l1, l6⟩
  · rw [if_neg hf] at h
    cases h
theorem test_of {d : PyData} (h : testBad d = none) : ∃ T, d = testD T ∧ okT T := by
  unfold testBad at h
  by_cases hf : fillD 8 d = true
  · rw [if_pos hf] at h
    obtain ⟨ds, rfl⟩ : ∃ ds, d = .list ds := by
      cases d <;> first | exact ⟨_, rfl⟩ | exact absurd hf (by simp [fillD])
    have h3 : 0 < ds.length ∧ (ds.length : Int) ≤ 8 := of_decide_eq_true hf
    have ha := firstBad_all ds 0 h
    obtain ⟨T, rfl, hT⟩ := all_of (f := elemD) (p := okE) ds fun d hd => elem_of (ha d hd)
    rw [List.length_map] at h3
    exact ⟨T, rfl, by omega, by omega, hT⟩
  · rw [if_neg hf] at h
    cases h
section
variable {P : Program} {w : World} {K : PySem.W.Frag} {mg : Str → Option Value} {base : Heap}
def sg_look (C : Addr) : Sp := fun vs H Q E => ∃ v d, vs = [v] ∧ AtX H v d ∧ (testBad d = none → ∀ H', Same H H' → Q .non H') ∧ (∀ b, testBad d = some b → ∀ a H', Same H H' → XAt H' a C [("element", optN b.1), ("step", optN b.2)] → E (.ref a) none H')
theorem og_look {C : Addr} (B : Bl mg) (xT : XInit P w K mg base "NoTest" C ["self", "element", "step"] (sp_x2 C "element" "step")) (g_MOST_IN_TEST : ∃ t, mg "MOST_IN_TEST" = some (.int 8 t)) (h_is_filled : Has P w K mg base 1 "is_filled" ["thing", "most"] sg_fill) (h_look_at_element : HasX P w K mg base 4 "look_at_element" ["number", "thing"] (sg_elem C))
    (F : FnAt K mg "look_at_test" s_look_at_test ["thing"]) : HasX P w K mg base 5 "look_at_test" ["thing"] (sg_look C) := by
  refine HasX.of F sc_look_at_test (fun vs H Q E h => ?_) (fun f cdv A outer s H vs Q E hr h => ?_)
  · obtain ⟨v, s, rfl, _⟩ := h
    rfl
  · obtain ⟨v, d, rfl, hv, q1, q2⟩ := h
    have z2 : 2 ≤ sizeLine := by decide
    have sc := sc_look_at_test
    refine ⟨_, (qss_litQ rfl (qss_cons (qs_ifT (qt_not (qt_valC (qe_callH h_is_filled hr (qa_nm (qe_of (pv 0)) (qa_nm (qe_of (pe_gint g_MOST_IN_TEST)) qa_nil)))))
        (qss_one (qs_of (ps_raise (pe_xI xT hr (pa_cons pe_non (pa_cons pe_non pa_nil))))))
        qss_nil)
      (qss_one (qs_for passOwnX rfl (qi_of (pi_enum rfl (B.of rfl) (pa_cons (pv 0) pa_nil))) (pg_tup rfl (pgs_cons (pg_name (i := 1) sc.nd rfl (Or.inl rfl)) (pgs_cons (pg_name (i := 2) sc.nd rfl (Or.inl rfl)) pgs_nil)))
        (qss_one (qs_expr (qe_of (pe_callX h_look_at_element passX hr (pa_cons (pv 1) (pa_cons (pv 2) pa_nil)))))))))), ?_⟩
    refine ⟨_, rfl, v, d, 8, rfl, hv, _, rfl, ?_⟩
    cases hf : fillD 8 d with
    | false =>
      refine iteT ⟨z2, fun a ha => ⟨a, _, _, rfl, .inl ⟨rfl, rfl, upd_same⟩, fun dd H1 x1 s1 => ⟨rfl, ?_⟩⟩⟩
      obtain ⟨r1, r2, r3⟩ := raised_x ha x1 s1
      exact ⟨a, C, some dd, rfl, xT.2.2.1.toXTy, r1, q2 (none, none) (by unfold testBad; rw [hf]; rfl) a _ r2 r3⟩
    | true =>
      refine iteF ?_
      obtain ⟨ds, rfl⟩ : ∃ ds, d = .list ds := by
        cases d <;> first | exact ⟨_, rfl⟩ | exact absurd hf (by simp [fillD])
      have hv' : At H v (.list ds) := by
        rcases hv with h | ⟨e, _⟩
        · exact h
        · cases e
      obtain ⟨l, ws, rfl, hl, hw⟩ := hv'.lstEq
      have he : testBad (.list ds) = firstBad 0 ds := by unfold testBad; rw [if_pos hf]; rfl
      rw [he] at q1 q2
      refine ⟨_, rfl, l, ws, rfl, SqL.of hl, for_enum (xs := ws) (fun i σ H2 => ∃ p q, σ = [some (.ref l), p, q] ∧ Same H H2 ∧ ∀ j, j < i → ∀ x, ds[j]? = some x → elBad x = none) ⟨none, none, rfl, Same.refl _, fun j hj => absurd hj (by omega)⟩
        (fun i σ H2 _ ⟨_, _, _, s2, _⟩ => SqL.of (s2 _ _ hl)) ?_ ?_⟩
      · rintro i x p σ H2 hx ⟨_, _, rfl, s2, hok⟩ hp
        obtain ⟨dd, hd, hat⟩ := hw.get hx
        have s3 : Same H (upd H2 p (.tup [.int i, x])) := s2.upd hp
        refine ⟨p, _, rfl, SqT.of upd_same, rfl, _, _, rfl, _, _, rfl, rfl, ?_⟩
        refine ⟨_, rfl, _, rfl, i, x, dd, rfl, .inl (hat.same s3), fun hn H3 s4 => ?_, fun s hs a' H3 s4 hx' => ?_⟩
        · refine ⟨_, _, rfl, s3.trans s4, fun j hj y hy => ?_⟩
          by_cases e : j = i
          · subst e; rw [hd] at hy; cases hy; exact hn
          · exact hok j (by omega) y hy
        · have := firstBad_at ds 0 i dd s hd hok hs
          rw [Nat.zero_add] at this
          exact q2 _ this a' H3 (s3.trans s4) hx'
      · rintro σ H2 ⟨_, _, rfl, s2, hok⟩
        refine q1 (firstBad_none ds 0 fun x hx => ?_) H2 s2
        obtain ⟨j, hj⟩ := List.getElem?_of_mem hx
        have hjl := (List.getElem?_eq_some_iff.mp hj).1
        exact hok j (by have := hw.length; omega) x hj
def sg_bad (C : Addr) : Sp := fun vs H Q E => ∃ v d b, vs = [v] ∧ AtX H v d ∧ testBad d = some b ∧ (∀ a H', Same H H' → XAt H' a C [("element", optN b.1), ("step", optN b.2)] → E (.ref a) none H')
theorem sg_bad_len {C : Addr} (vs : List V) (H : Hp) (Q : VK) (E : XK) (h : sg_bad C vs H Q E) : vs.length = 1 := by
  obtain ⟨v, d, b, rfl, _⟩ := h
  rfl
theorem ob_is_sure {C : Addr} (h_look_at_test : HasX P w K mg base 5 "look_at_test" ["thing"] (sg_look C)) (F : FnAt K mg "is_sure" s_is_sure ["test"]) : HasX P w K mg base 6 "is_sure" ["test"] (sg_bad C) := by
  refine HasX.of F sc_is_sure sg_bad_len (fun f cdv A outer s H vs Q E hr h => ?_)
  obtain ⟨v, d, b, rfl, hv, hb, q⟩ := h
  have sc := sc_is_sure
  refine ⟨_, (qss_litQ rfl (qss_cons (qs_expr (qe_of (pe_callX h_look_at_test passX hr (pa_cons (pv 0) pa_nil)))) qss_never)), ?_⟩
  exact ⟨_, rfl, v, d, rfl, hv, fun z => (by rw [hb] at z; cases z), fun b' hb' => by rw [hb] at hb'; cases hb'; exact q⟩
theorem ob_leaves_all {C : Addr} (h_look_at_test : HasX P w K mg base 5 "look_at_test" ["thing"] (sg_look C)) (F : FnAt K mg "leaves_all" s_leaves_all ["test"]) : HasX P w K mg base 6 "leaves_all" ["test"] (sg_bad C) := by
  refine HasX.of F sc_leaves_all sg_bad_len (fun f cdv A outer s H vs Q E hr h => ?_)
  obtain ⟨v, d, b, rfl, hv, hb, q⟩ := h
  have sc := sc_leaves_all
  refine ⟨_, (qss_litQ rfl (qss_cons (qs_expr (qe_of (pe_callX h_look_at_test passX hr (pa_cons (pv 0) pa_nil)))) qss_never)), ?_⟩
  exact ⟨_, rfl, v, d, rfl, hv, fun z => (by rw [hb] at z; cases z), fun b' hb' => by rw [hb] at hb'; cases hb'; exact q⟩
abbrev s_length_of : Stmt := top 33
theorem sc_length_of : FnScope ["test"] ["test"] (defScope s_length_of) := ⟨rfl, rfl, rfl, by decide +kernel, rfl, by decide +kernel, by decide +kernel⟩
/- slots: 0 test -/
theorem ob_length_of {C : Addr} (h_look_at_test : HasX P w K mg base 5 "look_at_test" ["thing"] (sg_look C)) (F : FnAt K mg "length_of" s_length_of ["test"]) : HasX P w K mg base 6 "length_of" ["test"] (sg_bad C) := by
  refine HasX.of F sc_length_of sg_bad_len (fun f cdv A outer s H vs Q E hr h => ?_)
  obtain ⟨v, d, b, rfl, hv, hb, q⟩ := h
  have sc := sc_length_of
  refine ⟨_, (qss_litQ rfl (qss_cons (qs_expr (qe_of (pe_callX h_look_at_test passX hr (pa_cons (pv 0) pa_nil)))) qss_never)), ?_⟩
  exact ⟨_, rfl, v, d, rfl, hv, fun z => (by rw [hb] at z; cases z), fun b' hb' => by rw [hb] at hb'; cases hb'; exact q⟩
abbrev s_written : Stmt := top 44
theorem sc_written : FnScope ["test"] ["test"] (defScope s_written) := ⟨rfl, rfl, rfl, by decide +kernel, rfl, by decide +kernel, by decide +kernel⟩
/- slots: 0 test -/
theorem ob_written {C : Addr} (h_look_at_test : HasX P w K mg base 5 "look_at_test" ["thing"] (sg_look C)) (F : FnAt K mg "written" s_written ["test"]) : HasX P w K mg base 6 "written" ["test"] (sg_bad C) := by
  refine HasX.of F sc_written sg_bad_len (fun f cdv A outer s H vs Q E hr h => ?_)
  obtain ⟨v, d, b, rfl, hv, hb, q⟩ := h
  have sc := sc_written
  refine ⟨_, (qss_litQ rfl (qss_cons (qs_expr (qe_of (pe_callX h_look_at_test passX hr (pa_cons (pv 0) pa_nil)))) qss_never)), ?_⟩
  exact ⟨_, rfl, v, d, rfl, hv, fun z => (by rw [hb] at z; cases z), fun b' hb' => by rw [hb] at hb'; cases hb'; exact q⟩
theorem ob_look_at_sure {C CS : Addr} (xS : XBare K mg "NotSure" CS) (h_is_sure : HasX P w K mg base 6 "is_sure" ["test"] (sg_bad C)) (F : FnAt K mg "look_at_sure" s_look_at_sure ["test"]) : HasX P w K mg base 7 "look_at_sure" ["test"] (sg_bad C) := by
  refine HasX.of F sc_look_at_sure sg_bad_len (fun f cdv A outer s H vs Q E hr h => ?_)
  obtain ⟨v, d, b, rfl, hv, hb, q⟩ := h
  have sc := sc_look_at_sure
  refine ⟨_, (qss_litQ rfl (qss_one (qs_ifT (qt_not (qt_valC (qe_of (pe_callX h_is_sure passX hr (pa_cons (pv 0) pa_nil)))))
      (qss_one (qs_of (ps_raise (pe_x0 xS (pa_cons pe_str pa_nil)))))
      qss_nil))), ?_⟩
  exact ⟨_, rfl, v, d, b, rfl, hv, hb, q⟩
theorem ob_leaving_of {C : Addr} (h_look_at_sure : HasX P w K mg base 7 "look_at_sure" ["test"] (sg_bad C)) (F : FnAt K mg "leaving_of" s_leaving_of ["test"]) : HasX P w K mg base 8 "leaving_of" ["test"] (sg_bad C) := by
  refine HasX.of F sc_leaving_of sg_bad_len (fun f cdv A outer s H vs Q E hr h => ?_)
  obtain ⟨v, d, b, rfl, hv, hb, q⟩ := h
  have sc := sc_leaving_of
  refine ⟨_, (qss_litQ rfl (qss_cons (qs_expr (qe_of (pe_callX h_look_at_sure passX hr (pa_cons (pv 0) pa_nil)))) qss_never)), ?_⟩
  exact ⟨_, rfl, v, d, b, rfl, hv, hb, q⟩
/-- length_of tells the sum -/
def sp_length_of : Sp := fun vs H Q _ => ∃ v T, vs = [v] ∧ At H v (testD T) ∧ okT T ∧ ∀ H', Same H H' → Q (.int (steps T).length) H'
theorem ok_length_of (B : Bl mg) (h_look_at_test : Has P w K mg base 5 "look_at_test" ["thing"] sp_look_at_test) (h_steps_of : Has P w K mg base 1 "steps_of" ["test"] sp_steps_of) (F : FnAt K mg "length_of" s_length_of ["test"]) : Has P w K mg base 6 "length_of" ["test"] sp_length_of := by
  refine Has.ofQ F sc_length_of (fun vs H Q E h => ?_) (fun f cdv A outer s H vs Q E hr h => ?_)
  · obtain ⟨v, T, rfl, _⟩ := h
    rfl
  · obtain ⟨v, T, rfl, hv, hT, q⟩ := h
    have sc := sc_length_of
    refine ⟨_, (qss_litQ rfl (qss_cons (qs_expr (qe_callH h_look_at_test hr (qa_nm (qe_of (pv 0)) qa_nil)))
      (qss_one (qs_retE (qe_callB call_len_seq rfl (B.of rfl) boot_len (qa_cl (qe_callH h_steps_of hr (qa_nm (qe_of (pv 0)) qa_nil)) qa_nil)))))), ?_⟩
    refine ⟨_, rfl, v, T, rfl, hv, hT, fun H1 s1 => ?_⟩
    refine ⟨_, rfl, v, T, rfl, hv.same s1, hT, fun a ws H2 s2 e2 hw => ?_⟩
    refine ⟨a, _, rfl, .inl (SqL.of e2), ?_⟩
    have := hw.length
    rw [List.length_map] at this
    rw [this]
    exact q H2 (s1.trans s2)
end
end Mm
set_option Elab.async false
set_option linter.all false
set_option maxRecDepth 100000
set_option maxHeartbeats 4000000
namespace Mm
open PySem L2 PyProof.Rows Mx
theorem join_len (y : Str) {B : Nat} : ∀ (ps : List Str), (∀ p ∈ ps, p.length ≤ B) → (Str.join y ps).length ≤ ps.length * (B + y.length)
  | [], _ => by show (Str.empty).length ≤ _; simp [Str.empty, Str.length]
  | [p], h => by have := h p (List.mem_singleton.mpr rfl); show p.length ≤ 1 * _; omega
  | p :: q :: r, h => by
    have ih := join_len y (q :: r) (fun z hz => h z (List.mem_cons_of_mem _ hz))
    have h1 := h p (List.mem_cons_self ..)
    show (p ++ y ++ Str.join y (q :: r)).length ≤ _
    rw [Str.length_append, Str.length_append]
    have e : (p :: q :: r).length = (q :: r).length + 1 := rfl
    rw [e, Nat.add_mul]
    omega
theorem sum_len {B : Nat} : ∀ (ps : List Str), (∀ p ∈ ps, p.length ≤ B) → (ps.map (·.length)).sum ≤ ps.length * B
  | [], _ => by simp
  | p :: r, h => by
    have ih := sum_len r (fun z hz => h z (List.mem_cons_of_mem _ hz))
    have h1 := h p (List.mem_cons_self ..)
    simp only [List.map_cons, List.sum_cons, List.length_cons, Nat.add_mul]
    omega
section
variable {P : Program} {w : World} {K : PySem.W.Frag} {mg : Str → Option Value} {base : Heap}
def sp_written_element : Sp := fun vs H Q _ => ∃ v e, vs = [v] ∧ At H v (elemD e) ∧ okE e ∧ ∀ t H', Same H H' → t.length ≤ 45 → Q (.str t) H'
abbrev s_written_element : Stmt := top 43
theorem sc_written_element : FnScope ["element", "words", "step"] ["element"] (defScope s_written_element) := ⟨rfl, rfl, rfl, by decide +kernel, rfl, by decide +kernel, by decide +kernel⟩
/- slots: 0 element, 1 words, 2 step -/
theorem ok_written_element (B : Bl mg) (F : FnAt K mg "written_element" s_written_element ["element"]) : Has P w K mg base 1 "written_element" ["element"] sp_written_element := by
  refine Has.of F sc_written_element (fun vs H Q E h => ?_) (fun f cdv A outer s H vs Q E hr h => ?_)
  · obtain ⟨v, e, rfl, _⟩ := h
    rfl
  · obtain ⟨v, e, rfl, hv, he, k⟩ := h
    have hsl : (sizeLine : Nat) = 16777216 := sizeLine_eq
    obtain ⟨a, l, ws, rfl, ha, hl, hws⟩ := elem_at hv
    have sc := sc_written_element
    refine ⟨_, (pss_cons (ps_set (i := 1) sc.nd rfl (Or.inl rfl) (pe_lst (pa_cons (pe_ix ix_tup (pv 0) pe_int (fun _ _ => rfl)) pa_nil)))
      (pss_cons (ps_for PassesOwn.never rfl (pi_list (pe_ix ix_tup (pv 0) pe_int (fun _ _ => rfl))) (pg_name (i := 2) sc.nd rfl (Or.inl rfl))
        (pss_one (ps_expr (pe_bm PySem.F.plainAttrs_list PySem.F.slot_list_append PySem.F.type_list_append mt_append (pv 1) (pa_cons (pe_op op_add_str (pe_ix ix_tup (pv 2) pe_int (fun _ _ => rfl)) (pe_callTy call_str_int rfl (B.of rfl) boot_str (pa_cons (pe_ix ix_tup (pv 2) pe_int (fun _ _ => rfl)) pa_nil))) pa_nil)))))
      (pss_one (ps_ret (pe_bm PySem.F.plainAttrs_str PySem.F.slot_str_join PySem.F.type_str_join mt_join pe_str (pa_cons (pv 1) pa_nil)))))), ?_⟩
    have hlw : ws.length = e.2.length := by have := hws.length; rw [List.length_map] at this; exact this
    have he6 := he.2.2
    have ol : e.1.length ≤ 4 := by rcases he.1 with h | h | h <;> rw [h] <;> decide +kernel
    refine ⟨_, rfl, a, _, _, _, rfl, rfl, SqT.of ha, atI_lit 0 rfl, (by show 1 ≤ sizeLine; decide), fun p hp => ?_⟩
    have s1 : Same H (upd H p (.lst [.str e.1])) := (Same.refl H).upd hp
    refine ⟨_, rfl, a, _, _, _, rfl, rfl, SqT.of (s1 _ _ ha), atI_lit 1 rfl, l, rfl, ⟨_, SqL.of (s1 _ _ hl)⟩, for_list (xs := ws) (fun i σ H2 => ∃ q2, σ = [some (.ref a), some (.ref p), q2] ∧ Same H H2 ∧ ∃ ys : List Str, H2 p = some (.lst (ys.map V.str)) ∧ ys.length = i + 1 ∧ ∀ y ∈ ys, y.length ≤ 4) ⟨none, rfl, s1, [e.1], upd_same, rfl, fun y hy => by rw [List.mem_singleton.mp hy]; exact ol⟩
      (fun i σ H2 _ ⟨_, _, s2, _⟩ => SqL.of (s2 _ _ hl)) ?_ ?_⟩
    · rintro i x σ H2 hx ⟨q2, rfl, s2, ys, hp2, hyl, hys⟩
      obtain ⟨d, hd, hat⟩ := hws.get hx
      obtain ⟨st, hst, rfl⟩ := map_get hd
      obtain ⟨b, rfl, hb⟩ := step_at (hat.same s2)
      have hil : i < e.2.length := (List.getElem?_eq_some_iff.mp hst).1
      have w1 : (stepL st.1).length ≤ 1 := by cases st.1 <;> decide +kernel
      have w2 : (Str.ofString (toString (b2i st.2))).length ≤ 1 := by cases st.2 <;> decide +kernel
      refine ⟨_, rfl, .inl ⟨rfl, _, SqL.of hp2⟩, _, rfl, b, _, _, _, rfl, rfl, SqT.of hb, atI_lit 0 rfl, _, rfl, b, _, _, _, rfl, rfl, SqT.of hb, atI_lit 1 rfl, b2i st.2, rfl, ?_, _, _, rfl, rfl, ?_, p, _, _, rfl, rfl, hp2, sl_lt (by rw [List.length_map]; omega), ?_⟩
      · cases st.2 <;> decide +kernel
      · show (stepL st.1).length + (Str.ofString (toString (b2i st.2))).length ≤ _
        omega
      · refine ⟨_, rfl, s2.at hp, ys ++ [stepL st.1 ++ Str.ofString (toString (b2i st.2))], by rw [upd_same, List.map_append]; rfl, by simp [hyl], fun y hy => ?_⟩
        rcases List.mem_append.mp hy with hy | hy
        · exact hys y hy
        · rw [List.mem_singleton.mp hy, Str.length_append]; omega
    · rintro σ H2 ⟨q2, rfl, s2, ys, hp2, hyl, hys⟩
      have h1 := sum_len (B := 4) _ hys
      have h2 := join_len " " (B := 4) _ hys
      have e1 : (" " : Str).length = 1 := by decide +kernel
      rw [e1] at h2
      refine ⟨rfl, _, rfl, " ", p, _, rfl, rfl, hp2, ?_, k _ H2 s2 (by omega)⟩
      rw [e1]
      omega
def sp_written : Sp := fun vs H Q _ => ∃ v T, vs = [v] ∧ At H v (testD T) ∧ okT T ∧ ∀ t H', Same H H' → Q (.str t) H'
theorem ok_written (g_PARTING : ∃ t, mg "PARTING" = some (.str "; " t)) (h_look_at_test : Has P w K mg base 5 "look_at_test" ["thing"] sp_look_at_test) (h_written_element : Has P w K mg base 1 "written_element" ["element"] sp_written_element) (F : FnAt K mg "written" s_written ["test"]) : Has P w K mg base 6 "written" ["test"] sp_written := by
  obtain ⟨tP, gP⟩ := g_PARTING
  refine Has.of F sc_written (fun vs H Q E h => ?_) (fun f cdv A outer s H vs Q E hr h => ?_)
  · obtain ⟨v, T, rfl, _⟩ := h
    rfl
  · obtain ⟨v, T, rfl, hv, hT, k⟩ := h
    have hsl : (sizeLine : Nat) = 16777216 := sizeLine_eq
    have sc := sc_written
    refine ⟨_, (pss_cons (ps_expr (pe_callH h_look_at_test hr (pa_cons (pv 0) pa_nil)))
      (pss_one (ps_ret (pe_bm PySem.F.plainAttrs_str PySem.F.slot_str_join PySem.F.type_str_join mt_join (pe_glob (v := .str "; ") rfl gP ⟨tP, rfl⟩) (pa_cons (pe_comp rfl (compOk_of rfl) (M := ["element"]) (ix := [none]) (pi_list (pv 0)) (fun _ _ _ _ => (pg_name (i := 0) (show List.Nodup (["element"] : List Str) by decide +kernel) rfl (Or.inl rfl))) (fun _ _ _ _ => pts_nil) (fun _ _ _ _ => (pe_callH h_written_element hr (pa_cons (pv 0) pa_nil)))) pa_nil))))), ?_⟩
    refine ⟨_, rfl, v, T, rfl, hv, hT, fun H1 s1 => ?_⟩
    obtain ⟨l, ws, rfl, hl, hws⟩ := (hv.same s1).lstEq
    have hlw : ws.length = T.length := by have := hws.length; rw [List.length_map] at this; exact this
    have hT8 := hT.2.1
    refine ⟨rfl, _, rfl, l, rfl, ⟨_, SqL.of hl⟩, fun D hD => comp_by (n := ws.length) (fun i H' => Same H1 H' ∧ ∃ ys : List Str, H' D = some (.lst (ys.map V.str)) ∧ ys.length = i ∧ ∀ y ∈ ys, y.length ≤ 45) ⟨(Same.refl H1).upd hD, [], upd_same, rfl, fun y h => by cases h⟩ ?_ ?_⟩
    · rintro H2 ⟨s2, ys, e2, hyl, hys⟩
      have h1 := sum_len (B := 45) _ hys
      have e1 : ("; " : Str).length = 2 := by decide +kernel
      refine ⟨⟨_, SqL.of (s2 _ _ hl), Nat.le_refl _⟩, "; ", D, _, rfl, rfl, e2, ?_, k _ H2 (s1.trans s2)⟩
      rw [e1]
      omega
    · rintro i H2 hi ⟨s2, ys, e2, hyl, hys⟩
      refine ⟨⟨_, _, SqL.of (s2 _ _ hl), List.getElem?_eq_getElem hi⟩, ?_⟩
      rintro x H3 ⟨rfl, hx⟩
      have hxi := hx _ (SqL.of (s2 _ _ hl))
      obtain ⟨d, hd, hat⟩ := hws.get hxi
      obtain ⟨e, he, rfl⟩ := map_get hd
      refine ⟨KeepS.set (KeepS.refl _) rfl, yes ?_⟩
      refine ⟨_, rfl, _, e, rfl, hat.same s2, hT.2.2 e (List.mem_of_getElem? he), fun t H4 s4 ht => ?_⟩
      refine ⟨_, s4 _ _ e2, sl_lt (by rw [List.length_map]; omega), (s2.trans s4).at hD, ys ++ [t], by rw [upd_same, List.map_append]; rfl, by simp [hyl], fun y hy => ?_⟩
      rcases List.mem_append.mp hy with hy | hy
      · exact hys y hy
      · rw [List.mem_singleton.mp hy]; exact ht
end
end Mm
set_option Elab.async false
set_option linter.all false
set_option maxRecDepth 100000
set_option maxHeartbeats 4000000
namespace Mm
open PySem L2 PyProof.Rows Mx
theorem boot_VE : bootBuiltins "ValueError" = some (.type "ValueError") := by decide +kernel
def nms : List Str := ["NoTest", "NoText", "NoHarms", "NoMemory", "NoAddress", "NoBit", "NoOrders", "NotSure", "NoKind", "NoSpares", "NoRow", "NoName", "TooMany"]
def kinds : List Str := ["test", "text", "harms", "memory", "address", "bit", "orders", "sure", "kind", "spares", "row", "name", "many"]
def strs_test_text : List Str := ["test", "text", "harms", "memory", "address", "bit", "orders", "sure", "kind", "spares", "row", "name"]
def tru (j : Nat) : List Bool := [decide (0 = j), decide (1 = j), decide (2 = j), decide (3 = j), decide (4 = j), decide (5 = j), decide (6 = j), decide (7 = j), decide (8 = j), decide (9 = j), decide (10 = j), decide (11 = j), decide (12 = j)]
theorem tru_is : ∀ j, j < 13 → (tru j).count true = 1 ∧ (tru j)[j]? = some true ∧ ∀ m, m < j → (tru j)[m]? ≠ some true := by decide +kernel
theorem ite_f {c A B : Prop} [Decidable c] (h : ¬ c) (b : B) : if c then A else B := by rw [if_neg h]; exact b
theorem kinds_at : ∀ j, j < 13 → atI (strs_test_text.map V.str ++ [V.str "many"]) (j : Nat) = some (V.str (kinds.getD j "")) := by decide +kernel
section
variable {P : Program} {w : World} {K : PySem.W.Frag} {mg : Str → Option Value} {base : Heap}
def sp_kind (K : PySem.W.Frag) (c : Nat → Addr) : Sp := fun vs H Q _ => ∃ a C fs j, vs = [.ref a] ∧ XAt H a C fs ∧ XTy K C ∧ j < 13 ∧ (∀ i, i < 13 → PySem.W.kitOne K (.ref C) (.ref (c i)) = some (decide (i = j))) ∧ PySem.W.kitOne K (.ref C) (.type "ValueError") = some true ∧
  ∀ H', Same H H' → Q (.str (kinds.getD j "")) H'
abbrev s__law_kind : Stmt := top 50
theorem sc__law_kind : FnScope ["_law_e", "_law_some", "_law_names"] ["_law_e"] (defScope s__law_kind) := ⟨rfl, rfl, rfl, by decide +kernel, rfl, by decide +kernel, by decide +kernel⟩
/- slots: 0 _law_e, 1 _law_some, 2 _law_names -/
theorem ok_kind {c : Nat → Addr} (B : Bl mg) (hVE : mg "ValueError" = none) (G : ∀ i x, nms[i]? = some x → mg x = some (.ref (c i))) (F : FnAt K mg "_law_kind" s__law_kind ["_law_e"]) : Has P w K mg base 1 "_law_kind" ["_law_e"] (sp_kind K c) := by
  refine Has.of F sc__law_kind (fun vs H Q E h => ?_) (fun f cdv A outer s H vs Q E hr h => ?_)
  · obtain ⟨a, C, fs, j, rfl, _⟩ := h
    rfl
  · obtain ⟨a, C, fs, j, rfl, hx, T, hj, hk, hv, k⟩ := h
    have isi : ∀ {H' : Hp} {q : VK} (i : Nat), i < 13 → Same H H' → q (.bl (decide (i = j))) H' → rIsiX K [.ref a, .ref (c i)] H' q := fun i hi sm hq => ⟨a, C, fs, .ref (c i), _, rfl, .inl ⟨_, rfl⟩, XAt.same sm hx, T, hk i hi, hq⟩
    have sc := sc__law_kind
    refine ⟨_, (qss_lit rfl (qss_cons (qs_set (i := 1) sc.nd rfl (Or.inl rfl) (pe_lst (pa_cl (pe_callB call_isiX rfl (B.of rfl) boot_isinstance (pa_cons (pv 0) (pa_cons (pe_glob (v := .ref (c 0)) rfl (G 0 "NoTest" rfl) rfl) pa_nil))) (pa_cl (pe_callB call_isiX rfl (B.of rfl) boot_isinstance (pa_cons (pv 0) (pa_cons (pe_glob (v := .ref (c 1)) rfl (G 1 "NoText" rfl) rfl) pa_nil))) (pa_cl (pe_callB call_isiX rfl (B.of rfl) boot_isinstance (pa_cons (pv 0) (pa_cons (pe_glob (v := .ref (c 2)) rfl (G 2 "NoHarms" rfl) rfl) pa_nil))) (pa_cl (pe_callB call_isiX rfl (B.of rfl) boot_isinstance (pa_cons (pv 0) (pa_cons (pe_glob (v := .ref (c 3)) rfl (G 3 "NoMemory" rfl) rfl) pa_nil))) pa_nil))))))
      (qss_cons (qs_set (i := 1) sc.nd rfl (Or.inl rfl) (pe_op op_cat (pv 1) (pe_lst (pa_cl (pe_callB call_isiX rfl (B.of rfl) boot_isinstance (pa_cons (pv 0) (pa_cons (pe_glob (v := .ref (c 4)) rfl (G 4 "NoAddress" rfl) rfl) pa_nil))) (pa_cl (pe_callB call_isiX rfl (B.of rfl) boot_isinstance (pa_cons (pv 0) (pa_cons (pe_glob (v := .ref (c 5)) rfl (G 5 "NoBit" rfl) rfl) pa_nil))) (pa_cl (pe_callB call_isiX rfl (B.of rfl) boot_isinstance (pa_cons (pv 0) (pa_cons (pe_glob (v := .ref (c 6)) rfl (G 6 "NoOrders" rfl) rfl) pa_nil))) (pa_cl (pe_callB call_isiX rfl (B.of rfl) boot_isinstance (pa_cons (pv 0) (pa_cons (pe_glob (v := .ref (c 7)) rfl (G 7 "NotSure" rfl) rfl) pa_nil))) pa_nil)))))))
      (qss_cons (qs_set (i := 1) sc.nd rfl (Or.inl rfl) (pe_op op_cat (pv 1) (pe_lst (pa_cl (pe_callB call_isiX rfl (B.of rfl) boot_isinstance (pa_cons (pv 0) (pa_cons (pe_glob (v := .ref (c 8)) rfl (G 8 "NoKind" rfl) rfl) pa_nil))) (pa_cl (pe_callB call_isiX rfl (B.of rfl) boot_isinstance (pa_cons (pv 0) (pa_cons (pe_glob (v := .ref (c 9)) rfl (G 9 "NoSpares" rfl) rfl) pa_nil))) (pa_cl (pe_callB call_isiX rfl (B.of rfl) boot_isinstance (pa_cons (pv 0) (pa_cons (pe_glob (v := .ref (c 10)) rfl (G 10 "NoRow" rfl) rfl) pa_nil))) (pa_cl (pe_callB call_isiX rfl (B.of rfl) boot_isinstance (pa_cons (pv 0) (pa_cons (pe_glob (v := .ref (c 11)) rfl (G 11 "NoName" rfl) rfl) pa_nil))) pa_nil)))))))
      (qss_cons (qs_set (i := 1) sc.nd rfl (Or.inl rfl) (pe_op op_cat (pv 1) (pe_lst (pa_cons (pe_callB call_isiX rfl (B.of rfl) boot_isinstance (pa_cons (pv 0) (pa_cons (pe_glob (v := .ref (c 12)) rfl (G 12 "TooMany" rfl) rfl) pa_nil))) pa_nil))))
      (qss_cons (qs_if (PW.pt (pw_or (pt_cmpR op_ne (pe_bm PySem.F.plainAttrs_list PySem.F.slot_list_count PySem.F.type_list_count mt_countB (pv 1) (pa_cons pe_bl pa_nil)) pe_int (nomark _)) (pw_or1 (pt_not (pt_val (pe_callB call_isiX rfl (B.of rfl) boot_isinstance (pa_cons (pv 0) (pa_cons (pe_bltn (v := .ty "ValueError") rfl hVE boot_VE rfl) pa_nil))))))))
        (qss_one (qs_ret pe_str))
        qss_nil)
      (qss_cons (qs_strs (i := 2) (xs := strs_test_text) sc.nd rfl (Or.inl rfl) (by decide +kernel))
      (qss_one (qs_ret (pe_ix ix_list (pe_op op_cat (pv 2) (pe_lst (pa_cons pe_str pa_nil))) (pe_bm PySem.F.plainAttrs_list PySem.F.slot_list_index PySem.F.type_list_index mt_indexB (pv 1) (pa_cons pe_bl pa_nil)) (fun _ _ => rfl))))))))))), ?_⟩
    have z4 : 4 ≤ sizeLine := by decide
    have u : ∀ {H' : Hp} {p q : Addr} {o o' : HO}, H' p = some o → H' q = none → upd H' q o' p = some o := fun h1 h2 => by rw [upd_ne (ne_of_none h1 h2)]; exact h1
    refine ⟨_, rfl, ⟨a, C, fs, .ref (c 0), _, rfl, .inl ⟨_, rfl⟩, XAt.same ((Same.refl H)) hx, T, hk 0 (by decide), ⟨_, rfl, ⟨a, C, fs, .ref (c 1), _, rfl, .inl ⟨_, rfl⟩, XAt.same ((Same.refl H)) hx, T, hk 1 (by decide), ⟨_, rfl, ⟨a, C, fs, .ref (c 2), _, rfl, .inl ⟨_, rfl⟩, XAt.same ((Same.refl H)) hx, T, hk 2 (by decide), ⟨_, rfl, ⟨a, C, fs, .ref (c 3), _, rfl, .inl ⟨_, rfl⟩, XAt.same ((Same.refl H)) hx, T, hk 3 (by decide), ⟨z4, fun p1 f1 => ?_⟩⟩⟩⟩⟩⟩⟩⟩⟩
    have s1 : Same H _ := (Same.refl H).upd (o := .lst [.bl (decide (0 = j)), .bl (decide (1 = j)), .bl (decide (2 = j)), .bl (decide (3 = j))]) f1
    have a1 : upd H p1 (.lst [.bl (decide (0 = j)), .bl (decide (1 = j)), .bl (decide (2 = j)), .bl (decide (3 = j))]) p1 = some _ := upd_same
    revert a1 s1
    generalize upd H p1 (.lst [.bl (decide (0 = j)), .bl (decide (1 = j)), .bl (decide (2 = j)), .bl (decide (3 = j))]) = H1
    intro s1 a1
    refine ⟨_, rfl, _, rfl, ⟨a, C, fs, .ref (c 4), _, rfl, .inl ⟨_, rfl⟩, XAt.same (s1) hx, T, hk 4 (by decide), ⟨_, rfl, ⟨a, C, fs, .ref (c 5), _, rfl, .inl ⟨_, rfl⟩, XAt.same (s1) hx, T, hk 5 (by decide), ⟨_, rfl, ⟨a, C, fs, .ref (c 6), _, rfl, .inl ⟨_, rfl⟩, XAt.same (s1) hx, T, hk 6 (by decide), ⟨_, rfl, ⟨a, C, fs, .ref (c 7), _, rfl, .inl ⟨_, rfl⟩, XAt.same (s1) hx, T, hk 7 (by decide), ⟨z4, fun p2 f2 => ⟨p1, p2, _, _, rfl, rfl, u a1 f2, upd_same, (show 8 ≤ sizeLine by decide), fun p3 f3 => ?_⟩⟩⟩⟩⟩⟩⟩⟩⟩⟩
    refine ⟨_, rfl, _, rfl, ⟨a, C, fs, .ref (c 8), _, rfl, .inl ⟨_, rfl⟩, XAt.same (((s1.upd f2).upd f3)) hx, T, hk 8 (by decide), ⟨_, rfl, ⟨a, C, fs, .ref (c 9), _, rfl, .inl ⟨_, rfl⟩, XAt.same (((s1.upd f2).upd f3)) hx, T, hk 9 (by decide), ⟨_, rfl, ⟨a, C, fs, .ref (c 10), _, rfl, .inl ⟨_, rfl⟩, XAt.same (((s1.upd f2).upd f3)) hx, T, hk 10 (by decide), ⟨_, rfl, ⟨a, C, fs, .ref (c 11), _, rfl, .inl ⟨_, rfl⟩, XAt.same (((s1.upd f2).upd f3)) hx, T, hk 11 (by decide), ⟨z4, fun p4 f4 => ⟨p3, p4, _, _, rfl, rfl, u upd_same f4, upd_same, (show 12 ≤ sizeLine by decide), fun p5 f5 => ?_⟩⟩⟩⟩⟩⟩⟩⟩⟩⟩
    refine ⟨_, rfl, _, rfl, ⟨a, C, fs, .ref (c 12), _, rfl, .inl ⟨_, rfl⟩, XAt.same (((((s1.upd f2).upd f3).upd f4).upd f5)) hx, T, hk 12 (by decide), ⟨(show 1 ≤ sizeLine by decide), fun p6 f6 => ⟨p5, p6, _, _, rfl, rfl, u upd_same f6, upd_same, (show 13 ≤ sizeLine by decide), fun p7 f7 => ?_⟩⟩⟩⟩
    have hc : (tru j).count true = 1 := (tru_is j hj).1
    have hq : Same H _ := ((((((s1.upd f2).upd f3).upd f4).upd f5).upd f6).upd (o := .lst ((tru j).map V.bl)) f7)
    refine ⟨_, rfl, .inl ⟨rfl, _, SqL.of upd_same⟩, p7, tru j, true, rfl, rfl, upd_same, ?_⟩
    rw [hc]
    refine ⟨rfl, _, rfl, ?_⟩
    refine ite_f (by decide) ?_
    refine ⟨_, rfl, a, C, fs, .ty "ValueError", _, rfl, .inr ⟨_, rfl⟩, XAt.same hq hx, T, hv, _, rfl, ?_⟩
    refine ite_f (by decide) ?_
    refine ⟨(show 12 ≤ sizeLine by decide), fun p8 f8 => ?_⟩
    refine ⟨_, rfl, (show 1 ≤ sizeLine by decide), fun p9 f9 => ⟨p8, p9, _, _, rfl, rfl, u upd_same f9, upd_same, (show 13 ≤ sizeLine by decide), fun p10 f10 => ?_⟩⟩
    refine ⟨_, rfl, .inl ⟨rfl, _, SqL.of (u (u (u upd_same f8) f9) f10)⟩, p7, tru j, true, j, rfl, rfl, u (u (u upd_same f8) f9) f10, (tru_is j hj).2.1, (tru_is j hj).2.2, ?_⟩
    exact ⟨p10, _, _, _, rfl, rfl, SqL.of upd_same, kinds_at j hj, k _ (((hq.upd f8).upd f9).upd f10)⟩
end
end Mm
set_option Elab.async false
set_option linter.all false
set_option maxRecDepth 100000
set_option maxHeartbeats 2000000
namespace L2
open PySem PySem.Spec PyProof.Rows PySem.W
theorem range_contains_m (r : Addr) (a b c x : Int) (t u v tx : Tok) :
    Meets (Builtin.«range.__contains__» ⟨[.ref r, .int x tx], []⟩) (fun _ R s => s.heap.get? r = some { cls := .type "range", dict := none, data := .fields #[.int a t, .int b u, .int c v], slots := #[] } ∧ R (.ok (.ret (.bool (Builtin.Range.rangePlace? a b c x).isSome))) s) :=
  .of_wp fun prog w A R s h => by obtain ⟨hp, g, d, tk, os⟩ := s; obtain ⟨hl, h⟩ := h; wp_walk; exact ⟨_, rfl, h⟩
theorem place_one (a b x : Int) : (Builtin.Range.rangePlace? a b 1 x).isSome = decide (a ≤ x ∧ x < b) := by
  unfold Builtin.Range.rangePlace?
  have h1 : ((x - a) % 1 == 0) = true := by rw [beq_iff_eq]; omega
  by_cases h : a ≤ x ∧ x < b
  · rw [decide_eq_true h]; simp [h.1, h.2, h1]
  · rw [decide_eq_false h]
    by_cases h2 : a ≤ x
    · have h3 : ¬ x < b := fun z => h ⟨h2, z⟩
      simp [h2, h3]
    · simp [h2]
section
variable {X : Cx}
def tNR (te : TE) (ta : TA) : TT := fun σ H Q => te σ H fun x H1 => ta σ H1 fun vs H2 => ∃ i a b, x = .int i ∧ vs = [.int a, .int b] ∧ Q (!decide (a ≤ i ∧ i < b)) H2
theorem pt_notRange {e lo hi : Expr} {te : TE} {ta : TA} {p2 pos pos2 : Pos} (hgr : Gl X "range") (hmr : X.mg "range" = none) (he : PE X e te) (ha : PA X [lo, hi] ta)
    (hm : behindInMarks .NotIn (.Call (.Name "range" p2) [lo, hi] [] pos2) = false := by with_unfolding_all rfl)
    (hs : starEach [lo, hi] X.env = (false, eval lo X.env) :: starEach [hi] X.env := by rfl) (hs2 : (backTo pos2 (starEach [hi] X.env)).any (·.1) = false := by rfl) :
    PT X (.Compare e [.NotIn] [.Call (.Name "range" p2) [lo, hi] [] pos2] pos) (tNR te ta) := by
  intro pins s σ H Q I h
  refine wpAny_isTrue_Compare1 (thn (he pins s σ H _ I h) fun v0 s0 ⟨x0, H0, I0, r0, q0⟩ => ?_) hm
  refine Call_ (ld_blt I0 hgr hmr boot_range (PyProof.Rows.callWith_type1 (thn (ha pos2 pins s0 σ H0 _ I0 q0) fun us s1 ⟨vs, H1, I1, r1, q1⟩ => ?_) hs hs2))
  obtain ⟨i, a, b, e0, e, q⟩ := q1
  subst e e0
  obtain ⟨tx, rfl⟩ := r0
  cases r1 with
  | cons r1 rr =>
    cases rr with
    | cons r2 rr =>
      cases rr
      obtain ⟨t, rfl⟩ := r1
      obtain ⟨u, rfl⟩ := r2
      refine call_range_2 ?_
      have I2 : Inv X pins σ H1 { s1 with heap := s1.heap.push { cls := .type "range", data := .fields #[.int a t, .int b u, .int 1 s1.toks] }, toks := s1.toks + 1 } := I1.kept fun b o e => Heap.get?_push_of_some _ e
      have hg : (s1.heap.push { cls := .type "range", data := .fields #[.int a t, .int b u, .int 1 s1.toks] }).get? s1.heap.objs.size = some { cls := .type "range", data := .fields #[.int a t, .int b u, .int 1 s1.toks] } := Heap.get?_push_size _ rfl
      refine PySem.SeqRoads2.notIn_meets ⟨_, hg, rfl⟩ F.slot_range_contains F.entry_range_contains (F.args_range_contains_2 _ _) (range_contains_m _ a b 1 i t u _ tx) ⟨hg, _, rfl, ?_⟩
      rw [place_one]
      exact wpAny_truthy_bool ⟨H1, I2, q⟩
end
end L2
set_option Elab.async false
set_option linter.all false
set_option maxRecDepth 100000
set_option maxHeartbeats 4000000
namespace Mm
open PySem L2 PyProof.Rows Mx
def optD : Option Nat → PyData | none => .none | some n => .int n
def tvD : Option Bad → PyData | none => .str "test" | some b => .tuple [optD b.1, optD b.2]
theorem optD_at (H : Hp) (o : Option Nat) : At H (optN o) (optD o) := by
  cases o
  · exact .non
  · exact .int _
theorem tv_at {H : Hp} {p : Addr} {b : Bad} (h : H p = some (.tup [optN b.1, optN b.2])) : At H (.ref p) (tvD (some b)) := .tup h (.cons (optD_at _ _) (.cons (optD_at _ _) .nil))
theorem el_bad {d : PyData} (h : frameB d = false) : elBad d = some none := by unfold elBad; rw [h]; rfl
theorem bit_in (i : Int) : inV (.int i) [.int 0, .int 1] = bitD (.int i) := by
  unfold bitD
  show ((0 == i) || ((1 == i) || false)) = _
  rw [Bool.eq_iff_iff, decide_eq_true_eq, Bool.or_false, Bool.or_eq_true, beq_iff_eq, beq_iff_eq]
  constructor
  · rintro (h | h)
    · exact .inl h.symm
    · exact .inr h.symm
  · rintro (h | h)
    · exact .inl h.symm
    · exact .inr h.symm
section
variable {P : Program} {w : World} {K : PySem.W.Frag} {mg : Str → Option Value} {base : Heap}
def sg_lstep : Sp := fun vs H Q _ => ∃ v d, vs = [v] ∧ At H v d ∧ ∀ H', Same H H' → Q (.bl (stepB d)) H'
abbrev s__law_is_step : Stmt := top 51
theorem sc__law_is_step : FnScope ["_law_thing"] ["_law_thing"] (defScope s__law_is_step) := ⟨rfl, rfl, rfl, by decide +kernel, rfl, by decide +kernel, by decide +kernel⟩
/- slots: 0 _law_thing -/
theorem og_lstep (B : Bl mg) (F : FnAt K mg "_law_is_step" s__law_is_step ["_law_thing"]) : Has P w K mg base 1 "_law_is_step" ["_law_thing"] sg_lstep := by
  refine Has.ofQ F sc__law_is_step (fun vs H Q E h => ?_) (fun f cdv A outer s H vs Q E hr h => ?_)
  · obtain ⟨v, d, rfl, _⟩ := h
    rfl
  · obtain ⟨v, d, rfl, hv, q⟩ := h
    have z2 : 2 ≤ sizeLine := by decide
    have sc := sc__law_is_step
    refine ⟨_, (qss_litQ rfl (qss_cons (qs_ifT (QW.pt (qw_or (qt_not (qt_valC (qe_callB call_isi rfl (B.of rfl) boot_isinstance (qa_nm (qe_of (pv 0)) (qa_nm (qe_of (pe_bltn (v := .ty "tuple") rfl (B.of rfl) boot_tuple rfl)) qa_nil))))) (qw_or (qt_cmpR op_ne (qe_callB call_len_seq rfl (B.of rfl) boot_len (qa_nm (qe_of (pv 0)) qa_nil)) (qe_of pe_int) (nomark _)) (qw_or (qt_not (qt_valC (qe_callB call_isi rfl (B.of rfl) boot_isinstance (qa_sb (qe_ix ix_tup (qe_of (pv 0)) (qe_of pe_int) (fun _ _ => rfl)) (qa_nm (qe_of (pe_bltn (v := .ty "str") rfl (B.of rfl) boot_str rfl)) qa_nil))))) (qw_or1 (qt_cmpR op_notIn_seq (qe_ix ix_tup (qe_of (pv 0)) (qe_of pe_int) (fun _ _ => rfl)) (qe_tup (qa_cs (qe_of pe_str) (qa_cs (qe_of pe_str) qa_nil))) (by with_unfolding_all rfl)))))))
        (qss_one (qs_retE (qe_of pe_bl)))
        qss_nil)
      (qss_one (qs_retE (qe_of (pe_and (pe_callB call_isi rfl (B.of rfl) boot_isinstance (pa_cons (pe_ix ix_tup (pv 0) pe_int (fun _ _ => rfl)) (pa_cons (pe_bltn (v := .ty "int") rfl (B.of rfl) boot_int rfl) pa_nil))) (pe_and (pe_not (pe_callB call_isi rfl (B.of rfl) boot_isinstance (pa_cons (pe_ix ix_tup (pv 0) pe_int (fun _ _ => rfl)) (pa_cons (pe_bltn (v := .ty "bool") rfl (B.of rfl) boot_bool rfl) pa_nil)))) (pe_one (pe_cmpR op_in_seq (pe_ix ix_tup (pv 0) pe_int (fun _ _ => rfl)) (pe_tup (pa_cons pe_int (pa_cons pe_int pa_nil))) (by with_unfolding_all rfl)))))))))), ?_⟩
    refine ⟨_, rfl, _, _, _, _, rfl, AtX.ty (.inl hv), kit_tup d, _, rfl, ?_⟩
    cases hs : isTup d with
    | false =>
      have e : stepB d = false := by cases d <;> first | rfl | cases hs
      rw [e] at q
      exact iteT (iteT (q H (Same.refl H)))
    | true =>
      obtain ⟨ds, rfl⟩ : ∃ ds, d = .tuple ds := by cases d <;> first | exact ⟨_, rfl⟩ | cases hs
      obtain ⟨a, vs, rfl, ha, hw⟩ := hv.tupEq
      refine iteF ⟨_, rfl, a, _, rfl, .inr (SqT.of ha), rfl, _, rfl, ?_⟩
      cases hp : pairD (.tuple ds) with
      | false =>
        rw [(stepB_pair hp).1] at q
        have hl : vs.length ≠ 2 := fun z => by
          rw [hw.length] at z
          match ds, z with
          | [_, _], _ => cases hp
        refine iteB (by simp; omega) (iteT (q H (Same.refl H)))
      | true =>
        obtain ⟨a', x, y, dx, dy, e1, e2, ha', h1, h2⟩ := pair_at (.inl hv) hp
        cases e1
        cases e2
        rw [ha] at ha'
        cases ha'
        refine iteN (by simp) ⟨_, rfl, a, _, _, _, rfl, rfl, SqT.of ha, atI_lit 0 rfl, _, _, _, _, rfl, AtX.ty (.inl h1), kit_str dx, _, rfl, ?_⟩
        have ee : stepB (.tuple [dx, dy]) = (oneD [.str "r", .str "w"] dx && bitD dy) := rfl
        rw [ee] at q
        cases hs1 : isStr dx with
        | false =>
          have e : oneD [.str "r", .str "w"] dx = false := by cases dx <;> first | rfl | cases hs1
          rw [e] at q
          exact iteT (iteT (q H (Same.refl H)))
        | true =>
          obtain ⟨o, rfl⟩ : ∃ o, dx = .str o := by cases dx <;> first | exact ⟨_, rfl⟩ | cases hs1
          have := h1.strEq
          subst this
          refine iteF ⟨_, rfl, a, _, _, _, rfl, rfl, SqT.of ha, atI_lit 0 rfl, z2, fun t ht => ⟨t, _, rfl, .inr (SqT.of upd_same), rfl, by decide, _, rfl, ?_⟩⟩
          have s1 : Same H (upd H t (.tup [.str "r", .str "w"])) := (Same.refl H).upd ht
          have eo : oneD [.str "r", .str "w"] (.str o) = inV (.str o) [.str "r", .str "w"] := rfl
          rw [eo] at q
          cases hi : inV (.str o) [.str "r", .str "w"] with
          | false =>
            rw [hi] at q
            exact iteB rfl (q _ s1)
          | true =>
            rw [hi] at q
            refine iteN rfl ?_
            have h2' := h2.same s1
            have ha1 := s1 _ _ ha
            refine ⟨_, rfl, a, _, _, _, rfl, rfl, SqT.of ha1, atI_lit 1 rfl, _, _, _, _, rfl, AtX.ty (.inl h2'), kit_int dy, _, rfl, ?_⟩
            cases hn : isInt dy with
            | false =>
              have e : bitD dy = false := by cases dy <;> first | rfl | cases hn
              rw [e] at q
              exact iteF (q _ s1)
            | true =>
              refine iteT ⟨_, rfl, a, _, _, _, rfl, rfl, SqT.of ha1, atI_lit 1 rfl, _, _, _, _, rfl, AtX.ty (.inl h2'), kit_bl dy, _, rfl, ?_⟩
              cases hb : isBl dy with
              | true =>
                have e : bitD dy = false := by cases dy <;> first | rfl | cases hb
                rw [e] at q
                exact ⟨_, rfl, iteF (q _ s1)⟩
              | false =>
                obtain ⟨i, rfl⟩ : ∃ i, dy = .int i := by cases dy <;> first | exact ⟨_, rfl⟩ | (cases hn; done) | (cases hb; done)
                have := h2.intEq
                subst this
                refine ⟨_, rfl, iteT ?_⟩
                refine ⟨_, rfl, a, _, _, _, rfl, rfl, SqT.of ha1, atI_lit 1 rfl, z2, fun t2 ht2 => ⟨t2, _, rfl, .inr (SqT.of upd_same), rfl, by decide, ?_⟩⟩
                show Q (.bl (inV (.int i) [.int 0, .int 1])) _
                rw [bit_in]
                exact q _ (s1.upd ht2)
def sg_due : Sp := fun vs H Q _ => ∃ v d, vs = [v] ∧ AtX H v d ∧ ∀ r H', Same H H' → At H' r (tvD (testBad d)) → Q r H'
abbrev s__law_due : Stmt := top 52
theorem sc__law_due : FnScope ["_law_thing", "_law_number", "_law_element", "_law_bad"] ["_law_thing"] (defScope s__law_due) := ⟨rfl, rfl, rfl, by decide +kernel, rfl, by decide +kernel, by decide +kernel⟩
/- slots: 0 _law_thing, 1 _law_number, 2 _law_element, 3 _law_bad -/
theorem og_due (B : Bl mg) (h__law_is_step : Has P w K mg base 1 "_law_is_step" ["_law_thing"] sg_lstep) (F : FnAt K mg "_law_due" s__law_due ["_law_thing"]) : Has P w K mg base 2 "_law_due" ["_law_thing"] sg_due := by
  refine Has.ofQ F sc__law_due (fun vs H Q E h => ?_) (fun f cdv A outer s H vs Q E hr h => ?_)
  · obtain ⟨v, d, rfl, _⟩ := h
    rfl
  · obtain ⟨v, d, rfl, hv, q⟩ := h
    have z2 : 2 ≤ sizeLine := by decide
    have sc := sc__law_due
    refine ⟨_, (qss_litQ rfl (qss_cons (qs_ifT (QW.pt (qw_or (qt_not (qt_valC (qe_callB call_isi rfl (B.of rfl) boot_isinstance (qa_nm (qe_of (pv 0)) (qa_nm (qe_of (pe_bltn (v := .ty "list") rfl (B.of rfl) boot_list rfl)) qa_nil))))) (qw_or1 (qt_of (pt_notRange rfl (B.of rfl) (pe_callB call_len_seq rfl (B.of rfl) boot_len (pa_cons (pv 0) pa_nil)) (pa_cons pe_int (pa_cons pe_int pa_nil)))))))
        (qss_one (qs_retE (qe_tup (qa_cs (qe_of pe_non) (qa_cs (qe_of pe_non) qa_nil)))))
        qss_nil)
      (qss_cons (qs_for PassesOwn.never rfl (qi_of (pi_enum rfl (B.of rfl) (pa_cons (pv 0) pa_nil))) (pg_tup rfl (pgs_cons (pg_name (i := 1) sc.nd rfl (Or.inl rfl)) (pgs_cons (pg_name (i := 2) sc.nd rfl (Or.inl rfl)) pgs_nil)))
        (qss_cons (qs_ifT (QW.pt (qw_or (qt_not (qt_valC (qe_callB call_isi rfl (B.of rfl) boot_isinstance (qa_nm (qe_of (pv 2)) (qa_nm (qe_of (pe_bltn (v := .ty "tuple") rfl (B.of rfl) boot_tuple rfl)) qa_nil))))) (qw_or (qt_cmpR op_ne (qe_callB call_len_seq rfl (B.of rfl) boot_len (qa_nm (qe_of (pv 2)) qa_nil)) (qe_of pe_int) (nomark _)) (qw_or1 (qt_not (qt_valC (qe_callB call_isi rfl (B.of rfl) boot_isinstance (qa_sb (qe_ix ix_tup (qe_of (pv 2)) (qe_of pe_int) (fun _ _ => rfl)) (qa_nm (qe_of (pe_bltn (v := .ty "str") rfl (B.of rfl) boot_str rfl)) qa_nil)))))))))
          (qss_one (qs_retE (qe_tup (qa_nm (qe_of (pv 1)) (qa_cs (qe_of pe_non) qa_nil)))))
          qss_nil)
        (qss_cons (qs_ifT (QW.pt (qw_or (qt_cmpR op_notIn_seq (qe_ix ix_tup (qe_of (pv 2)) (qe_of pe_int) (fun _ _ => rfl)) (qe_tup (qa_cs (qe_of pe_str) (qa_cs (qe_of pe_str) (qa_cs (qe_of pe_str) qa_nil)))) (by with_unfolding_all rfl)) (qw_or1 (qt_not (qt_valC (qe_callB call_isi rfl (B.of rfl) boot_isinstance (qa_sb (qe_ix ix_tup (qe_of (pv 2)) (qe_of pe_int) (fun _ _ => rfl)) (qa_nm (qe_of (pe_bltn (v := .ty "list") rfl (B.of rfl) boot_list rfl)) qa_nil))))))))
          (qss_one (qs_retE (qe_tup (qa_nm (qe_of (pv 1)) (qa_cs (qe_of pe_non) qa_nil)))))
          qss_nil)
        (qss_cons (qs_ifT (qt_of (pt_notRange rfl (B.of rfl) (pe_callB call_len_seq rfl (B.of rfl) boot_len (pa_cons (pe_ix ix_tup (pv 2) pe_int (fun _ _ => rfl)) pa_nil)) (pa_cons pe_int (pa_cons pe_int pa_nil))))
          (qss_one (qs_retE (qe_tup (qa_nm (qe_of (pv 1)) (qa_cs (qe_of pe_non) qa_nil)))))
          qss_nil)
        (qss_cons (qs_of (ps_setC (i := 3) rfl sc.nd rfl (Or.inl rfl) rfl (compOk_of rfl) (M := ["_law_at", "_law_step"]) (ix := [none, none]) (pi_enum rfl (B.of rfl) (pa_cons (pe_ix ix_tup (pv 2) pe_int (fun _ _ => rfl)) pa_nil)) (fun _ _ _ _ => (pg_tupK (K := K) (n := 2) rfl rfl (pgs_cons (pg_name (i := 0) (show List.Nodup (["_law_at", "_law_step"] : List Str) by decide +kernel) rfl (Or.inl rfl)) (pgs_cons (pg_name (i := 1) (show List.Nodup (["_law_at", "_law_step"] : List Str) by decide +kernel) rfl (Or.inl rfl)) pgs_nil)))) (fun _ _ _ _ => (pts_one (pt_not (pt_val (pe_callH h__law_is_step hr (pa_cons (pv 1) pa_nil)))))) (fun _ _ _ _ => (pv 0))))
        (qss_one (qs_ifT (qt_cmpR (op_neNil hr) (qe_of (pv 3)) (qe_lst qa_nil) (nomark _))
          (qss_one (qs_retE (qe_tup (qa_nm (qe_of (pv 1)) (qa_sb (qe_ix ix_list (qe_of (pv 3)) (qe_of pe_int) (fun _ _ => rfl)) qa_nil)))))
          qss_nil)))))))
      (qss_one (qs_retE (qe_of pe_str)))))), ?_⟩
    refine ⟨_, rfl, _, _, _, _, rfl, hv.ty, kit_lst d, _, rfl, ?_⟩
    cases hs : isLst d with
    | false =>
      have e : testBad d = some (none, none) := by unfold testBad; cases d <;> first | rfl | cases hs
      rw [e] at q
      exact iteT (iteT ⟨z2, fun p hp => q _ _ ((Same.refl H).upd hp) (tv_at (b := (none, none)) upd_same)⟩)
    | true =>
      obtain ⟨ds, rfl⟩ : ∃ ds, d = .list ds := by cases d <;> first | exact ⟨_, rfl⟩ | cases hs
      have hv' : At H v (.list ds) := by
        rcases hv with h | ⟨e, _⟩
        · exact h
        · cases e
      obtain ⟨l, ws, rfl, hl, hw⟩ := hv'.lstEq
      have hwl := hw.length
      refine iteF ⟨_, rfl, l, _, rfl, .inl (SqL.of hl), _, _, _, rfl, rfl, ?_⟩
      by_cases h18 : 0 < ds.length ∧ (ds.length : Int) ≤ 8
      rotate_left
      · have e : testBad (.list ds) = some (none, none) := by unfold testBad; rw [show fillD 8 (.list ds) = false from decide_eq_false h18]; rfl
        rw [e] at q
        refine iteB (by rw [decide_eq_false (by omega)]; rfl) ⟨z2, fun p hp => q _ _ ((Same.refl H).upd hp) (tv_at (b := (none, none)) upd_same)⟩
      refine iteN (by rw [decide_eq_true (by omega)]; rfl) ?_
      have he : testBad (.list ds) = firstBad 0 ds := by unfold testBad; rw [if_pos (show fillD 8 (.list ds) = true from decide_eq_true h18)]; rfl
      rw [he] at q
      refine ⟨_, rfl, l, ws, rfl, SqL.of hl, for_enum (xs := ws) (fun i σ H2 => ∃ p q r, σ = [some (.ref l), p, q, r] ∧ Same H H2 ∧ ∀ j, j < i → ∀ x, ds[j]? = some x → elBad x = none) ⟨none, none, none, rfl, Same.refl _, fun j hj => absurd hj (by omega)⟩
        (fun i σ H2 _ ⟨_, _, _, _, s2, _⟩ => SqL.of (s2 _ _ hl)) ?_ ?_⟩
      · rintro i x p σ H2 hx ⟨_, _, _, rfl, s2, hok⟩ hp
        obtain ⟨dd, hd, hat0⟩ := hw.get hx
        have s3 : Same H (upd H2 p (.tup [.int i, x])) := s2.upd hp
        refine ⟨p, _, rfl, SqT.of upd_same, rfl, _, _, rfl, _, _, rfl, rfl, ?_⟩
        revert s3
        generalize upd H2 p (.tup [.int i, x]) = H3
        intro s3
        have hat := hat0.same s3
        have ret : ∀ s, elBad dd = some s → ∀ H4, Same H3 H4 → ∀ t, H4 t = none → Q (.ref t) (upd H4 t (.tup [.int i, optN s])) := fun s hs H4 s4 t ht => by
          have e := firstBad_at ds 0 i dd s hd hok hs
          rw [Nat.zero_add] at e
          rw [e] at q
          exact q _ _ ((s3.trans s4).upd ht) (tv_at (b := (some i, s)) upd_same)
        refine ⟨_, rfl, _, _, _, _, rfl, AtX.ty (.inl hat), kit_tup dd, _, rfl, ?_⟩
        cases ht : isTup dd with
        | false =>
          have e : frameB dd = false := by cases dd <;> first | rfl | cases ht
          exact iteT (iteT ⟨_, rfl, z2, fun t h => ret none (el_bad e) H3 (Same.refl H3) t h⟩)
        | true =>
          obtain ⟨es, rfl⟩ : ∃ es, dd = .tuple es := by cases dd <;> first | exact ⟨_, rfl⟩ | cases ht
          obtain ⟨a, vs, rfl, ha, hwe⟩ := hat.tupEq
          refine iteF ⟨_, rfl, a, _, rfl, .inr (SqT.of ha), rfl, _, rfl, ?_⟩
          cases hpr : pairD (.tuple es) with
          | false =>
            have hl2 : vs.length ≠ 2 := fun z => by
              rw [hwe.length] at z
              match es, z with
              | [_, _], _ => cases hpr
            exact iteB (by simp; omega) (iteT ⟨_, rfl, z2, fun t h => ret none (el_bad (stepB_pair hpr).2) H3 (Same.refl H3) t h⟩)
          | true =>
            obtain ⟨a', x', y', dx, dy, e1, e2, ha', h1, h2⟩ := pair_at (.inl hat) hpr
            cases e1
            cases e2
            rw [ha] at ha'
            cases ha'
            have ee : frameB (.tuple [dx, dy]) = (oneD [.str "up", .str "down", .str "any"] dx && fillD 6 dy) := rfl
            refine iteN (by simp) ⟨_, rfl, a, _, _, _, rfl, rfl, SqT.of ha, atI_lit 0 rfl, _, _, _, _, rfl, AtX.ty (.inl h1), kit_str dx, _, rfl, ?_⟩
            cases hs1 : isStr dx with
            | false =>
              have e : oneD [.str "up", .str "down", .str "any"] dx = false := by cases dx <;> first | rfl | cases hs1
              exact iteB rfl ⟨_, rfl, z2, fun t h => ret none (el_bad (by rw [ee, e]; rfl)) H3 (Same.refl H3) t h⟩
            | true =>
              obtain ⟨o, rfl⟩ : ∃ o, dx = .str o := by cases dx <;> first | exact ⟨_, rfl⟩ | cases hs1
              have := h1.strEq
              subst this
              refine iteN rfl ⟨_, rfl, a, _, _, _, rfl, rfl, SqT.of ha, atI_lit 0 rfl, (by show 3 ≤ sizeLine; decide), fun t ht' => ⟨t, _, rfl, .inr (SqT.of upd_same), rfl, by decide, _, rfl, ?_⟩⟩
              have s4 : Same H3 (upd H3 t (.tup [.str "up", .str "down", .str "any"])) := (Same.refl H3).upd ht'
              revert s4
              generalize upd H3 t (.tup [.str "up", .str "down", .str "any"]) = H4
              intro s4
              have eo : oneD [.str "up", .str "down", .str "any"] (.str o) = inV (.str o) [.str "up", .str "down", .str "any"] := rfl
              cases hi : inV (.str o) [.str "up", .str "down", .str "any"] with
              | false => exact iteB rfl (iteT ⟨_, rfl, z2, fun t h => ret none (el_bad (by rw [ee, eo, hi]; rfl)) H4 s4 t h⟩)
              | true =>
                have ha4 := s4 _ _ ha
                refine iteN rfl ⟨_, rfl, a, _, _, _, rfl, rfl, SqT.of ha4, atI_lit 1 rfl, _, _, _, _, rfl, AtX.ty (.inl (h2.same s4)), kit_lst dy, _, rfl, ?_⟩
                cases hs2 : isLst dy with
                | false =>
                  have e : fillD 6 dy = false := by cases dy <;> first | rfl | cases hs2
                  exact iteB rfl ⟨_, rfl, z2, fun t h => ret none (el_bad (by rw [ee, eo, hi, e]; rfl)) H4 s4 t h⟩
                | true =>
                  obtain ⟨ys, rfl⟩ : ∃ ys, dy = .list ys := by cases dy <;> first | exact ⟨_, rfl⟩ | cases hs2
                  obtain ⟨m, wy, rfl, hm, hwy⟩ := (h2.same s4).lstEq
                  have hwyl := hwy.length
                  refine iteN rfl ⟨_, rfl, a, _, _, _, rfl, rfl, SqT.of ha4, atI_lit 1 rfl, m, _, rfl, .inl (SqL.of hm), _, _, _, rfl, rfl, ?_⟩
                  by_cases h16 : 0 < ys.length ∧ (ys.length : Int) ≤ 6
                  rotate_left
                  · refine iteB (by rw [decide_eq_false (by omega)]; rfl) ⟨_, rfl, z2, fun t h => ret none (el_bad (by rw [ee, eo, hi, show fillD 6 (.list ys) = false from decide_eq_false h16]; rfl)) H4 s4 t h⟩
                  refine iteN (by rw [decide_eq_true (by omega)]; rfl) ?_
                  have hel : elBad (.tuple [.str o, .list ys]) = (badStep ys).map some := by
                    unfold elBad
                    rw [if_pos (show frameB (.tuple [.str o, .list ys]) = true by rw [ee, eo, hi, show fillD 6 (.list ys) = true from decide_eq_true h16]; rfl)]
                    rfl
                  refine ⟨_, rfl, a, _, _, _, rfl, rfl, SqT.of ha4, atI_lit 1 rfl, m, _, rfl, SqL.of hm, fun D hD => comp_by (n := wy.length) (fun j H' => Same H4 H' ∧ ∃ us : List Nat, H' D = some (.lst (us.map fun k : Nat => V.int (k : Int))) ∧ us.length ≤ j ∧ us.head? = badStep (ys.take j)) ⟨(Same.refl H4).upd hD, [], upd_same, Nat.le_refl _, rfl⟩ ?_ ?_⟩
                  · rintro H5 ⟨s5, us, e5, hul, hus⟩
                    refine ⟨⟨_, SqL.of (s5 _ _ hm), Nat.le_refl _⟩, ?_⟩
                    rw [hwyl, List.take_length] at hus
                    refine ⟨_, rfl, Nat.zero_le _, fun D2 hD2 => ?_⟩
                    have s6 : Same H5 (upd H5 D2 (.lst [])) := (Same.refl H5).upd hD2
                    refine ⟨D, D2, _, rfl, rfl, SqL.of (s6 _ _ e5), SqL.of upd_same, _, rfl, ?_⟩
                    cases us with
                    | nil =>
                      have hn : badStep ys = none := hus.symm
                      refine iteN rfl ⟨_, _, _, rfl, (s3.trans s4).trans (s5.trans s6), fun j hj y hy => ?_⟩
                      by_cases e : j = i
                      · subst e; rw [hd] at hy; cases hy; rw [hel, hn]; rfl
                      · exact hok j (by omega) y hy
                    | cons k us =>
                      have hn : badStep ys = some k := hus.symm
                      refine iteB rfl ⟨_, rfl, _, rfl, D, _, _, _, rfl, rfl, SqL.of (s6 _ _ e5), atI_lit 0 rfl, z2, fun t h => ?_⟩
                      exact ret (some k) (by rw [hel, hn]; rfl) _ (s4.trans (s5.trans s6)) t h
                  · rintro j H5 hj ⟨s5, us, e5, hul, hus⟩
                    refine ⟨⟨_, _, SqL.of (s5 _ _ hm), List.getElem?_eq_getElem hj⟩, ?_⟩
                    rintro x6 H6 ⟨pp, yv, hpp, rfl, rfl, hy⟩
                    have hyj := hy _ (SqL.of (s5 _ _ hm))
                    obtain ⟨d6, hd6, hat6⟩ := hwy.get hyj
                    have s6 : Same H5 (upd H5 pp (.tup [.int j, yv])) := (Same.refl H5).upd hpp
                    refine ⟨pp, _, rfl, SqT.of upd_same, rfl, _, _, rfl, _, _, rfl, rfl, ?_⟩
                    refine ⟨KeepS.set (KeepS.set (KeepS.refl _) rfl) rfl, ?_⟩
                    refine ⟨_, rfl, yv, d6, rfl, hat6.same (s5.trans s6), fun H7 s7 => ⟨_, rfl, ?_⟩⟩
                    have et : ys.take (j + 1) = ys.take j ++ [d6] := by rw [List.take_add_one, hd6]; rfl
                    have ljn : (ys.take j).length = j := by rw [List.length_take]; omega
                    cases hb : stepB d6 with
                    | true =>
                      refine iteF ⟨s5.trans (s6.trans s7), us, (s6.trans s7) _ _ e5, by omega, ?_⟩
                      rw [et, hus]
                      unfold badStep
                      rw [List.findIdx?_append]
                      simp [hb]
                    | false =>
                      refine iteT ⟨_, rfl, _, (s6.trans s7) _ _ e5, by rw [List.length_map]; exact sl_lt (by omega), (s5.trans (s6.trans s7)).at hD, us ++ [j], by rw [upd_same, List.map_append]; rfl, by simp; omega, ?_⟩
                      rw [et]
                      unfold badStep at hus ⊢
                      rw [List.findIdx?_append, ← hus]
                      cases us with
                      | nil => simp [hb]; omega
                      | cons k us => simp
      · rintro σ H2 ⟨_, _, _, rfl, s2, hok⟩
        rw [firstBad_none ds 0 fun x hx => by
          obtain ⟨j, hj⟩ := List.getElem?_of_mem hx
          have hjl := (List.getElem?_eq_some_iff.mp hj).1
          exact hok j (by omega) x hj] at q
        exact q _ H2 s2 (.str _)
end
end Mm
set_option Elab.async false
set_option linter.all false
set_option maxRecDepth 100000
set_option maxHeartbeats 4000000
namespace Mm
open PySem L2 PyProof.Rows Mx
structure KX (K : PySem.W.Frag) (c : Nat → Addr) (cM : Addr) (j : Nat) : Prop where
  lt : j < 13
  ty : XTy K (c j)
  one : ∀ i, i < 13 → PySem.W.kitOne K (.ref (c j)) (.ref (c i)) = some (decide (i = j))
  ve : PySem.W.kitOne K (.ref (c j)) (.type "ValueError") = some true
  em : PySem.W.exmOne K (.ref (c j)) (.ref cM) = some true
section
variable {P : Program} {w : World} {K : PySem.W.Frag} {mg : Str → Option Value} {base : Heap}
def FnT (P : Program) (w : World) (K : PySem.W.Frag) (mg : Str → Option Value) (base : Heap) (C CS : Addr) (way : Nat) (x : Str) : Prop := ∃ f, mg x = some (.ref f) ∧ PySem.W.keepIn K (.ref f) = true ∧ ∀ v d H Q E, AtX H v d →
  (testBad d = none → ∀ r H', Same H H' → (way = 0 → r = .non) → Q r H') → (testBad d = none → way = 5 → ∀ a H', Same H H' → XAt H' a CS [] → E (.ref a) none H') →
  (∀ b, testBad d = some b → ∀ a H', Same H H' → XAt H' a C [("element", optN b.1), ("step", optN b.2)] → E (.ref a) none H') →
  ∃ k fd ps sp, k ≤ 8 ∧ Binds K fd ps [] ∧ FnOk P w K mg base (CX1 P w) k f fd ps sp ∧ sp [v] H Q E
theorem AtX.test {H : Hp} {v : V} {d : PyData} (h : AtX H v d) (hb : testBad d = none) : ∃ T, At H v (testD T) ∧ okT T := by
  obtain ⟨T, rfl, hT⟩ := test_of hb
  refine ⟨T, ?_, hT⟩
  rcases h with h | ⟨e, _⟩
  · exact h
  · cases e
theorem same_f {x : Str} {f f' : Addr} (h : mg x = some (.ref f)) (h' : mg x = some (.ref f')) : f' = f := by
  rw [h] at h'; cases h'; rfl
theorem ft_look {C CS : Addr} (h : HasX P w K mg base 5 "look_at_test" ["thing"] (sg_look C)) : FnT P w K mg base C CS 0 "look_at_test" := by
  obtain ⟨f, fd, h1, h2, h3, h4⟩ := h
  refine ⟨f, h1, h2, fun v d H Q E hv q1 q2 q3 => ⟨5, fd, _, _, by decide, h3, h4, v, d, rfl, hv, fun hb H' s => q1 hb .non H' s fun _ => rfl, q3⟩⟩
theorem ft_good {C CS : Addr} {way k : Nat} {x : Str} {ps : List Str} {sp : Sp} (hw : 0 < way) (hk : k ≤ 8) (hg : HasX P w K mg base k x ps sp) (hb : HasX P w K mg base k x ps (sg_bad C))
    (hs : ∀ v T H (Q : VK) (E : XK), At H v (testD T) → okT T → (∀ r H', Same H H' → Q r H') → (way = 5 → ∀ a H', Same H H' → XAt H' a CS [] → E (.ref a) none H') → sp [v] H Q E) : FnT P w K mg base C CS way x := by
  obtain ⟨f, fd, h1, h2, h3, h4⟩ := hg
  obtain ⟨f', fd', g1, g2, g3, g4⟩ := hb
  have := same_f h1 g1
  subst this
  refine ⟨f', h1, h2, fun v d H Q E hv q1 q2 q3 => ?_⟩
  cases hb : testBad d with
  | none =>
    obtain ⟨T, hT, ok⟩ := AtX.test hv hb
    exact ⟨k, fd, _, _, hk, h3, h4, hs v T H Q E hT ok (fun r H' s => q1 hb r H' s fun z => by omega) (q2 hb)⟩
  | some b => exact ⟨k, fd', _, _, hk, g3, g4, v, d, b, rfl, hv, hb, q3 b hb⟩
def sg_told : Sp := fun vs H Q _ => ∃ way : Nat, ∃ v d, vs = [.int way, v] ∧ way < 6 ∧ AtX H v d ∧ ∀ r H', Same H H' → At H' r (tvD (testBad d)) → Q r H'
abbrev s__law_told : Stmt := top 53
theorem sc__law_told : FnScope ["_law_way", "_law_thing", "_law_caught", "_law_found", "_law_e", "_law_fields"] ["_law_way", "_law_thing"] (defScope s__law_told) := ⟨rfl, rfl, rfl, by decide +kernel, rfl, by decide +kernel, by decide +kernel⟩
/- slots: 0 _law_way, 1 _law_thing, 2 _law_caught, 3 _law_found, 4 _law_e, 5 _law_fields -/
theorem og_told {c : Nat → Addr} {cM : Addr} (B : Bl mg) (gm : mg "MarchError" = some (.ref cM)) (kx : KX K c cM 0) (ks : KX K c cM 7) (xo : XOk K (c 0)) (nf1 : NoF K (c 0) "element") (nf2 : NoF K (c 0) "step") (h__law_kind : Has P w K mg base 1 "_law_kind" ["_law_e"] (sp_kind K c))
    (t0 : FnT P w K mg base (c 0) (c 7) 0 "look_at_test") (t1 : FnT P w K mg base (c 0) (c 7) 1 "is_sure") (t2 : FnT P w K mg base (c 0) (c 7) 2 "written") (t3 : FnT P w K mg base (c 0) (c 7) 3 "length_of") (t4 : FnT P w K mg base (c 0) (c 7) 4 "leaves_all") (t5 : FnT P w K mg base (c 0) (c 7) 5 "leaving_of")
    (F : FnAt K mg "_law_told" s__law_told ["_law_way", "_law_thing"]) : Has P w K mg base 9 "_law_told" ["_law_way", "_law_thing"] sg_told := by
  obtain ⟨f0, g0, k0, t0⟩ := t0
  obtain ⟨f1, g1, k1, t1⟩ := t1
  obtain ⟨f2, g2, k2, t2⟩ := t2
  obtain ⟨f3, g3, k3, t3⟩ := t3
  obtain ⟨f4, g4, k4, t4⟩ := t4
  obtain ⟨f5, g5, k5, t5⟩ := t5
  refine Has.ofQ F sc__law_told (fun vs H Q E h => ?_) (fun f cdv A outer s H vs Q E hr h => ?_)
  · obtain ⟨way, v, d, rfl, _⟩ := h
    rfl
  · obtain ⟨way, v, d, rfl, hw6, hv, q⟩ := h
    have z2 : 2 ≤ sizeLine := by decide
    have sc := sc__law_told
    refine ⟨_, (qss_litQ rfl (qss_cons (qs_setE (i := 2) sc.nd rfl (Or.inl rfl) (qe_of pe_non))
      (qss_cons (qs_setE (i := 3) sc.nd rfl (Or.inl rfl) (qe_of pe_non))
      (qss_cons (qs_of (ps_try (iy := 2) (jn := 4) (fun _ _ z => z) rfl rfl (psx_set (i := 3) sc.nd rfl (Or.inl rfl) (pex_callE (fun _ _ z => z) hr (pe_ix ix_list (pe_lst (pa_nm (pe_glob (v := .ref f0) rfl g0 rfl) (pa_nm (pe_glob (v := .ref f1) rfl g1 rfl) (pa_nm (pe_glob (v := .ref f2) rfl g2 rfl) (pa_nm (pe_glob (v := .ref f3) rfl g3 rfl) (pa_nm (pe_glob (v := .ref f4) rfl g4 rfl) (pa_nm (pe_glob (v := .ref f5) rfl g5 rfl) pa_nil))))))) (pv 0) (fun _ _ => rfl)) (pa_cons (pv 1) pa_nil))) sc.nd rfl rfl rfl (Or.inl rfl) (by decide) rfl gm))
      (qss_cons (qs_ifT (QW.pt (qw_or (qt_of (pt_cmp (pc_isN (pv 2)))) (qw_or1 (QW.pt (qw_and (qt_cmpR op_eq (qe_of (pv 0)) (qe_of pe_int) (nomark _)) (qw_and1 (qt_cmpR op_eq (qe_callH h__law_kind hr (qa_nm (qe_of (pv 2)) qa_nil)) (qe_of pe_str) (nomark _))))))))
        (qss_one (qs_retE (qe_ifExp (QW.pt (qw_or (qt_cmpR op_gt (qe_of (pv 0)) (qe_of pe_int) (nomark _)) (qw_or1 (qt_of (pt_cmp (pc_isN (pv 3))))))) (qe_of pe_str) (qe_of pe_str))))
        qss_nil)
      (qss_cons (qs_ifT (qt_cmpR op_ne (qe_callH h__law_kind hr (qa_nm (qe_of (pv 2)) qa_nil)) (qe_of pe_str) (nomark _))
        (qss_one (qs_retE (qe_of pe_str)))
        qss_nil)
      (qss_cons (qs_setE (i := 5) sc.nd rfl (Or.inl rfl) (qe_lst (qa_at (qe_of (pe_xfld (pv 2))) (qa_at (qe_of (pe_xfld (pv 2))) qa_nil))))
      (qss_one (qs_retE (qe_ifExp (qt_cmpR (op_neNil hr) (qe_of (pe_comp rfl (compOk_of rfl) (M := ["_law_one"]) (ix := [none]) (pi_list (pv 5)) (fun _ _ _ _ => (pg_name (i := 0) (show List.Nodup (["_law_one"] : List Str) by decide +kernel) rfl (Or.inl rfl))) (fun _ _ _ _ => (pts_one (pt_val (pe_callB (call_isiK (K := K) rfl) rfl (B.of rfl) boot_isinstance (pa_cons (pv 0) (pa_cons (pe_bltn (v := .ty "bool") rfl (B.of rfl) boot_bool rfl) pa_nil)))))) (fun _ _ _ _ => (pv 0)))) (qe_lst qa_nil) (nomark _)) (qe_of pe_str) (qe_callTy call_tuple_of rfl (B.of rfl) boot_tuple (qa_nm (qe_of (pv 5)) qa_nil)))))))))))), ?_⟩
    obtain ⟨fw, hfw, kw, tw⟩ : ∃ fw, atI [V.ref f0, .ref f1, .ref f2, .ref f3, .ref f4, .ref f5] (way : Int) = some (.ref fw) ∧ PySem.W.keepIn K (.ref fw) = true ∧ ∀ v d H Q E, AtX H v d →
        (testBad d = none → ∀ r H', Same H H' → (way = 0 → r = .non) → Q r H') → (testBad d = none → way = 5 → ∀ a H', Same H H' → XAt H' a (c 7) [] → E (.ref a) none H') →
        (∀ b, testBad d = some b → ∀ a H', Same H H' → XAt H' a (c 0) [("element", optN b.1), ("step", optN b.2)] → E (.ref a) none H') →
        ∃ k fd ps sp, k ≤ 8 ∧ Binds K fd ps [] ∧ FnOk P w K mg base (CX1 P w) k fw fd ps sp ∧ sp [v] H Q E := by
      match way, hw6 with
      | 0, _ => exact ⟨f0, rfl, k0, t0⟩
      | 1, _ => exact ⟨f1, rfl, k1, t1⟩
      | 2, _ => exact ⟨f2, rfl, k2, t2⟩
      | 3, _ => exact ⟨f3, rfl, k3, t3⟩
      | 4, _ => exact ⟨f4, rfl, k4, t4⟩
      | 5, _ => exact ⟨f5, rfl, k5, t5⟩
    refine ⟨(by show 6 ≤ sizeLine; decide), fun D hD => ?_⟩
    have s1 : Same H (upd H D (.lst [.ref f0, .ref f1, .ref f2, .ref f3, .ref f4, .ref f5])) := (Same.refl H).upd hD
    have e1 : upd H D (.lst [.ref f0, .ref f1, .ref f2, .ref f3, .ref f4, .ref f5]) D = some (.lst [.ref f0, .ref f1, .ref f2, .ref f3, .ref f4, .ref f5]) := upd_same
    revert s1 e1
    generalize upd H D (.lst [.ref f0, .ref f1, .ref f2, .ref f3, .ref f4, .ref f5]) = H1
    intro s1 e1
    refine ⟨_, rfl, D, _, _, _, rfl, rfl, SqL.of e1, hfw, fw, rfl, kw, _, rfl, ?_⟩
    refine tw v d H1 _ _ (hv.same s1) (fun hb r H2 s2 h0 => ?_) (fun hb h5 a H2 s2 xa => ?_) (fun b hb a H2 s2 xa => ?_)
    · rw [hb] at q
      have qq : Q (.str "test") H2 := q _ H2 (s1.trans s2) (.str _)
      refine ⟨_, rfl, _, rfl, iteB (decide_eq_true rfl) (iteT ?_)⟩
      refine ⟨_, rfl, _, _, rfl, rfl, _, rfl, ?_⟩
      by_cases hw0 : way = 0
      · refine iteDN (by omega) ⟨_, rfl, _, rfl, ?_⟩
        rw [h0 hw0]
        exact iteB (decide_eq_true rfl) qq
      · exact iteD (by omega) (iteT qq)
    · rw [hb] at q
      refine ⟨a, rfl, a, c 7, _, rfl, xa, ks.em, ?_⟩
      refine ⟨_, rfl, _, rfl, iteN (decide_eq_false (fun z => by cases z)) ?_⟩
      refine ⟨_, rfl, rfl, _, rfl, ?_⟩
      subst h5
      refine iteB (by decide) ?_
      refine ⟨_, rfl, a, c 7, _, 7, rfl, xa, ks.ty, ks.lt, ks.one, ks.ve, fun H3 s3 => ?_⟩
      have qq : Q (.str "test") H3 := q _ H3 ((s1.trans s2).trans s3) (.str _)
      refine ⟨rfl, _, rfl, iteB (by decide +kernel) ?_⟩
      refine ⟨_, rfl, _, _, rfl, rfl, _, rfl, ?_⟩
      exact iteD (by omega) (iteT qq)
    · rw [hb] at q
      refine ⟨a, rfl, a, c 0, _, rfl, xa, kx.em, ?_⟩
      refine ⟨_, rfl, _, rfl, iteN (decide_eq_false (fun z => by cases z)) ?_⟩
      refine ⟨_, rfl, rfl, _, rfl, ?_⟩
      by_cases h5 : way = 5
      · subst h5
        refine iteB (by decide) ?_
        refine ⟨_, rfl, a, c 0, _, 0, rfl, xa, kx.ty, kx.lt, kx.one, kx.ve, fun H3 s3 => ?_⟩
        refine ⟨rfl, _, rfl, iteN (by decide +kernel) ?_⟩
        refine ⟨_, rfl, a, c 0, _, 0, rfl, XAt.same s3 xa, kx.ty, kx.lt, kx.one, kx.ve, fun H4 s4 => ?_⟩
        refine ⟨rfl, _, rfl, iteN (by decide +kernel) ?_⟩
        have xa4 := XAt.same (s3.trans s4) xa
        refine ⟨_, rfl, a, c 0, _, _, rfl, xa4, xo, nf1, rfl, _, rfl, a, c 0, _, _, rfl, xa4, xo, nf2, rfl, z2, fun D4 hD4 => ?_⟩
        have s5 : Same H4 (upd H4 D4 (.lst [optN b.1, optN b.2])) := (Same.refl H4).upd hD4
        have e5 : upd H4 D4 (.lst [optN b.1, optN b.2]) D4 = some (.lst [optN b.1, optN b.2]) := upd_same
        revert s5 e5
        generalize upd H4 D4 (.lst [optN b.1, optN b.2]) = H5
        intro s5 e5
        have s05 := (s1.trans s2).trans (s3.trans (s4.trans s5))
        refine ⟨_, rfl, D4, rfl, ⟨_, SqL.of e5⟩, fun D5 hD5 => comp_by (n := 2) (fun i H' => Same H5 H' ∧ H' D5 = some (.lst [])) ⟨(Same.refl H5).upd hD5, upd_same⟩ ?_ ?_⟩
        · rintro H6 ⟨s6, e6⟩
          refine ⟨⟨_, SqL.of (s6 _ _ e5), Nat.le_refl _⟩, Nat.zero_le _, fun D7 hD7 => ?_⟩
          have s7 : Same H6 (upd H6 D7 (.lst [])) := (Same.refl H6).upd hD7
          refine ⟨D5, D7, _, rfl, rfl, SqL.of (s7 _ _ e6), SqL.of upd_same, _, rfl, iteN rfl ?_⟩
          exact ⟨_, rfl, D4, _, rfl, .inl ⟨SqL.of (s7 _ _ (s6 _ _ e5)), fun l hl => q _ _ (s05.trans ((s6.trans s7).upd hl)) (tv_at upd_same)⟩⟩
        · rintro i H6 hi ⟨s6, e6⟩
          refine ⟨⟨_, _, SqL.of (s6 _ _ e5), List.getElem?_eq_getElem hi⟩, ?_⟩
          rintro x H7 ⟨rfl, hx⟩
          have hxi := hx _ (SqL.of (s6 _ _ e5))
          have ho : ∃ o, x = optN o := by
            match i, hxi with
            | 0, h => cases h; exact ⟨_, rfl⟩
            | 1, h => cases h; exact ⟨_, rfl⟩
            | i + 2, h => simp at h
          obtain ⟨o, rfl⟩ := ho
          refine ⟨KeepS.set (KeepS.refl _) rfl, ?_⟩
          refine ⟨_, rfl, _, _, _, false, rfl, AtX.ty (.inl (optD_at _ o)), by cases o <;> rfl, _, rfl, iteF ⟨s6, e6⟩⟩
      · refine iteN (decide_eq_false (fun z => h5 (by have := V.int.inj z; omega))) (iteF ?_)
        obtain ⟨H3, s3, eH⟩ : ∃ H3, Same H2 H3 ∧ H3 = H2 := ⟨H2, Same.refl H2, rfl⟩
        rw [← eH]
        refine ⟨_, rfl, a, c 0, _, 0, rfl, XAt.same s3 xa, kx.ty, kx.lt, kx.one, kx.ve, fun H4 s4 => ?_⟩
        refine ⟨rfl, _, rfl, iteN (by decide +kernel) ?_⟩
        have xa4 := XAt.same (s3.trans s4) xa
        refine ⟨_, rfl, a, c 0, _, _, rfl, xa4, xo, nf1, rfl, _, rfl, a, c 0, _, _, rfl, xa4, xo, nf2, rfl, z2, fun D4 hD4 => ?_⟩
        have s5 : Same H4 (upd H4 D4 (.lst [optN b.1, optN b.2])) := (Same.refl H4).upd hD4
        have e5 : upd H4 D4 (.lst [optN b.1, optN b.2]) D4 = some (.lst [optN b.1, optN b.2]) := upd_same
        revert s5 e5
        generalize upd H4 D4 (.lst [optN b.1, optN b.2]) = H5
        intro s5 e5
        have s05 := (s1.trans s2).trans (s3.trans (s4.trans s5))
        refine ⟨_, rfl, D4, rfl, ⟨_, SqL.of e5⟩, fun D5 hD5 => comp_by (n := 2) (fun i H' => Same H5 H' ∧ H' D5 = some (.lst [])) ⟨(Same.refl H5).upd hD5, upd_same⟩ ?_ ?_⟩
        · rintro H6 ⟨s6, e6⟩
          refine ⟨⟨_, SqL.of (s6 _ _ e5), Nat.le_refl _⟩, Nat.zero_le _, fun D7 hD7 => ?_⟩
          have s7 : Same H6 (upd H6 D7 (.lst [])) := (Same.refl H6).upd hD7
          refine ⟨D5, D7, _, rfl, rfl, SqL.of (s7 _ _ e6), SqL.of upd_same, _, rfl, iteN rfl ?_⟩
          exact ⟨_, rfl, D4, _, rfl, .inl ⟨SqL.of (s7 _ _ (s6 _ _ e5)), fun l hl => q _ _ (s05.trans ((s6.trans s7).upd hl)) (tv_at upd_same)⟩⟩
        · rintro i H6 hi ⟨s6, e6⟩
          refine ⟨⟨_, _, SqL.of (s6 _ _ e5), List.getElem?_eq_getElem hi⟩, ?_⟩
          rintro x H7 ⟨rfl, hx⟩
          have hxi := hx _ (SqL.of (s6 _ _ e5))
          have ho : ∃ o, x = optN o := by
            match i, hxi with
            | 0, h => cases h; exact ⟨_, rfl⟩
            | 1, h => cases h; exact ⟨_, rfl⟩
            | i + 2, h => simp at h
          obtain ⟨o, rfl⟩ := ho
          refine ⟨KeepS.set (KeepS.refl _) rfl, ?_⟩
          refine ⟨_, rfl, _, _, _, false, rfl, AtX.ty (.inl (optD_at _ o)), by cases o <;> rfl, _, rfl, iteF ⟨s6, e6⟩⟩
end
end Mm
set_option Elab.async false
set_option linter.all false
set_option maxRecDepth 100000
set_option maxHeartbeats 4000000
namespace L2
open PySem PyProof.Rows
def Lay (L : List Addr) (te : TE) (σ : L2.St) (d : PyData) (H : Hp) : Prop := (∀ b ∈ L, H b ≠ none) → ∀ H1, Same H H1 → ∀ Q : VK, (∀ v H', Same H1 H' → At (hideL H' L) v d → Q v H') → te σ H1 Q
def LayA (L : List Addr) (ta : TA) (σ : L2.St) (ds : List PyData) (H : Hp) : Prop := (∀ b ∈ L, H b ≠ none) → ∀ H1, Same H H1 → ∀ Q : List V → Hp → Prop, (∀ vs H', Same H1 H' → AtAll (hideL H' L) vs ds → Q vs H') → ta σ H1 Q
theorem not_hid {L : List Addr} {H H1 : Hp} {p : Addr} (hL : ∀ b ∈ L, H b ≠ none) (s : Same H H1) (hp : H1 p = none) : p ∉ L := fun z => by
  cases e : H p with
  | none => exact hL p z e
  | some o => rw [s _ _ e] at hp; cases hp
section
variable {K : PySem.W.Frag} {σ : L2.St} {H : Hp} {te tf : TE} {ta : TA} {d : PyData} {ds es : List PyData} {L : List Addr}
theorem lay_nil : LayA L tNil σ [] H := fun hL H1 s Q k => k [] H1 (Same.refl H1) .nil
theorem lay_cons (h : Lay L te σ d H) (r : LayA L ta σ ds H) : LayA L (tCons te ta) σ (d :: ds) H := fun hL H1 s Q k =>
  h hL H1 s _ fun v H2 s2 a2 => r hL H2 (s.trans s2) _ fun vs H3 s3 a3 => k (v :: vs) H3 (s2.trans s3) (.cons (a2.same (hideL_mono s3 L)) a3)
theorem new_tup {H0 H2 : Hp} {p : Addr} {vs : List V} (hL : ∀ b ∈ L, H0 b ≠ none) (s : Same H0 H2) (hp : H2 p = none) (a : AtAll (hideL H2 L) vs ds) : At (hideL (upd H2 p (.tup vs)) L) (.ref p) (.tuple ds) :=
  .tup (by rw [hideL_get (not_hid hL s hp)]; exact upd_same) (a.same (hideL_mono ((Same.refl H2).upd hp) L))
theorem new_lst {H0 H2 : Hp} {p : Addr} {vs : List V} (hL : ∀ b ∈ L, H0 b ≠ none) (s : Same H0 H2) (hp : H2 p = none) (a : AtAll (hideL H2 L) vs ds) : At (hideL (upd H2 p (.lst vs)) L) (.ref p) (.list ds) :=
  .lst (by rw [hideL_get (not_hid hL s hp)]; exact upd_same) (a.same (hideL_mono ((Same.refl H2).upd hp) L))
theorem lay_tup (h : LayA L ta σ ds H) (z : ds.length ≤ 1000 := by exact Nat.le_of_ble_eq_true rfl) : Lay L (tTup ta) σ (.tuple ds) H := fun hL H1 s Q k =>
  h hL H1 s _ fun vs H2 s2 a2 => ⟨by rw [a2.length]; exact Nat.le_trans z (by decide), fun p hp => k _ _ (s2.upd hp) (new_tup hL (s.trans s2) hp a2)⟩
theorem lay_lst (h : LayA L ta σ ds H) (z : ds.length ≤ 1000 := by exact Nat.le_of_ble_eq_true rfl) : Lay L (tLst ta) σ (.list ds) H := fun hL H1 s Q k =>
  h hL H1 s _ fun vs H2 s2 a2 => ⟨by rw [a2.length]; exact Nat.le_trans z (by decide), fun p hp => k _ _ (s2.upd hp) (new_lst hL (s.trans s2) hp a2)⟩
theorem lay_non : Lay L (tC .non) σ .none H := fun hL H1 s Q k => k _ H1 (Same.refl H1) .non
theorem lay_bl {b : Bool} : Lay L (tC (.bl b)) σ (.bool b) H := fun hL H1 s Q k => k _ H1 (Same.refl H1) (.bl b)
theorem lay_int {i : Int} : Lay L (tC (.int i)) σ (.int i) H := fun hL H1 s Q k => k _ H1 (Same.refl H1) (.int i)
theorem lay_str {x : Str} : Lay L (tC (.str x)) σ (.str x) H := fun hL H1 s Q k => k _ H1 (Same.refl H1) (.str x)
theorem lay_neg {i : Int} : Lay L (tUn (rU fun i => V.int (-i)) (tC (.int i))) σ (.int (-i)) H := fun hL H1 s Q k => ⟨i, rfl, k _ H1 (Same.refl H1) (.int _)⟩
theorem lay_pow {i j : Int} (h : CPow i j) : Lay L (tOp (rI CPow fun i j => V.int (i ^ j.toNat)) (tC (.int i)) (tC (.int j))) σ (.int (i ^ j.toNat)) H := fun hL H1 s Q k => ⟨i, j, rfl, rfl, h, k _ H1 (Same.refl H1) (.int _)⟩
theorem lay_var {i : Nat} {v : V} (hσ : σ[i]? = some (some v)) (h : At (hideL H L) v d) : Lay L (tVar i) σ d H := fun hL H1 s Q k => ⟨v, hσ, k v H1 (Same.refl H1) (h.same (hideL_mono s L))⟩
theorem lay_cat (h1 : Lay L te σ (.list ds) H) (h2 : Lay L tf σ (.list es) H) (z : ds.length + es.length ≤ 1000) : Lay L (tOp rCat te tf) σ (.list (ds ++ es)) H := fun hL H1 s Q k =>
  h1 hL H1 s _ fun v H2 s2 a2 => h2 hL H2 (s.trans s2) _ fun u H3 s3 a3 => by
    obtain ⟨a, vs, rfl, ha, hw⟩ := (a2.same (hideL_mono s3 L)).lstEq
    obtain ⟨b, us, rfl, hb, hu⟩ := a3.lstEq
    exact ⟨a, b, vs, us, rfl, rfl, hideL_same _ _ _ _ ha, hideL_same _ _ _ _ hb, by rw [hw.length, hu.length]; exact Nat.le_trans z (by decide), fun p hp => k _ _ ((s2.trans s3).upd hp) (new_lst hL ((s.trans s2).trans s3) hp (hw.append hu))⟩
theorem atAll_rep {H : Hp} {vs : List V} {ds : List PyData} (h : AtAll H vs ds) : ∀ n, AtAll H (List.replicate n vs).flatten (List.replicate n ds).flatten
  | 0 => .nil
  | n + 1 => by
    rw [List.replicate_succ, List.replicate_succ, List.flatten_cons, List.flatten_cons]
    exact h.append (atAll_rep h n)
theorem lay_rep {n : Nat} (h1 : Lay L te σ (.list ds) H) (hn : n ≤ 1000) (z : ds.length * n ≤ 1000) : Lay L (tOp rRep te (tC (.int n))) σ (.list (List.replicate n ds).flatten) H := fun hL H1 s Q k =>
  h1 hL H1 s _ fun v H2 s2 a2 => by
    obtain ⟨a, vs, rfl, ha, hw⟩ := a2.lstEq
    refine ⟨a, n, vs, rfl, rfl, hideL_same _ _ _ _ ha, by omega, by omega, by rw [hw.length, Int.toNat_natCast]; exact Nat.le_trans z (by decide), fun p hp => k _ _ (s2.upd hp) ?_⟩
    rw [Int.toNat_natCast]
    exact new_lst hL (s.trans s2) hp (atAll_rep hw n)
def LayN (t : TE) (σ : L2.St) (n : Nat) : Prop := ∀ H1 (Q : VK), Q (.int n) H1 → t σ H1 Q
theorem lay_n {n : Nat} : LayN (tC (.int n)) σ n := fun H1 Q k => k
theorem lay_nv {i n : Nat} (h : σ[i]? = some (some (.int n))) : LayN (tVar i) σ n := fun H1 Q k => ⟨_, h, k⟩
theorem lay_ns {i n : Nat} (h : σ[i]? = some (some (.int n))) : LayN (tOp (rI0 fun i j => V.int (i + j)) (tVar i) (tC (.int 1))) σ (n + 1) := fun H1 Q k => ⟨_, h, _, _, rfl, rfl, k⟩
theorem lay_take {t : TE} {n : Nat} (h1 : Lay L te σ (.list ds) H) (hn : LayN t σ n) : Lay L (tSl (rSlL K) te tNoPart (tPart t)) σ (.list (ds.take n)) H := fun hL H1 s Q k =>
  h1 hL H1 s _ fun v H2 s2 a2 => hn H2 _ ⟨n, rfl, by
    obtain ⟨a, vs, rfl, ha, hw⟩ := a2.lstEq
    refine ⟨a, vs, rfl, SqL.of (hideL_same _ _ _ _ ha), fun p hp => k _ _ (s2.upd hp) ?_⟩
    rw [cut_take]
    exact new_lst hL (s.trans s2) hp (hw.take n)⟩
theorem lay_drop {t : TE} {n : Nat} (h1 : Lay L te σ (.list ds) H) (hn : LayN t σ n) : Lay L (tSl (rSlL K) te (tPart t) tNoPart) σ (.list (ds.drop n)) H := fun hL H1 s Q k =>
  h1 hL H1 s _ fun v H2 s2 a2 => hn H2 _ ⟨n, rfl, by
    obtain ⟨a, vs, rfl, ha, hw⟩ := a2.lstEq
    refine ⟨a, vs, rfl, SqL.of (hideL_same _ _ _ _ ha), fun p hp => k _ _ (s2.upd hp) ?_⟩
    rw [cut_drop]
    exact new_lst hL (s.trans s2) hp (hw.drop n)⟩
def rTupOf (K : PySem.W.Frag) : List V → Hp → VK → Prop := fun xs H Q => ∃ p ys, xs = [.ref p] ∧ ((SqL K H p ys ∧ ∀ l, H l = none → Q (.ref l) (upd H l (.tup ys))) ∨ (SqT K H p ys ∧ Q (.ref p) H))
theorem lay_tupOf (h1 : Lay L te σ (.list ds) H) : Lay L (tCB (rTupOf K) (tCons te tNil)) σ (.tuple ds) H := fun hL H1 s Q k =>
  h1 hL H1 s _ fun v H2 s2 a2 => by
    obtain ⟨a, vs, rfl, ha, hw⟩ := a2.lstEq
    exact ⟨a, vs, rfl, .inl ⟨SqL.of (hideL_same _ _ _ _ ha), fun p hp => k _ _ (s2.upd hp) (new_tup hL (s.trans s2) hp hw)⟩⟩
theorem gn {i : Nat} {v : V} {σ : L2.St} {H : Hp} {Q : L2.St → Hp → Prop} (h : Q (σ.set i (some v)) H) : gName i v σ H Q := h
theorem hid0 {H : Hp} {v : V} {d : PyData} (h : At H v d) : At (hideL H []) v d := h.same fun b o e => by rw [hideL_get (by simp)]; exact e
theorem lay_go {Q : VK} (h : Lay L te σ d H) (hL : ∀ b ∈ L, H b ≠ none) (k : ∀ v H', Same H H' → At (hideL H' L) v d → Q v H') : te σ H Q := h hL H (Same.refl H) Q k
theorem lay_set {i : Nat} {rest : TS} {KK : Ends} (h : Lay [] te σ d H) (k : ∀ v H', Same H H' → At H' v d → rest KK (σ.set i (some v)) H') : tSeq (tAsg te (gName i)) rest KK σ H :=
  h (fun b hb => by cases hb) H (Same.refl H) _ fun v H' s a => k v H' s (a.same (hideL_same _ _))
theorem lay_ret {KK : Ends} (h : Lay [] te σ d H) (k : ∀ v H', Same H H' → At H' v d → KK.rt v H') : tRet te KK σ H :=
  h (fun b hb => by cases hb) H (Same.refl H) _ fun v H' s a => k v H' s (a.same (hideL_same _ _))
theorem AtAll.mem {H : Hp} {vs : List V} {ds : List PyData} {i : Int} (h : AtAll H vs ds) (h0 : 0 ≤ i) (h1 : i < ds.length) : ∃ v d, atI vs i = some v ∧ ds[i.toNat]? = some d ∧ At H v d := by
  obtain ⟨v, hv, ha⟩ := h.getD (List.getElem?_eq_getElem (l := ds) (i := i.toNat) (by omega))
  exact ⟨v, _, atI_int h0 hv, List.getElem?_eq_getElem (by omega), ha⟩
def Sm (D B : Nat) (d : PyData) : Prop := d.showable = true ∧ d.depth ≤ D ∧ d.leavesShort 40 = true ∧ d.bulk ≤ B
theorem Sm.mono {D B D' B' : Nat} {d : PyData} (h : Sm D B d) (h1 : D ≤ D' := by decide) (h2 : B ≤ B' := by decide) : Sm D' B' d := ⟨h.1, Nat.le_trans h.2.1 h1, h.2.2.1, Nat.le_trans h.2.2.2 h2⟩
theorem Sm.list {D B n : Nat} {xs : List PyData} (h : ∀ x ∈ xs, Sm D B x) (hl : xs.length ≤ n) : Sm (D + 1) ((B + 1) * n) (.list xs) := by
  refine ⟨?_, ?_, ?_, ?_⟩
  · simp only [PyData.showable]
    exact Spec.showableAll_of fun x hx => (h x hx).1
  · have := depthAll_le (n := D) (xs := xs) fun x hx => (h x hx).2.1
    simp only [PyData.depth]
    omega
  · unfold PyData.leavesShort
    exact shortAll_of fun x hx => (h x hx).2.2.1
  · have := bulkAll_le (n := B) (xs := xs) fun x hx => (h x hx).2.2.2
    simp only [PyData.bulk]
    exact Nat.le_trans this (Nat.mul_le_mul_left _ hl)
theorem Sm.tuple {D B n : Nat} {xs : List PyData} (h : ∀ x ∈ xs, Sm D B x) (hl : xs.length ≤ n) : Sm (D + 1) ((B + 1) * n) (.tuple xs) := by
  refine ⟨?_, ?_, ?_, ?_⟩
  · simp only [PyData.showable]
    exact Spec.showableAll_of fun x hx => (h x hx).1
  · have := depthAll_le (n := D) (xs := xs) fun x hx => (h x hx).2.1
    simp only [PyData.depth]
    omega
  · unfold PyData.leavesShort
    exact shortAll_of fun x hx => (h x hx).2.2.1
  · have := bulkAll_le (n := B) (xs := xs) fun x hx => (h x hx).2.2.2
    simp only [PyData.bulk]
    exact Nat.le_trans this (Nat.mul_le_mul_left _ hl)
theorem Sm.shown {D B : Nat} {d : PyData} (h : Sm D B d) (hD : D ≤ 60 := by decide) (hB : B ≤ 100000 := by decide) : d.showable = true ∧ d.depth ≤ 60 ∧ d.shown.length ≤ sizeLine := by
  refine ⟨h.1, Nat.le_trans h.2.1 hD, ?_⟩
  have h1 := PyData.shown_le_bulk 40 (by decide) d h.2.2.1
  have h2 := h.2.2.2
  have hsl : (sizeLine : Nat) = 16777216 := rfl
  omega
end
section
variable {X : Cx}
def rSumL : List V → Hp → VK → Prop := fun xs H Q => ∃ l ns, xs = [.ref l] ∧ H l = some (.lst ((ns : List Int).map V.int)) ∧ Q (.int ns.sum) H
theorem call_sumL (hc : X.calm = true) : CallR X (.builtin "sum") rSumL := by
  intro pins s σ H xs us Q I r h
  obtain ⟨l, ns, rfl, hH, q⟩ := h
  cases r with
  | cons r rr =>
    cases rr
    cases r
    obtain ⟨z, its, n, rv, hl, e⟩ := I.lstM hH
    have hi := intsAre_of rv
    obtain ⟨xs, ex⟩ := hi.allInts.items
    have hn : numsOf its.toArray.toList = ns := hi.numsOf
    have hL : s.heap.IsList l (intItems xs) := by rw [← ex]; exact ⟨_, e, rfl, n, rfl⟩
    refine sum_intListG (I.ok.hd hc) hL fun h' tk t' hk => ?_
    rw [ex, nums_intItems] at hn
    rw [preSum_eq, List.take_of_length_le (by simp), hn]
    exact ⟨.int ns.sum, H, I.kept hk, ⟨_, rfl⟩, q⟩
end
end L2
set_option Elab.async false
set_option linter.all false
set_option maxRecDepth 100000
set_option maxHeartbeats 4000000
namespace Mm
open PySem L2 PyProof.Rows Mx
def odds11 : List PyData := [.none, .tuple [], .tuple [.str "r"], .tuple [.str "r", .int 0, .int 0], .list [.str "w", .int 0], .tuple [.str "x", .int 1], .tuple [.str "w", .int 2], .tuple [.str "w", .int (-1)], .tuple [.str "r", .bool true], .tuple [.str "w", .none], .str "w0"]
def odds5 : List PyData := [.tuple [.str "R", .int 0], .tuple [.int 0, .str "r"], .tuple [.str "r", .str "0"], .tuple [.str "w", .list [.int 0]], .tuple [.str "r", .int (10 ^ (30 : Int).toNat)]]
def frE (e : Str × List PyData) : PyData := .tuple [.str e.1, .list e.2]
def frD (F : List (Str × List PyData)) : PyData := .list (F.map frE)
abbrev SD (d : PyData) : Prop := Sm 3 20 d
def okFe (e : Str × List PyData) : Prop := okO e.1 ∧ 1 ≤ e.2.length ∧ e.2.length ≤ 6 ∧ ∀ x ∈ e.2, SD x
def okF (F : List (Str × List PyData)) : Prop := 1 ≤ F.length ∧ F.length ≤ 8 ∧ ∀ e ∈ F, okFe e
def putL (ss : List PyData) (k : Nat) (x : PyData) : List PyData := ss.take k ++ [x] ++ ss.drop (k + 1)
def some1 (o : Str) (ss : List PyData) : List PyData := [.tuple [.str o, .list []], .tuple [.str o, .list ((List.replicate 7 ss).flatten.take 7)], .tuple [.str o, .tuple ss], .tuple [.str o, .none], .tuple [.str o], .none]
def some2 (o : Str) (ss : List PyData) : List PyData := [.tuple [.str "Up", .list ss], .tuple [.none, .list ss], .tuple [.list [.str "up"], .list ss], .list [.str o, .list ss], .tuple [.str o, .list ss, .int 0], .tuple [.list ss, .str o], .str ""]
instance (D B : Nat) (d : PyData) : Decidable (Sm D B d) := by unfold Sm; infer_instance
theorem odds_sm : ∀ x ∈ odds11 ++ odds5, SD x := by
  intro x hx
  simp only [odds11, odds5, List.cons_append, List.nil_append, List.mem_cons, List.not_mem_nil, or_false] at hx
  rcases hx with rfl | rfl | rfl | rfl | rfl | rfl | rfl | rfl | rfl | rfl | rfl | rfl | rfl | rfl | rfl | rfl <;> exact ⟨by decide +kernel, by decide +kernel, by decide +kernel, by decide +kernel⟩
theorem ord_sm {o : Str} (h : okO o) : Sm 0 4 (.str o) := by
  rcases h with rfl | rfl | rfl <;> exact ⟨by decide +kernel, by decide +kernel, by decide +kernel, by decide +kernel⟩
theorem put_ok {ss : List PyData} {k : Nat} {x : PyData} (h0 : k < ss.length) (h6 : ss.length ≤ 6) (h : ∀ x ∈ ss, SD x) (hx : SD x) : 1 ≤ (putL ss k x).length ∧ (putL ss k x).length ≤ 6 ∧ ∀ y ∈ putL ss k x, SD y := by
  unfold putL
  refine ⟨by simp; omega, by simp; omega, fun y hy => ?_⟩
  rcases List.mem_append.mp hy with hy | hy
  · rcases List.mem_append.mp hy with hy | hy
    · exact h y (List.mem_of_mem_take hy)
    · rw [List.mem_singleton.mp hy]; exact hx
  · exact h y (List.mem_of_mem_drop hy)
theorem steps_sm {ss : List PyData} (h : ∀ x ∈ ss, SD x) {n : Nat} (h6 : ss.length ≤ n) : Sm 4 (21 * n) (.list ss) ∧ Sm 4 (21 * n) (.tuple ss) := ⟨Sm.list h h6, Sm.tuple h h6⟩
theorem pair_sm {D B : Nat} {a b : PyData} (ha : Sm D B a) (hb : Sm D B b) : Sm (D + 1) ((B + 1) * 2) (.tuple [a, b]) := Sm.tuple (fun x hx => by
  rcases List.mem_cons.mp hx with rfl | hx
  · exact ha
  · rw [List.mem_singleton.mp hx]; exact hb) (by simp)
theorem fe_sm {e : Str × List PyData} (h : okFe e) : Sm 5 500 (frE e) := by
  obtain ⟨h1, h2, h3, h4⟩ := h
  exact (pair_sm (D := 4) (B := 126) ((ord_sm h1).mono) ((steps_sm h4 h3).1)).mono
theorem some_sm {o : Str} {ss : List PyData} (ho : okO o) (h6 : ss.length ≤ 6) (h : ∀ x ∈ ss, SD x) : ∀ x ∈ some1 o ss ++ some2 o ss, Sm 6 500 x := by
  have s1 := (steps_sm h h6).1
  have s2 := (steps_sm h h6).2
  have o1 := ord_sm ho
  have n1 : Sm 0 0 .none := ⟨by decide +kernel, by decide +kernel, by decide +kernel, by decide +kernel⟩
  have u1 : Sm 0 4 (.str "Up") := ⟨by decide +kernel, by decide +kernel, by decide +kernel, by decide +kernel⟩
  have u2 : Sm 1 4 (.list [.str "up"]) := ⟨by decide +kernel, by decide +kernel, by decide +kernel, by decide +kernel⟩
  have u3 : Sm 0 0 (.str "") := ⟨by decide +kernel, by decide +kernel, by decide +kernel, by decide +kernel⟩
  have u4 : Sm 1 0 (.list []) := ⟨by decide +kernel, by decide +kernel, by decide +kernel, by decide +kernel⟩
  have u5 : Sm 0 0 (.int 0) := ⟨by decide +kernel, by decide +kernel, by decide +kernel, by decide +kernel⟩
  have s7 : Sm 4 (21 * 7) (.list ((List.replicate 7 ss).flatten.take 7)) := Sm.list (fun x hx => by
    have := List.mem_of_mem_take hx
    obtain ⟨l, hl, hx⟩ := List.mem_flatten.mp this
    rw [List.eq_of_mem_replicate hl] at hx
    exact h x hx) (by rw [List.length_take]; omega)
  intro x hx
  simp only [some1, some2, List.cons_append, List.nil_append, List.mem_cons, List.not_mem_nil, or_false] at hx
  rcases hx with rfl | rfl | rfl | rfl | rfl | rfl | rfl | rfl | rfl | rfl | rfl | rfl | rfl
  · exact (pair_sm (D := 4) (B := 200) o1.mono u4.mono).mono
  · exact (pair_sm (D := 4) (B := 200) o1.mono s7.mono).mono
  · exact (pair_sm (D := 4) (B := 200) o1.mono s2.mono).mono
  · exact (pair_sm (D := 4) (B := 200) o1.mono n1.mono).mono
  · exact (Sm.tuple (n := 1) (D := 0) (B := 4) (xs := [.str o]) (fun x hx => by rw [List.mem_singleton.mp hx]; exact o1) (by simp)).mono
  · exact n1.mono
  · exact (pair_sm (D := 4) (B := 200) u1.mono s1.mono).mono
  · exact (pair_sm (D := 4) (B := 200) n1.mono s1.mono).mono
  · exact (pair_sm (D := 4) (B := 200) u2.mono s1.mono).mono
  · exact (Sm.list (n := 2) (D := 4) (B := 200) (xs := [.str o, .list ss]) (fun x hx => by
      rcases List.mem_cons.mp hx with rfl | hx
      · exact o1.mono
      · rw [List.mem_singleton.mp hx]; exact s1.mono) (by simp)).mono
  · exact (Sm.tuple (n := 3) (D := 4) (B := 150) (xs := [.str o, .list ss, .int 0]) (fun x hx => by
      rcases List.mem_cons.mp hx with rfl | hx
      · exact o1.mono
      · rcases List.mem_cons.mp hx with rfl | hx
        · exact s1.mono
        · rw [List.mem_singleton.mp hx]; exact u5.mono) (by simp)).mono
  · exact (pair_sm (D := 4) (B := 200) s1.mono o1.mono).mono
  · exact u3.mono
theorem tnx {D : Ends} {σ : L2.St} {H : Hp} (h : D.nx σ H) : tNext D σ H := h
theorem lay_rix {r : R2} {ta : TA} {tb : TE} {KK : Ends} {σ : L2.St} {H : Hp} (h : ta σ H fun xs H1 => xs.length ≤ sizeLine ∧ ∀ p, H1 p = none → tb σ (upd H1 p (.lst xs)) fun y H2 => r (.ref p) y H2 KK.rt) : tRet (tOp r (tLst ta) tb) KK σ H := h
theorem lay_c {te : TE} {ta : TA} {σ : L2.St} {H : Hp} {d : PyData} {Q : List V → Hp → Prop} (h : Lay [] te σ d H) (k : ∀ v H', Same H H' → At H' v d → ta σ H' fun vs H2 => Q (v :: vs) H2) : tCons te ta σ H Q :=
  h (fun b hb => by cases hb) H (Same.refl H) _ fun v H' s a => k v H' s (a.same (hideL_same _ _))
theorem rep_take {T : List PyData} {n : Nat} {P : PyData → Prop} (h : ∀ x ∈ T, P x) : ∀ x ∈ ((List.replicate n T).flatten.take n), P x := fun x hx => by
  have := List.mem_of_mem_take hx
  obtain ⟨l, hl, hx⟩ := List.mem_flatten.mp this
  rw [List.eq_of_mem_replicate hl] at hx
  exact h x hx
section
variable {P : Program} {w : World} {K : PySem.W.Frag} {mg : Str → Option Value} {base : Heap}
def sp_bent : Sp := fun vs H Q _ => ∃ v, ∃ F : List (Str × List PyData), ∃ d : Addr, ∃ d0 d1 d2 : Int, vs = [v, .ref d] ∧ At H v (frD F) ∧ okF F ∧ H d = some (.lst [.int d0, .int d1, .int d2]) ∧ 0 ≤ d2 ∧ d2 < 37 ∧
  ∀ r dd H', Same H H' → AtX H' r dd → Sm 10 50000 dd → (d2 < 16 → ∃ F', dd = frD F' ∧ okF F') → Q r H'
abbrev s__law_bent : Stmt := top 54
theorem sc__law_bent : FnScope ["_law_test_here", "_law_d", "_law_at", "_law_order", "_law_steps", "_law_k", "_law_odd", "_law_some"] ["_law_test_here", "_law_d"] (defScope s__law_bent) := ⟨rfl, rfl, rfl, by decide +kernel, rfl, by decide +kernel, by decide +kernel⟩
/- slots: 0 _law_test_here, 1 _law_d, 2 _law_at, 3 _law_order, 4 _law_steps, 5 _law_k, 6 _law_odd, 7 _law_some; cells: _law_k, _law_order, _law_steps -/
theorem ok_bent (B : Bl mg) (F : FnAt K mg "_law_bent" s__law_bent ["_law_test_here", "_law_d"]) : Has P w K mg base 1 "_law_bent" ["_law_test_here", "_law_d"] sp_bent := by
  refine Has.ofQ F sc__law_bent (fun vs H Q E h => ?_) (fun f cdv A outer s H vs Q E hr h => ?_)
  · obtain ⟨v, F, d, d0, d1, d2, rfl, _⟩ := h
    rfl
  · obtain ⟨v, F, d, d0, d1, d2, rfl, hv, hF, hd, m2, n2, q⟩ := h
    have hsl : (sizeLine : Nat) = 16777216 := sizeLine_eq
    obtain ⟨l, ws, rfl, hl, hw⟩ := id hv.lstEq
    have hwl := hw.length
    rw [List.length_map] at hwl
    obtain ⟨F1, F8, Fe⟩ := id hF
    have sc := sc__law_bent
    refine ⟨_, (qss_litQ rfl (qss_cons (qs_setE (i := 2) sc.nd rfl (Or.inl rfl) (qe_op op_mod (qe_ix ix_list (qe_of (pv 1)) (qe_of pe_int) (fun _ _ => rfl)) (qe_callB call_len_seq rfl (B.of rfl) boot_len (qa_nm (qe_of (pv 0)) qa_nil))))
      (qss_cons (qs_asg (qe_ix ix_list (qe_of (pv 0)) (qe_of (pv 2)) (fun _ _ => rfl)) (pg_tup rfl (pgs_cons (pg_name (i := 3) sc.nd rfl (Or.inr rfl)) (pgs_cons (pg_name (i := 4) sc.nd rfl (Or.inr rfl)) pgs_nil))))
      (qss_cons (qs_setE (i := 5) sc.nd rfl (Or.inr rfl) (qe_op op_mod (qe_ix ix_list (qe_of (pv 1)) (qe_of pe_int) (fun _ _ => rfl)) (qe_callB call_len_seq rfl (B.of rfl) boot_len (qa_nm (qe_of (pv 4)) qa_nil))))
      (qss_cons (qs_setE (i := 6) sc.nd rfl (Or.inl rfl) (qe_lst (qa_cs (qe_of pe_non) (qa_tp (qe_tup qa_nil) (qa_tp (qe_tup (qa_cs (qe_of pe_str) qa_nil)) (qa_tp (qe_tup (qa_cs (qe_of pe_str) (qa_cs (qe_of pe_int) (qa_cs (qe_of pe_int) qa_nil)))) (qa_ls (qe_lst (qa_cs (qe_of pe_str) (qa_cs (qe_of pe_int) qa_nil))) (qa_tp (qe_tup (qa_cs (qe_of pe_str) (qa_cs (qe_of pe_int) qa_nil))) (qa_tp (qe_tup (qa_cs (qe_of pe_str) (qa_cs (qe_of pe_int) qa_nil))) (qa_tp (qe_tup (qa_cs (qe_of pe_str) (qa_cons (qe_of (pe_un un_neg pe_int)) qa_nil))) (qa_tp (qe_tup (qa_cs (qe_of pe_str) (qa_cs (qe_of pe_bl) qa_nil))) (qa_tp (qe_tup (qa_cs (qe_of pe_str) (qa_cs (qe_of pe_non) qa_nil))) (qa_cs (qe_of pe_str) qa_nil)))))))))))))
      (qss_cons (qs_setE (i := 6) sc.nd rfl (Or.inl rfl) (qe_op op_cat (qe_of (pv 6)) (qe_lst (qa_tp (qe_tup (qa_cs (qe_of pe_str) (qa_cs (qe_of pe_int) qa_nil))) (qa_tp (qe_tup (qa_cs (qe_of pe_int) (qa_cs (qe_of pe_str) qa_nil))) (qa_tp (qe_tup (qa_cs (qe_of pe_str) (qa_cs (qe_of pe_str) qa_nil))) (qa_tp (qe_tup (qa_cs (qe_of pe_str) (qa_ls (qe_lst (qa_cs (qe_of pe_int) qa_nil)) qa_nil))) (qa_tp (qe_tup (qa_cs (qe_of pe_str) (qa_bo (qe_op op_pow (qe_of pe_int) (qe_of pe_int)) qa_nil))) qa_nil))))))))
      (qss_cons (qs_of (ps_setC (i := 7) rfl sc.nd rfl (Or.inl rfl) rfl (compOk_of rfl) (M := ["_law_one", "_law_order", "_law_steps", "_law_k"]) (ix := [none, some 3, some 4, some 5]) (pi_list (pv 6)) (fun _ _ _ _ => (pg_name (i := 0) (show List.Nodup (["_law_one", "_law_order", "_law_steps", "_law_k"] : List Str) by decide +kernel) rfl (Or.inl rfl))) (fun _ _ _ _ => pts_nil) (fun _ _ _ _ => (pe_tup (pa_cons (pv 1) (pa_cons (pe_op op_cat (pe_op op_cat (pe_slice (sl_listK (K := K) rfl) (pv 2) po_none (po_some (pv 3))) (pe_lst (pa_cons (pv 0) pa_nil))) (pe_slice (sl_listK (K := K) rfl) (pv 2) (po_some (pe_op op_add (pv 3) pe_int)) po_none)) pa_nil))))))
      (qss_cons (qs_setE (i := 7) sc.nd rfl (Or.inl rfl) (qe_op op_cat (qe_of (pv 7)) (qe_lst (qa_tp (qe_tup (qa_nm (qe_of (pv 3)) (qa_ls (qe_lst qa_nil) qa_nil))) (qa_tp (qe_tup (qa_nm (qe_of (pv 3)) (qa_sb (qe_sl sl_list (qe_op op_rep (qe_of (pv 4)) (qe_of pe_int)) po_none (po_some pe_int)) qa_nil))) (qa_tp (qe_tup (qa_nm (qe_of (pv 3)) (qa_cl (qe_callTy call_tuple_of rfl (B.of rfl) boot_tuple (qa_nm (qe_of (pv 4)) qa_nil)) qa_nil))) (qa_tp (qe_tup (qa_nm (qe_of (pv 3)) (qa_cs (qe_of pe_non) qa_nil))) (qa_tp (qe_tup (qa_nm (qe_of (pv 3)) qa_nil)) (qa_cs (qe_of pe_non) qa_nil)))))))))
      (qss_cons (qs_setE (i := 7) sc.nd rfl (Or.inl rfl) (qe_op op_cat (qe_of (pv 7)) (qe_lst (qa_tp (qe_tup (qa_cs (qe_of pe_str) (qa_nm (qe_of (pv 4)) qa_nil))) (qa_tp (qe_tup (qa_cs (qe_of pe_non) (qa_nm (qe_of (pv 4)) qa_nil))) (qa_tp (qe_tup (qa_ls (qe_lst (qa_cs (qe_of pe_str) qa_nil)) (qa_nm (qe_of (pv 4)) qa_nil))) (qa_ls (qe_lst (qa_nm (qe_of (pv 3)) (qa_nm (qe_of (pv 4)) qa_nil))) (qa_tp (qe_tup (qa_nm (qe_of (pv 3)) (qa_nm (qe_of (pv 4)) (qa_cs (qe_of pe_int) qa_nil)))) (qa_tp (qe_tup (qa_nm (qe_of (pv 4)) (qa_nm (qe_of (pv 3)) qa_nil))) (qa_cs (qe_of pe_str) qa_nil))))))))))
      (qss_cons (qs_ifT (qt_cmpR op_lt (qe_ix ix_list (qe_of (pv 1)) (qe_of pe_int) (fun _ _ => rfl)) (qe_of pe_int) (nomark _))
        (qss_one (qs_retE (qe_op op_cat (qe_op op_cat (qe_sl sl_list (qe_of (pv 0)) po_none (po_some (pv 2))) (qe_lst (qa_sb (qe_ix ix_list (qe_of (pv 7)) (qe_ix ix_list (qe_of (pv 1)) (qe_of pe_int) (fun _ _ => rfl)) (fun _ _ => rfl)) qa_nil))) (qe_sl sl_list (qe_of (pv 0)) (po_some (pe_op op_add (pv 2) pe_int)) po_none))))
        qss_nil)
      (qss_one (qs_retE (qe_ix ix_list (qe_lst (qa_ls (qe_lst qa_nil) (qa_sb (qe_sl sl_list (qe_op op_rep (qe_of (pv 0)) (qe_of pe_int)) po_none (po_some pe_int)) (qa_cl (qe_callTy call_tuple_of rfl (B.of rfl) boot_tuple (qa_nm (qe_of (pv 0)) qa_nil)) (qa_cs (qe_of pe_non) (qa_cons (qe_of pe_dnewK) (qa_cs (qe_of pe_str) (qa_cs (qe_of pe_int) (qa_bo (qe_op op_rep (qe_sl sl_list (qe_of (pv 0)) po_none (po_some pe_int)) (qe_of pe_int)) qa_nil))))))))) (qe_op op_sub (qe_ix ix_list (qe_of (pv 1)) (qe_of pe_int) (fun _ _ => rfl)) (qe_of pe_int)) (fun _ _ => rfl)))))))))))))), ?_⟩
    refine ⟨_, rfl, d, _, _, _, rfl, rfl, SqL.of hd, atI_lit 0 rfl, _, rfl, l, _, rfl, .inl (SqL.of hl), _, _, rfl, rfl, by omega, ?_⟩
    obtain ⟨at', hat', hatl⟩ : ∃ k : Nat, d0 % (ws.length : Int) = (k : Int) ∧ k < F.length := by
      have h1 := Int.emod_nonneg d0 (b := (ws.length : Int)) (by omega)
      have h2 := Int.emod_lt_of_pos d0 (b := (ws.length : Int)) (by omega)
      exact ⟨(d0 % (ws.length : Int)).toNat, by omega, by omega⟩
    show gName 2 (V.int (d0 % (ws.length : Int))) _ _ _
    rw [hat']
    obtain ⟨v0, hv0, hat0⟩ := hw.getD (i := at') (d := frE F[at']) (by rw [List.getElem?_map, List.getElem?_eq_getElem hatl]; rfl)
    obtain ⟨oF, o6, o7, o8⟩ := Fe _ (List.getElem_mem hatl)
    generalize hfe : F[at'] = fe at hat0 oF o6 o7 o8
    obtain ⟨o, ss⟩ := fe
    obtain ⟨a, vs, rfl, ha, hwa⟩ := hat0.tupEq
    cases hwa with
    | cons h1 r =>
    cases r with
    | cons h2 r =>
    cases r
    have := h1.strEq
    subst this
    obtain ⟨ls, wss, rfl, hls, hwss⟩ := id h2.lstEq
    have hwsl : wss.length = ss.length := hwss.length
    have o6' : 1 ≤ ss.length := o6
    have o7' : ss.length ≤ 6 := o7
    refine ⟨_, rfl, _, rfl, l, _, _, _, rfl, rfl, SqL.of hl, atI_nat hv0, a, _, rfl, SqT.of ha, rfl, _, _, rfl, _, _, rfl, rfl, ?_⟩
    refine ⟨_, rfl, d, _, _, _, rfl, rfl, SqL.of hd, atI_lit 1 rfl, _, rfl, ls, _, rfl, .inl (SqL.of hls), _, _, rfl, rfl, by omega, ?_⟩
    obtain ⟨k, hk, hkl⟩ : ∃ k : Nat, d1 % (wss.length : Int) = (k : Int) ∧ k < ss.length := by
      have h1 := Int.emod_nonneg d1 (b := (wss.length : Int)) (by omega)
      have h2 := Int.emod_lt_of_pos d1 (b := (wss.length : Int)) (by omega)
      exact ⟨(d1 % (wss.length : Int)).toNat, by omega, by omega⟩
    show gName 5 (V.int (d1 % (wss.length : Int))) _ _ _
    rw [hk]
    refine gn ?_
    dsimp only
    refine lay_set (d := .list odds11) ?_ fun x1 H1 s1 a1 => ?_
    · unfold odds11
      repeat' (first | exact lay_non | exact lay_bl | exact lay_int | exact lay_str | exact lay_neg | exact lay_nil | refine lay_cons ?_ ?_ | refine lay_tup ?_ | refine lay_lst ?_ | exact lay_var rfl (hid0 (by assumption)))
    refine lay_set (d := .list (odds11 ++ odds5)) ?_ fun x2 H2 s2 a2 => ?_
    · refine lay_cat (lay_var rfl (hid0 a1)) ?_ (by decide)
      unfold odds5
      repeat' (first | exact lay_non | exact lay_bl | exact lay_int | exact lay_str | exact lay_neg | exact lay_nil | refine lay_cons ?_ ?_ | refine lay_tup ?_ | refine lay_lst ?_ | exact lay_var rfl (hid0 (by assumption)))
      exact lay_pow ⟨by decide, by decide, by decide⟩
    have s12 := s1.trans s2
    have hs2 : At H2 (.ref ls) (.list ss) := h2.same s12
    obtain ⟨l6, w6, rfl, hl6, hw6⟩ := id a2.lstEq
    have hw6l : w6.length = 16 := hw6.length
    refine ⟨_, rfl, l6, rfl, ⟨_, SqL.of hl6⟩, fun D hD => comp_by (n := w6.length) (fun i H' => Same H2 H' ∧ Bld [] H' D (((odds11 ++ odds5).take i).map fun x => frE (o, putL ss k x))) ⟨(Same.refl H2).upd hD, Bld.new⟩ ?_ ?_⟩
    rotate_left
    · rintro i H3 hi ⟨s3, b3⟩
      refine ⟨⟨_, _, SqL.of (s3 _ _ hl6), List.getElem?_eq_getElem hi⟩, ?_⟩
      rintro x H4 ⟨rfl, hx⟩
      obtain ⟨dx, hdx, hax⟩ := hw6.get (hx _ (SqL.of (s3 _ _ hl6)))
      refine ⟨KeepS.set (KeepS.refl _) rfl, yes ?_⟩
      obtain ⟨us, e3, hus⟩ := id b3
      have hul := b3.len e3
      rw [List.length_map, List.length_take] at hul
      -- what lay there before leans on nothing new
      have old : ∀ {v d}, At H2 v d → At (hideL H4 [D]) v d := fun {v d} h => h.same fun b ob e => by
        rw [hideL_get (by intro z; rw [List.mem_singleton.mp z, hD] at e; cases e)]
        exact s3 _ _ e
      refine lay_go (L := [D]) (d := frE (o, putL ss k dx)) ?_ (fun b hb => by rw [List.mem_singleton.mp hb, e3]; intro z; cases z) fun v4 H5 s4 a4 => ?_
      · unfold frE putL
        refine lay_tup (lay_cons (lay_var rfl (.str _)) (lay_cons (lay_cat (lay_cat (lay_take (lay_var rfl (old hs2)) (lay_nv rfl)) (lay_lst (lay_cons (lay_var rfl (old hax)) lay_nil)) ?_) (lay_drop (lay_var rfl (old hs2)) (lay_ns rfl)) ?_) lay_nil))
        · simp; omega
        · simp; omega
      · refine ⟨us, s4 _ _ e3, sl_lt (by omega), (s3.trans s4).at hD, ?_⟩
        have := (b3.grow s4).push (s4 _ _ e3) a4
        rw [List.take_add_one, hdx, List.map_append]
        exact this
    · rintro H3 ⟨s3, b3⟩
      refine ⟨⟨_, SqL.of (s3 _ _ hl6), Nat.le_refl _⟩, ?_⟩
      have a3 := b3.out
      rw [hw6l, List.take_of_length_le (by decide)] at a3
      have s13 := s12.trans s3
      have hs3 := hs2.same s3
      have oS : At H3 (.str o) (.str o) := .str _
      dsimp only
      refine lay_set (d := .list ((odds11 ++ odds5).map (fun x => frE (o, putL ss k x)) ++ some1 o ss)) ?_ fun x4 H4 s4 a4 => ?_
      · refine lay_cat (lay_var rfl (hid0 a3)) ?_ (Nat.le_of_ble_eq_true rfl)
        unfold some1
        repeat' (first | exact lay_non | exact lay_bl | exact lay_int | exact lay_str | exact lay_neg | exact lay_nil | refine lay_cons ?_ ?_ | refine lay_tup ?_ | refine lay_lst ?_ | exact lay_var rfl (hid0 (by assumption)))
        · exact lay_take (n := 7) (lay_rep (n := 7) (lay_var rfl (hid0 hs3)) (by decide) (by omega)) lay_n
        · exact lay_tupOf (lay_var rfl (hid0 hs3))
      have hs4 := hs3.same s4
      have oS4 : At H4 (.str o) (.str o) := .str _
      refine lay_set (d := .list ((odds11 ++ odds5).map (fun x => frE (o, putL ss k x)) ++ some1 o ss ++ some2 o ss)) ?_ fun x5 H5 s5 a5 => ?_
      · refine lay_cat (lay_var rfl (hid0 a4)) ?_ (Nat.le_of_ble_eq_true rfl)
        unfold some2
        repeat' (first | exact lay_non | exact lay_bl | exact lay_int | exact lay_str | exact lay_neg | exact lay_nil | refine lay_cons ?_ ?_ | refine lay_tup ?_ | refine lay_lst ?_ | exact lay_var rfl (hid0 (by assumption)))
      obtain ⟨l5, w5, rfl, hl5, hw5⟩ := id a5.lstEq
      have s15 := s13.trans (s4.trans s5)
      have hd5 := s15 _ _ hd
      have hl5' := s15 _ _ hl
      have hv5 := hv.same s15
      refine ⟨_, rfl, d, _, _, _, rfl, rfl, SqL.of hd5, atI_lit 2 rfl, _, _, rfl, rfl, _, rfl, ?_⟩
      by_cases h29 : d2 < 29
      · refine iteD h29 ?_
        obtain ⟨ve, de, hve, hde, hae⟩ := hw5.mem m2 (by show d2 < (29 : Int); omega)
        refine lay_ret (d := .list ((F.map frE).take at' ++ [de] ++ (F.map frE).drop (at' + 1))) ?_ fun r H6 s6 a6 => ?_
        · refine lay_cat (lay_cat (lay_take (lay_var rfl (hid0 hv5)) (lay_nv rfl)) (lay_lst (lay_cons ?_ lay_nil)) ?_) (lay_drop (lay_var rfl (hid0 hv5)) (lay_ns rfl)) ?_
          · exact fun hL H7 s7 Q7 k7 => ⟨_, rfl, _, rfl, d, _, _, _, rfl, rfl, SqL.of (s7 _ _ hd5), atI_lit 2 rfl, l5, _, _, _, rfl, rfl, SqL.of (s7 _ _ hl5), hve, k7 ve H7 (Same.refl H7) (hid0 (hae.same s7))⟩
          · simp; omega
          · simp; omega
        have hput : ∀ x ∈ odds11 ++ odds5, okFe (o, putL ss k x) := fun x hx => by
          obtain ⟨p1, p2, p3⟩ := put_ok hkl o7' o8 (odds_sm x hx)
          exact ⟨oF, p1, p2, p3⟩
        have hmap : ∀ y ∈ (odds11 ++ odds5).map (fun x => frE (o, putL ss k x)), Sm 6 500 y := fun y hy => by
          obtain ⟨x, hx, rfl⟩ := List.mem_map.mp hy
          exact (fe_sm (hput x hx)).mono
        have hdeS : Sm 6 500 de := by
          have hm := List.mem_of_getElem? hde
          rw [List.append_assoc] at hm
          rcases List.mem_append.mp hm with hm | hm
          · exact hmap _ hm
          · exact some_sm oF o7' o8 _ hm
        refine q _ _ _ (s15.trans s6) (.inl a6) ((Sm.list (n := 8) (D := 6) (B := 500) (fun y hy => ?_) ?_).mono) fun h16 => ?_
        · rcases List.mem_append.mp hy with hy | hy
          · rcases List.mem_append.mp hy with hy | hy
            · obtain ⟨e, he, rfl⟩ := List.mem_map.mp (List.mem_of_mem_take hy)
              exact (fe_sm (Fe e he)).mono
            · rw [List.mem_singleton.mp hy]; exact hdeS
          · obtain ⟨e, he, rfl⟩ := List.mem_map.mp (List.mem_of_mem_drop hy)
            exact (fe_sm (Fe e he)).mono
        · simp; omega
        · have hj : d2.toNat < 16 := by omega
          rw [List.append_assoc, List.getElem?_append_left (by rw [List.length_map]; exact hj), List.getElem?_map] at hde
          cases hx : (odds11 ++ odds5)[d2.toNat]? with
          | none => rw [hx] at hde; cases hde
          | some x =>
            rw [hx] at hde
            cases hde
            refine ⟨F.take at' ++ [(o, putL ss k x)] ++ F.drop (at' + 1), ?_, ?_, ?_, fun e he => ?_⟩
            · unfold frD
              rw [List.map_append, List.map_append, List.map_take, List.map_drop]
              rfl
            · simp; omega
            · simp; omega
            · rcases List.mem_append.mp he with he | he
              · rcases List.mem_append.mp he with he | he
                · exact Fe e (List.mem_of_mem_take he)
                · rw [List.mem_singleton.mp he]; exact hput x (List.mem_of_getElem? hx)
              · exact Fe e (List.mem_of_mem_drop he)
      · refine iteDN h29 ?_
        have eF : ∀ y ∈ F.map frE, Sm 6 500 y := fun y hy => by
          obtain ⟨e, he, rfl⟩ := List.mem_map.mp hy
          exact (fe_sm (Fe e he)).mono
        refine tnx ?_
        dsimp only
        refine lay_rix ?_
        refine lay_c (d := .list []) (lay_lst lay_nil) fun v1 H6 s6 a6 => ?_
        refine lay_c (d := .list ((List.replicate 9 (F.map frE)).flatten.take 9)) (lay_take (n := 9) (lay_rep (n := 9) (lay_var rfl (hid0 (hv5.same s6))) (by decide) (by rw [List.length_map]; omega)) lay_n) fun v2 H7 s7 a7 => ?_
        refine lay_c (d := .tuple (F.map frE)) (lay_tupOf (lay_var rfl (hid0 (hv5.same (s6.trans s7))))) fun v3 H8 s8 a8 => ?_
        refine lay_c (d := .none) lay_non fun v4 H9 s9 a9 => ?_
        intro g hg
        have sg : Same H9 (upd H9 g (.dK [])) := (Same.refl H9).upd hg
        have eg : upd H9 g (.dK []) g = some (.dK []) := upd_same
        revert sg eg
        generalize upd H9 g (.dK []) = HA
        intro sg eg
        have s5A := (s6.trans s7).trans ((s8.trans s9).trans sg)
        refine lay_c (d := .str "any w0") lay_str fun v6 HB sB aB => ?_
        refine lay_c (d := .int 7) lay_int fun v7 HC sC aC => ?_
        refine lay_c (d := .list ((List.replicate 8 ((F.map frE).take 1)).flatten)) (lay_rep (n := 8) (lay_take (n := 1) (lay_var rfl (hid0 (hv5.same ((s5A.trans sB).trans sC)))) lay_n) (by decide) (by simp; omega)) fun v8 HD sD aD => ?_
        refine ⟨(by show 8 ≤ sizeLine; decide), fun p hp => ?_⟩
        have sp : Same HD (upd HD p (.lst [v1, v2, v3, v4, .ref g, v6, v7, v8])) := (Same.refl HD).upd hp
        have ep : upd HD p (.lst [v1, v2, v3, v4, .ref g, v6, v7, v8]) p = some (.lst [v1, v2, v3, v4, .ref g, v6, v7, v8]) := upd_same
        revert sp ep
        show _ → _ → tOp _ _ _ _ (upd HD p (.lst [v1, v2, v3, v4, .ref g, v6, v7, v8])) _
        generalize upd HD p (.lst [v1, v2, v3, v4, .ref g, v6, v7, v8]) = HE
        intro sp ep
        have sCE := sD.trans sp
        have sBE := sC.trans sCE
        have sAE := sB.trans sBE
        have s9E := sg.trans sAE
        have s8E := s9.trans s9E
        have s7E := s8.trans s8E
        have s6E := s7.trans s7E
        have s0E := s15.trans (s6.trans s6E)
        obtain ⟨j, hj, hj8⟩ : ∃ j : Nat, d2 - 29 = (j : Int) ∧ j < 8 := ⟨(d2 - 29).toNat, by omega, by omega⟩
        have pick : ∃ vj dj, [v1, v2, v3, v4, .ref g, v6, v7, v8][j]? = some vj ∧ AtX HE vj dj ∧ Sm 10 50000 dj := by
          match j, hj8 with
          | 0, _ => exact ⟨_, _, rfl, .inl (a6.same s6E), by decide +kernel⟩
          | 1, _ => exact ⟨_, _, rfl, .inl (a7.same s7E), (Sm.list (n := 9) (rep_take eF) (by rw [List.length_take]; omega)).mono⟩
          | 2, _ => exact ⟨_, _, rfl, .inl (a8.same s8E), (Sm.tuple (n := 8) eF (by rw [List.length_map]; omega)).mono⟩
          | 3, _ => exact ⟨_, _, rfl, .inl (a9.same s9E), by decide +kernel⟩
          | 4, _ => exact ⟨_, .dict [], rfl, .inr ⟨rfl, g, rfl, sAE _ _ eg⟩, by decide +kernel⟩
          | 5, _ => exact ⟨_, _, rfl, .inl (aB.same sBE), by decide +kernel⟩
          | 6, _ => exact ⟨_, _, rfl, .inl (aC.same sCE), by decide +kernel⟩
          | 7, _ =>
            refine ⟨_, _, rfl, .inl (aD.same sp), (Sm.list (n := 8) (D := 6) (B := 500) (fun x hx => ?_) ?_).mono⟩
            · obtain ⟨l, hl, hx⟩ := List.mem_flatten.mp hx
              rw [List.eq_of_mem_replicate hl] at hx
              exact eF x (List.mem_of_mem_take hx)
            · rw [List.length_flatten, List.map_replicate, List.sum_replicate_nat, List.length_take]
              omega
        obtain ⟨vj, dj, hvj, haj, hsj⟩ := pick
        refine ⟨_, rfl, d, _, _, _, rfl, rfl, SqL.of (s0E _ _ hd), atI_lit 2 rfl, _, _, rfl, rfl, p, _, _, _, rfl, rfl, SqL.of ep, ?_, q vj dj HE s0E haj hsj fun z => by omega⟩
        show atI _ (d2 - 29) = some vj
        rw [hj]
        exact atI_nat hvj
end
end Mm
set_option Elab.async false
set_option linter.all false
set_option maxRecDepth 100000
set_option maxHeartbeats 4000000
namespace Mm
open PySem L2 PyProof.Rows Mx
def flatV1 (v : V) : Prop := ∃ d, ∀ H, At H v d
def FS (H : Hp) (x : V) : Prop := ∃ q u v, x = .ref q ∧ H q = some (.tup [u, v]) ∧ flatV1 u ∧ flatV1 v
theorem FS.same {H H' : Hp} {x : V} (h : FS H x) (s : Same H H') : FS H' x := by
  obtain ⟨q, u, v, e, h, hu, hv⟩ := h
  exact ⟨q, u, v, e, s _ _ h, hu, hv⟩
theorem FS.upd {H : Hp} {x : V} {l : Addr} {ws ws' : List V} (h : FS H x) (hl : H l = some (.lst ws)) : FS (upd H l (.lst ws')) x := by
  obtain ⟨q, u, v, e, h, hu, hv⟩ := h
  refine ⟨q, u, v, e, ?_, hu, hv⟩
  rw [upd_ne (ne_of h hl (by intro z; cases z))]
  exact h
theorem FS.at {H : Hp} {x : V} (h : FS H x) : ∃ d, At H x d := by
  obtain ⟨q, u, v, rfl, h, ⟨du, hu⟩, ⟨dv, hv⟩⟩ := h
  exact ⟨_, .tup h (.cons (hu H) (.cons (hv H) .nil))⟩
theorem all_at {H : Hp} : ∀ (us : List V), (∀ u ∈ us, ∃ d, At H u d) → ∃ ds, AtAll H us ds
  | [], _ => ⟨[], .nil⟩
  | u :: us, h => by
    obtain ⟨d, hd⟩ := h u (List.mem_cons_self ..)
    obtain ⟨ds, hds⟩ := all_at us fun x hx => h x (List.mem_cons_of_mem _ hx)
    exact ⟨d :: ds, .cons hd hds⟩
def EAt (H : Hp) (u : V) : Prop := ∃ a o l ws, u = .ref a ∧ H a = some (.tup [.str o, .ref l]) ∧ H l = some (.lst ws) ∧ ∀ x ∈ ws, FS H x
structure TAt (H : Hp) (p l : Addr) (us : List V) : Prop where
  lst : H p = some (.lst us)
  all : ∀ u ∈ us, EAt H u
  ne : p ≠ l
theorem EAt.same {H H' : Hp} {u : V} (h : EAt H u) (s : Same H H') : EAt H' u := by
  obtain ⟨a, o, l, ws, e, h1, h2, h3⟩ := h
  exact ⟨a, o, l, ws, e, s _ _ h1, s _ _ h2, fun x hx => (h3 x hx).same s⟩
theorem TAt.same {H H' : Hp} {p l : Addr} {us : List V} (h : TAt H p l us) (s : Same H H') : TAt H' p l us := ⟨s _ _ h.lst, fun u hu => (h.all u hu).same s, h.ne⟩
theorem TAt.at {H : Hp} {p l : Addr} {us : List V} (h : TAt H p l us) : ∃ d, At H (.ref p) d := by
  obtain ⟨ds, hds⟩ := all_at us fun u hu => by
    obtain ⟨a, o, l, ws, rfl, h1, h2, h3⟩ := h.all u hu
    obtain ⟨es, hes⟩ := all_at ws fun x hx => (h3 x hx).at
    exact ⟨_, .tup h1 (.cons (.str o) (.cons (.lst h2 hes) .nil))⟩
  exact ⟨_, .lst h.lst hds⟩
theorem TAt.put {H : Hp} {p l : Addr} {us ws ws' : List V} (h : TAt H p l us) (hl : H l = some (.lst ws)) (hw : ∀ x ∈ ws', FS H x) : TAt (upd H l (.lst ws')) p l us := by
  refine ⟨by rw [upd_ne h.ne]; exact h.lst, fun u hu => ?_, h.ne⟩
  obtain ⟨a, o, m, vs, rfl, h1, h2, h3⟩ := h.all u hu
  have na : a ≠ l := ne_of h1 hl (by intro z; cases z)
  by_cases e : m = l
  · subst e
    exact ⟨a, o, m, ws', rfl, by rw [upd_ne na]; exact h1, upd_same, fun x hx => (hw x hx).upd hl⟩
  · exact ⟨a, o, m, vs, rfl, by rw [upd_ne na]; exact h1, by rw [upd_ne e]; exact h2, fun x hx => (h3 x hx).upd hl⟩
theorem step_FS {H : Hp} {x : V} {s : Stp} (h : At H x (stepD s)) : FS H x := by
  obtain ⟨a, rfl, ha⟩ := step_at h
  exact ⟨a, _, _, rfl, ha, ⟨_, fun _ => .str _⟩, ⟨_, fun _ => .int _⟩⟩
theorem elem_EAt {H : Hp} {u : V} {e : Elm} (h : At H u (elemD e)) : EAt H u := by
  obtain ⟨a, l, ws, rfl, h1, h2, h3⟩ := elem_at h
  refine ⟨a, e.1, l, ws, rfl, h1, h2, fun x hx => ?_⟩
  obtain ⟨i, hi⟩ := List.getElem?_of_mem hx
  obtain ⟨d, hd, hat⟩ := h3.get hi
  obtain ⟨s, _, rfl⟩ := map_get hd
  exact step_FS hat
theorem FS_noE {H : Hp} {x : V} (h : FS H x) (e : EAt H x) : False := by
  obtain ⟨q, u, v, rfl, h, _, ⟨d, hv⟩⟩ := h
  obtain ⟨a, o, l, ws, e1, h1, _⟩ := e
  cases e1
  rw [h] at h1
  cases h1
  have := hv (fun _ => none)
  cases this with
  | lst e _ => cases e
  | tup e _ => cases e
theorem steps_sum : ∀ T : List Elm, (T.map fun e => (e.2.length : Int)).sum = ((steps T).length : Int)
  | [] => rfl
  | e :: T => by
    have ih := steps_sum T
    unfold steps at ih ⊢
    rw [List.map_cons, List.sum_cons, List.flatMap_cons, List.length_append, ih]
    omega
theorem tv_lay (b : Option Bad) : (tvD b).canLay0 = true ∧ (tvD b).depth ≤ 60 := by
  cases b with
  | none => exact ⟨by decide +kernel, by decide +kernel⟩
  | some b =>
    obtain ⟨x, y⟩ := b
    cases x <;> cases y <;> exact ⟨rfl, by simp [tvD, optD, PyData.depth, PyData.depthAll]⟩
theorem tv_ne (b : Option Bad) : (!PyData.eqv (tvD b) (tvD b)) = false := by
  rw [SeqAt.eqv_refl _ (tv_lay b).1]; rfl
theorem fr_test {T : List Elm} (h : okT T) : ∃ F, testD T = frD F ∧ okF F := by
  obtain ⟨h1, h8, he⟩ := h
  refine ⟨T.map fun e => (e.1, e.2.map stepD), ?_, by simpa using h1, by simpa using h8, fun x hx => ?_⟩
  · unfold testD frD
    rw [List.map_map]
    rfl
  · obtain ⟨e, hm, rfl⟩ := List.mem_map.mp hx
    obtain ⟨o1, o2, o3⟩ := he e hm
    refine ⟨o1, by simpa using o2, by simpa using o3, fun y hy => ?_⟩
    obtain ⟨⟨sw, sb⟩, _, rfl⟩ := List.mem_map.mp hy
    cases sw <;> cases sb <;> exact ⟨by decide +kernel, by decide +kernel, by decide +kernel, by decide +kernel⟩
section
variable {P : Program} {w : World} {K : PySem.W.Frag} {mg : Str → Option Value} {base : Heap}
def sp_cell_atK (K : PySem.W.Frag) : Sp := fun vs H Q _ => ∃ (S : Addr) (ns : List Int) (i : Nat), vs = [.ref S, .int i] ∧ SqL K H S (ns.map V.int) ∧ ∀ c, Q (.int c) H
abbrev s__law_cell_at : Stmt := top 46
theorem sc__law_cell_at : FnScope ["_law_script", "_law_k"] ["_law_script", "_law_k"] (defScope s__law_cell_at) := ⟨rfl, rfl, rfl, by decide +kernel, rfl, by decide +kernel, by decide +kernel⟩
/- slots: 0 _law_script, 1 _law_k -/
theorem ok_cell_atK (B : Bl mg) (F : FnAt K mg "_law_cell_at" s__law_cell_at ["_law_script", "_law_k"]) : Has P w K mg base 1 "_law_cell_at" ["_law_script", "_law_k"] (sp_cell_atK K) := by
  refine Has.of F sc__law_cell_at (fun vs H Q E h => ?_) (fun f cdv A outer s H vs Q E hr h => ?_)
  · obtain ⟨S, ns, i, rfl, _⟩ := h
    rfl
  · obtain ⟨S, ns, i, rfl, hS, k⟩ := h
    have sc := sc__law_cell_at
    refine ⟨_, (pss_cons (ps_if (pt_cmpR op_lt (pv 1) (pe_callB call_len_seq rfl (B.of rfl) boot_len (pa_cons (pv 0) pa_nil)) (nomark _))
        (pss_one (ps_ret (pe_ix ix_list (pv 0) (pv 1) (fun _ _ => rfl))))
        pss_nil)
      (pss_one (ps_ret pe_int))), ?_⟩
    refine ⟨_, rfl, _, rfl, S, _, rfl, .inl hS, _, _, rfl, rfl, _, rfl, ?_⟩
    by_cases hi : i < ns.length
    · refine iteD (by rw [List.length_map]; omega) ?_
      exact ⟨_, rfl, _, rfl, S, _, _, _, rfl, rfl, hS, atI_nat (get_int (List.getElem?_eq_getElem hi)), k _⟩
    · refine iteDN (by rw [List.length_map]; omega) ?_
      exact k 0
def sp_law (K : PySem.W.Frag) : Sp := fun vs H Q _ => ∃ (a : Addr) (ns : List Int), vs = [.ref a] ∧ SqL K H a (ns.map V.int) ∧ ns.length ≤ 63 ∧ ∀ H', Q (.bl true) H'
abbrev s_law : Stmt := top 55
theorem sc_law : FnScope ["_law_script", "_law_test_here", "_law_k", "_law_d", "_law_bent_here", "_law_kept", "_law_way", "_law_steps", "_law_step", "_law_one"] ["_law_script"] (defScope s_law) := ⟨rfl, rfl, rfl, by decide +kernel, rfl, by decide +kernel, by decide +kernel⟩
/- slots: 0 _law_script, 1 _law_test_here, 2 _law_k, 3 _law_d, 4 _law_bent_here, 5 _law_kept, 6 _law_way, 7 _law_steps, 8 _law_step, 9 _law_one -/
theorem ok_law (B : Bl mg) (h__law_digits : Has P w K mg base 1 "_law_digits" ["_law_cell", "_law_turn", "_law_sizes"] sp_digits) (h__law_cell_at : Has P w K mg base 1 "_law_cell_at" ["_law_script", "_law_k"] (sp_cell_atK K)) (h__law_test : Has P w K mg base 2 "_law_test" ["_law_cells", "_law_sure"] sp_test)
    (h_length_of : Has P w K mg base 6 "length_of" ["test"] sp_length_of) (h__law_due : Has P w K mg base 2 "_law_due" ["_law_thing"] sg_due) (h__law_told : Has P w K mg base 9 "_law_told" ["_law_way", "_law_thing"] sg_told) (h__law_bent : Has P w K mg base 1 "_law_bent" ["_law_test_here", "_law_d"] sp_bent)
    {f : Addr} {fd : FuncData} (F : Fun K "law" "law" s_law f fd) : FnOk P w K mg base CX0 10 f fd ["_law_script"] (sp_law K) := by
  refine Fun.okQ F sc_law (fun vs H Q E h => ?_) (fun cdv A outer s H vs Q E hr h => ?_)
  · obtain ⟨a, ns, rfl, _⟩ := h
    rfl
  · obtain ⟨a, ns, rfl, hS, hnl, k⟩ := h
    have hsl : (sizeLine : Nat) = 16777216 := sizeLine_eq
    have sc := sc_law
    refine ⟨_, (qss_litQ rfl (qss_cons (qs_setE (i := 1) sc.nd rfl (Or.inl rfl) (qe_callH h__law_test hr (qa_sb (qe_sl sl_list (qe_op op_cat (qe_sl sl_list (qe_of (pv 0)) po_none (po_some pe_int)) (qe_lst (qa_cs (qe_of pe_int) qa_nil))) po_none (po_some (pe_callB (call_max2 rfl) rfl (B.of rfl) boot_max (pa_cons pe_int (pa_cons (pe_callB (call_min2 rfl) rfl (B.of rfl) boot_min (pa_cons pe_int (pa_cons (pe_callB call_len_seq rfl (B.of rfl) boot_len (pa_cons (pv 0) pa_nil)) pa_nil))) pa_nil))))) (qa_cs (qe_of pe_bl) qa_nil))))
      (qss_cons (qs_ifT (QW.pt (qw_or (qt_cmpR op_ne (qe_callH h_length_of hr (qa_nm (qe_of (pv 1)) qa_nil)) (qe_callB (call_sumL rfl) rfl (B.of rfl) boot_sum (qa_lc (qe_of (pe_comp rfl (compOk_of rfl) (M := ["_law_order", "_law_steps"]) (ix := [none, none]) (pi_list (pv 1)) (fun _ _ _ _ => (pg_tupK (K := K) (n := 2) rfl rfl (pgs_cons (pg_name (i := 0) (show List.Nodup (["_law_order", "_law_steps"] : List Str) by decide +kernel) rfl (Or.inl rfl)) (pgs_cons (pg_name (i := 1) (show List.Nodup (["_law_order", "_law_steps"] : List Str) by decide +kernel) rfl (Or.inl rfl)) pgs_nil)))) (fun _ _ _ _ => pts_nil) (fun _ _ _ _ => (pe_callB (call_len_seqK (K := K) rfl) rfl (B.of rfl) boot_len (pa_cons (pv 1) pa_nil))))) qa_nil)) (nomark _)) (qw_or1 (qt_valC (qe_callB call_isi rfl (B.of rfl) boot_isinstance (qa_cl (qe_callH h_length_of hr (qa_nm (qe_of (pv 1)) qa_nil)) (qa_nm (qe_of (pe_bltn (v := .ty "bool") rfl (B.of rfl) boot_bool rfl)) qa_nil)))))))
        (qss_one (qs_retE (qe_of pe_bl)))
        qss_nil)
      (qss_cons (qs_for PassesOwn.never rfl (qi_of (pi_range1 rfl (B.of rfl) (pa_cons pe_int pa_nil))) (pg_name (i := 2) sc.nd rfl (Or.inl rfl))
        (qss_cons (qs_setE (i := 3) sc.nd rfl (Or.inl rfl) (qe_callH h__law_digits hr (qa_cl (qe_callH h__law_cell_at hr (qa_nm (qe_of (pv 0)) (qa_bo (qe_op op_add (qe_of pe_int) (qe_of (pv 2))) qa_nil))) (qa_nm (qe_of (pv 2)) (qa_ls (qe_lst (qa_cs (qe_of pe_int) (qa_cs (qe_of pe_int) (qa_cs (qe_of pe_int) (qa_cs (qe_of pe_int) (qa_cs (qe_of pe_int) (qa_cs (qe_of pe_int) (qa_cs (qe_of pe_int) qa_nil)))))))) qa_nil)))))
        (qss_cons (qs_setE (i := 4) sc.nd rfl (Or.inl rfl) (qe_callH h__law_bent hr (qa_nm (qe_of (pv 1)) (qa_sb (qe_sl sl_list (qe_of (pv 3)) po_none (po_some pe_int)) qa_nil))))
        (qss_cut (qs_ifT (QW.pt (qw_and (qt_cmpR op_eq (qe_ix ix_list (qe_of (pv 3)) (qe_of pe_int) (fun _ _ => rfl)) (qe_of pe_int) (nomark _)) (qw_and1 (qt_cmpR op_lt (qe_ix ix_list (qe_of (pv 3)) (qe_of pe_int) (fun _ _ => rfl)) (qe_of pe_int) (nomark _)))))
          (qss_one (qs_setE (i := 4) sc.nd rfl (Or.inl rfl) (qe_mid (qe_ifExp (qt_cmpR op_gt (qe_callB call_len_seq rfl (B.of rfl) boot_len (qa_sb (qe_ix ix_seq (qe_ix ix_list (qe_of (pv 4)) (qe_op op_mod (qe_ix ix_list (qe_of (pv 3)) (qe_of pe_int) (fun _ _ => rfl)) (qe_callB call_len_seq rfl (B.of rfl) boot_len (qa_nm (qe_of (pv 4)) qa_nil))) (fun _ _ => rfl)) (qe_of pe_int) (fun _ _ => rfl)) qa_nil)) (qe_of pe_int) (nomark _)) (qe_callH h__law_bent hr (qa_nm (qe_of (pv 4)) (qa_ls (qe_lst (qa_sb (qe_ix ix_list (qe_of (pv 3)) (qe_of pe_int) (fun _ _ => rfl)) (qa_cs (qe_of pe_int) (qa_sb (qe_ix ix_list (qe_of (pv 3)) (qe_of pe_int) (fun _ _ => rfl)) qa_nil)))) qa_nil))) (qe_of (pv 4))))))
          qss_nil)
        (qss_cons (qs_setE (i := 5) sc.nd rfl (Or.inl rfl) (qe_of (pe_callB (call_reprX hr) rfl (B.of rfl) boot_repr (pa_cons (pv 4) pa_nil))))
        (qss_one (qs_for PassesOwn.never rfl (qi_of (pi_range1 rfl (B.of rfl) (pa_cons pe_int pa_nil))) (pg_name (i := 6) sc.nd rfl (Or.inl rfl))
          (qss_one (qs_ifT (QW.pt (qw_or (qt_cmpR (op_neD hr) (qe_callH h__law_told hr (qa_nm (qe_of (pv 6)) (qa_nm (qe_of (pv 4)) qa_nil))) (qe_callH h__law_due hr (qa_nm (qe_of (pv 4)) qa_nil)) (nomark _)) (qw_or1 (qt_cmpR op_ne (qe_of (pe_callB (call_reprX hr) rfl (B.of rfl) boot_repr (pa_cons (pv 4) pa_nil))) (qe_of (pv 5)) (nomark _)))))
            (qss_one (qs_retE (qe_of pe_bl)))
            qss_nil)))))))))
      (qss_cons (qs_setE (i := 7) sc.nd rfl (Or.inl rfl) (qe_ix ix_seq (qe_ix ix_list (qe_of (pv 1)) (qe_of pe_int) (fun _ _ => rfl)) (qe_of pe_int) (fun _ _ => rfl)))
      (qss_cons (qs_setE (i := 8) sc.nd rfl (Or.inl rfl) (qe_ix ix_list (qe_of (pv 7)) (qe_of pe_int) (fun _ _ => rfl)))
      (qss_cons (qs_for PassesOwn.never rfl (qi_list (qe_lst (qa_tp (qe_tup (qa_cs (qe_of pe_str) (qa_cs (qe_of pe_int) qa_nil))) (qa_nm (qe_of (pv 8)) (qa_tp (qe_tup (qa_cs (qe_of pe_str) (qa_cs (qe_of pe_non) qa_nil))) (qa_nm (qe_of (pv 8)) qa_nil)))))) (pg_name (i := 9) sc.nd rfl (Or.inl rfl))
        (qss_cons (qs_asg (qe_of (pv 9)) (pg_sub (pv 7) pe_int set_list))
        (qss_one (qs_ifT (qt_cmpR (op_neD hr) (qe_callH h__law_told hr (qa_cs (qe_of pe_int) (qa_nm (qe_of (pv 1)) qa_nil))) (qe_callH h__law_due hr (qa_nm (qe_of (pv 1)) qa_nil)) (nomark _))
          (qss_one (qs_retE (qe_of pe_bl)))
          qss_nil))))
      (qss_one (qs_retE (qe_of pe_bl)))))))))), ?_⟩
    refine ⟨_, rfl, _, rfl, a, _, rfl, hS, fun c1 h1 => ?_⟩
    generalize hG1 : upd H c1 _ = H1
    have s1 : Same H H1 := by rw [← hG1]; exact (Same.refl H).upd h1
    have f1 : H1 c1 = some (.lst ((ns.take 8).map V.int)) := by
      rw [← hG1]
      refine upd_same.trans ?_
      rw [show cutV (ns.map V.int) none (some 8) = (ns.map V.int).take 8 from cut_take 8, List.map_take]
    have z1 : 1 ≤ sizeLine := by decide
    refine ⟨z1, fun c2 h2 => ?_⟩
    generalize hG2 : upd H1 c2 _ = H2
    have s2 : Same H1 H2 := by rw [← hG2]; exact (Same.refl H1).upd h2
    have f2 : H2 c2 = some (.lst [.int 0]) := by rw [← hG2]; exact upd_same
    refine ⟨c1, c2, _, _, rfl, rfl, s2 _ _ f1, f2, by rw [List.length_map, List.length_take]; simp; omega, fun c3 h3 => ?_⟩
    generalize hG3 : upd H2 c3 _ = H3
    have s3 : Same H2 H3 := by rw [← hG3]; exact (Same.refl H2).upd h3
    have f3 : H3 c3 = some (.lst ((ns.take 8 ++ [0]).map V.int)) := by rw [← hG3]; refine upd_same.trans ?_; rw [List.map_append]; rfl
    have s03 := (s1.trans s2).trans s3
    refine ⟨_, rfl, a, _, rfl, .inl (s03.seq hS), _, _, rfl, _, _, rfl, _, rfl, c3, _, rfl, SqL.of f3, fun c4 h4 => ?_⟩
    obtain ⟨cs, hcs, hc1, hc8⟩ : ∃ cs : List Int, cutV ((ns.take 8 ++ [0]).map V.int) none (some (if (if ((ns.map V.int).length : Int) < 8 then ((ns.map V.int).length : Int) else 8) > 1 then (if ((ns.map V.int).length : Int) < 8 then ((ns.map V.int).length : Int) else 8) else 1)) = cs.map V.int ∧ 1 ≤ cs.length ∧ cs.length ≤ 8 := by
      have ek : (if (if ((ns.map V.int).length : Int) < 8 then ((ns.map V.int).length : Int) else 8) > 1 then (if ((ns.map V.int).length : Int) < 8 then ((ns.map V.int).length : Int) else 8) else 1) = ((max 1 (min 8 ns.length) : Nat) : Int) := by
        rw [List.length_map]
        split <;> split at * <;> omega
      refine ⟨(ns.take 8 ++ [0]).take (max 1 (min 8 ns.length)), by rw [ek, cut_take, List.map_take], ?_, ?_⟩
      · rw [List.length_take, List.length_append, List.length_singleton]; omega
      · rw [List.length_take, List.length_append, List.length_singleton]; omega
    generalize hG4 : upd H3 c4 _ = H4
    have s4 : Same H3 H4 := by rw [← hG4]; exact (Same.refl H3).upd h4
    have f4 : H4 c4 = some (.lst (cs.map V.int)) := by rw [← hG4, ← hcs]; exact upd_same
    refine ⟨c4, cs, false, rfl, f4, hc1, hc8, fun tp T0 H5 s5 ntp hT0 okT0 hTl => ?_⟩
    have s05 := (s03.trans s4).trans s5
    obtain ⟨tp', us0, e0, htp, hus⟩ := id hT0.lstEq
    cases e0
    have husl := hus.length
    rw [List.length_map] at husl
    obtain ⟨t1, t8, te⟩ := id okT0
    refine ⟨_, rfl, _, T0, rfl, hT0, okT0, fun H6 s6 => ?_⟩
    refine ⟨_, rfl, tp, rfl, ⟨_, SqL.of (s6 _ _ htp)⟩, fun D hD => comp_by (n := us0.length) (fun i H' => Same H6 H' ∧ H' D = some (.lst (((T0.take i).map fun e => (e.2.length : Int)).map V.int))) ⟨(Same.refl H6).upd hD, upd_same⟩ ?_ ?_⟩
    rotate_left
    · rintro i H7 hi ⟨s7, e7⟩
      refine ⟨⟨_, _, SqL.of (s7 _ _ (s6 _ _ htp)), List.getElem?_eq_getElem hi⟩, ?_⟩
      rintro x H8 ⟨rfl, hx⟩
      obtain ⟨dd, hdd, hat⟩ := hus.get (hx _ (SqL.of (s7 _ _ (s6 _ _ htp))))
      obtain ⟨e, he, rfl⟩ := map_get hdd
      obtain ⟨ae, le, we, rfl, hae, hle, hwe⟩ := elem_at (hat.same (s6.trans s7))
      have hwel := hwe.length
      rw [List.length_map] at hwel
      refine ⟨ae, _, rfl, SqT.of hae, rfl, _, _, rfl, _, _, rfl, rfl, ?_⟩
      refine ⟨KeepS.set (KeepS.set (KeepS.refl _) rfl) rfl, yes ?_⟩
      refine ⟨_, rfl, le, _, rfl, .inl (SqL.of hle), _, e7, sl_lt (by rw [List.length_map, List.length_map, List.length_take]; omega), s7.at hD, ?_⟩
      rw [upd_same, List.take_add_one, he, hwel]
      simp
    rintro H7 ⟨s7, e7⟩
    rw [husl, List.take_length] at e7
    refine ⟨⟨_, SqL.of (s7 _ _ (s6 _ _ htp)), Nat.le_refl _⟩, D, _, rfl, e7, ?_⟩
    rw [steps_sum]
    refine ⟨rfl, _, rfl, iteN (by simp) ?_⟩
    have s57 := s6.trans s7
    refine ⟨_, rfl, _, T0, rfl, hT0.same s57, okT0, fun H8 s8 => ⟨_, _, _, _, rfl, .int _, rfl, _, rfl, iteN rfl ?_⟩⟩
    have s58 := s57.trans s8
    have s08 := s05.trans s58
    have hT8 := hT0.same s58
    obtain ⟨F0, eF, okF0⟩ := fr_test okT0
    refine ⟨8, rfl, by decide, by decide, for_range (n := 8) (fun i σ H' => ∃ (q2 q3 q4 q5 q6 : Option V), σ = [some (.ref a), some (.ref tp), q2, q3, q4, q5, q6, none, none, none] ∧ Same H8 H') ⟨none, none, none, none, none, rfl, Same.refl H8⟩ ?_ ?_⟩
    · rintro i σ H9 hi ⟨q2, q3, q4, q5, q6, rfl, s9⟩
      rw [Int.zero_add]
      have z7 : 7 ≤ sizeLine := by decide
      refine ⟨_, rfl, _, rfl, _, _, rfl, rfl, a, ns, 8 + i, by simp, (s08.trans s9).seq hS, fun cc => ?_⟩
      refine ⟨_, rfl, z7, fun y1 hy1 => ?_⟩
      generalize hM1 : upd H9 y1 _ = M1
      have v1 : Same H9 M1 := by rw [← hM1]; exact (Same.refl H9).upd hy1
      have w1 : M1 y1 = some (.lst (([8, 6, 37, 8, 6, 29, 3] : List Int).map V.int)) := by rw [← hM1]; exact upd_same
      refine ⟨cc, i, y1, _, rfl, w1, by decide, by decide, by omega, by omega, fun dd ds M2 v2 nd hdd hD => ?_⟩
      obtain ⟨d0, g0, m0, n0⟩ := hD.get (i := 0) (z := 8) rfl
      obtain ⟨d1, g1, m1, n1⟩ := hD.get (i := 1) (z := 6) rfl
      obtain ⟨d2, g2, m2, n2⟩ := hD.get (i := 2) (z := 37) rfl
      obtain ⟨d3, g3, m3, n3⟩ := hD.get (i := 3) (z := 8) rfl
      obtain ⟨d5, g5, m5, n5⟩ := hD.get (i := 5) (z := 29) rfl
      obtain ⟨d6, g6, m6, n6⟩ := hD.get (i := 6) (z := 3) rfl
      have s2 := v1.trans v2
      have sM2 := s9.trans s2
      refine ⟨_, rfl, _, rfl, _, rfl, dd, _, rfl, SqL.of hdd, fun y2 hy2 => ?_⟩
      generalize hM3 : upd M2 y2 _ = M3
      have v3 : Same M2 M3 := by rw [← hM3]; exact (Same.refl M2).upd hy2
      have w3 : M3 y2 = some (.lst [.int d0, .int d1, .int d2]) := by
        rw [← hM3]
        refine upd_same.trans ?_
        rw [show cutV (ds.map V.int) none (some 3) = (ds.map V.int).take 3 from cut_take 3, ← List.map_take]
        rw [show ds.take 3 = [d0, d1, d2] by
          match ds, g0, g1, g2 with
          | x :: y :: z :: r, rfl, rfl, rfl => rfl]
        rfl
      have sM3 := sM2.trans v3
      refine ⟨.ref tp, F0, y2, d0, d1, d2, rfl, by rw [← eF]; exact hT8.same sM3, okF0, w3, m2, n2, fun r db M4 v4 hr4 hsm hsh => ?_⟩
      have sM4 := sM3.trans v4
      have hd4 := (v3.trans v4) _ _ hdd
      refine ⟨fun σ' HX => ∃ rb db', σ' = [some (.ref a), some (.ref tp), some (.int i), some (.ref dd), some rb, q5, q6, none, none, none] ∧ Same H8 HX ∧ AtX HX rb db' ∧ Sm 10 50000 db', ?_, ?_⟩
      · refine ⟨_, rfl, dd, _, _, _, rfl, rfl, SqL.of hd4, atI_lit 6 (get_int g6), rfl, _, rfl, ?_⟩
        by_cases h6 : d6 = 0
        rotate_left
        · exact iteN (decide_eq_false (by intro z; exact h6 (V.int.inj z))) (iteF ⟨r, db, rfl, sM4, hr4, hsm⟩)
        refine iteB (decide_eq_true (by rw [h6])) ?_
        refine ⟨_, rfl, dd, _, _, _, rfl, rfl, SqL.of hd4, atI_lit 2 (get_int g2), _, _, rfl, rfl, _, rfl, ?_⟩
        by_cases h16 : d2 < 16
        rotate_left
        · exact iteDN h16 ⟨r, db, rfl, sM4, hr4, hsm⟩
        refine iteD h16 ?_
        obtain ⟨F', rfl, okF'⟩ := hsh h16
        have ar : At M4 r (frD F') := by
          rcases hr4 with h | ⟨e, _⟩
          · exact h
          · cases e
        obtain ⟨lb, wb, rfl, hlb, hwb⟩ := id ar.lstEq
        have hwbl := hwb.length
        rw [List.length_map] at hwbl
        obtain ⟨f1, f8, fe⟩ := id okF'
        refine ⟨fun v HX => ∃ db', Same H8 HX ∧ AtX HX v db' ∧ Sm 10 50000 db', ?_, fun v HX ⟨db', z1, z2, z3⟩ => ⟨v, db', rfl, z1, z2, z3⟩⟩
        obtain ⟨kk, hkk, hkl⟩ : ∃ k : Nat, d3 % (wb.length : Int) = (k : Int) ∧ k < F'.length := by
          have h1 := Int.emod_nonneg d3 (b := (wb.length : Int)) (by omega)
          have h2 := Int.emod_lt_of_pos d3 (b := (wb.length : Int)) (by omega)
          exact ⟨(d3 % (wb.length : Int)).toNat, by omega, by omega⟩
        obtain ⟨vk, hvk, hak⟩ := hwb.getD (i := kk) (d := frE F'[kk]) (by rw [List.getElem?_map, List.getElem?_eq_getElem hkl]; rfl)
        obtain ⟨p1, p2, p3, p4⟩ := fe _ (List.getElem_mem hkl)
        generalize F'[kk] = ek at hak p1 p2 p3 p4
        obtain ⟨ae, ve, rfl, hae, hwe⟩ := hak.tupEq
        cases hwe with
        | cons x1 rr =>
        cases rr with
        | cons x2 rr =>
        cases rr
        obtain ⟨le, we, rfl, hle, hwle⟩ := x2.lstEq
        have hwel := hwle.length
        refine ⟨_, rfl, _, rfl, dd, _, _, _, rfl, rfl, SqL.of hd4, atI_lit 3 (get_int g3), _, rfl, lb, _, rfl, .inl (SqL.of hlb), _, _, rfl, rfl, by omega, lb, _, _, _, rfl, rfl, SqL.of hlb, (by show atI wb (d3 % (wb.length : Int)) = some _; rw [hkk]; exact atI_nat hvk), ?_⟩
        refine .inr (.inl ⟨ae, _, _, _, rfl, rfl, SqT.of hae, atI_lit 1 rfl, le, _, rfl, .inl (SqL.of hle), _, _, rfl, rfl, _, rfl, ?_⟩)
        refine iteD (by omega) ?_
        refine ⟨_, rfl, _, rfl, dd, _, _, _, rfl, rfl, SqL.of hd4, atI_lit 3 (get_int g3), _, rfl, dd, _, _, _, rfl, rfl, SqL.of hd4, atI_lit 5 (get_int g5), (by show 3 ≤ sizeLine; decide), fun y5 hy5 => ?_⟩
        generalize hM5 : upd M4 y5 _ = M5
        have v5 : Same M4 M5 := by rw [← hM5]; exact (Same.refl M4).upd hy5
        have w5 : M5 y5 = some (.lst [.int d3, .int 0, .int d5]) := by rw [← hM5]; exact upd_same
        exact ⟨.ref lb, F', y5, d3, 0, d5, rfl, ar.same v5, okF', w5, m5, by omega, fun r2 db2 M6 v6 hr6 hsm6 _ => ⟨db2, (sM4.trans v5).trans v6, hr6, hsm6⟩⟩
      · rintro σ' HX ⟨rb, db', rfl, sX, hX, smX⟩
        obtain ⟨n1', n2', n3'⟩ := smX.shown
        refine ⟨_, rfl, rb, db', rfl, hX, n1', n2', n3', ?_⟩
        refine ⟨6, rfl, by decide, by decide, for_range (n := 6) (fun j σ H' => ∃ q6, σ = [some (.ref a), some (.ref tp), some (.int i), some (.ref dd), some rb, some (.str db'.shown), q6, none, none, none] ∧ Same HX H') ⟨q6, rfl, Same.refl HX⟩ ?_ ?_⟩
        · rintro j σ HY hj ⟨q6, rfl, sY⟩
          rw [Int.zero_add]
          refine ⟨_, rfl, _, rfl, j, rb, db', rfl, hj, hX.same sY, fun r1 N1 u1 a1 => ?_⟩
          refine ⟨_, rfl, rb, db', rfl, hX.same (sY.trans u1), fun r2 N2 u2 a2 => ?_⟩
          refine ⟨_, _, a1.same u2, a2, (tv_lay _).1, (tv_lay _).1, (tv_lay _).2, _, rfl, iteN (tv_ne _) ?_⟩
          have sN := (sY.trans u1).trans u2
          refine ⟨_, rfl, rb, db', rfl, hX.same sN, n1', n2', n3', _, rfl, rfl, _, rfl, iteN (by simp) ⟨_, rfl, sN⟩⟩
        · rintro σ HY ⟨q6', rfl, sY⟩
          exact ⟨_, _, _, _, _, rfl, sX.trans sY⟩
    · rintro σ H9 ⟨q2, q3, q4, q5, q6, rfl, s9⟩
      have s59 := s58.trans s9
      have z2 : 2 ≤ sizeLine := by decide
      have hT9 := hT0.same s59
      obtain ⟨u0, hu0⟩ : ∃ u0, us0[0]? = some u0 := ⟨us0[0]'(by omega), List.getElem?_eq_getElem _⟩
      have hall : ∀ u ∈ us0, EAt H9 u := fun u hu => by
        obtain ⟨j, hj⟩ := List.getElem?_of_mem hu
        obtain ⟨d, hd, hat⟩ := hus.get hj
        obtain ⟨e, _, rfl⟩ := map_get hd
        exact elem_EAt (hat.same s59)
      obtain ⟨d, hd, hat⟩ := hus.get hu0
      obtain ⟨e0, he0, rfl⟩ := map_get hd
      obtain ⟨a0, l0, w0, rfl, ha0, hl0, hw0⟩ := elem_at (hat.same s59)
      have hw0l := hw0.length
      rw [List.length_map] at hw0l
      have oke := te e0 (List.mem_of_getElem? he0)
      have h01 := oke.2.1
      have hfs : ∀ x ∈ w0, FS H9 x := fun x hx => by
        obtain ⟨j, hj⟩ := List.getElem?_of_mem hx
        obtain ⟨d, hd, hat⟩ := hw0.get hj
        obtain ⟨s, _, rfl⟩ := map_get hd
        exact step_FS hat
      have htp9 := s59 _ _ htp
      have ntl : tp ≠ l0 := fun z => by
        subst z
        rw [htp9] at hl0
        cases hl0
        exact FS_noE (hfs _ (List.mem_of_getElem? hu0)) (hall _ (List.mem_of_getElem? hu0))
      have hTA : TAt H9 tp l0 us0 := ⟨htp9, hall, ntl⟩
      obtain ⟨x0, hx0⟩ : ∃ x0, w0[0]? = some x0 := ⟨w0[0]'(by omega), List.getElem?_eq_getElem _⟩
      have fx0 := hfs x0 (List.mem_of_getElem? hx0)
      refine ⟨_, rfl, tp, _, _, _, rfl, rfl, SqL.of htp9, atI_lit 0 hu0, .inr (.inl ⟨a0, _, _, _, rfl, rfl, SqT.of ha0, atI_lit 1 rfl, ?_⟩)⟩
      refine ⟨_, rfl, l0, _, _, _, rfl, rfl, SqL.of hl0, atI_lit 0 hx0, ?_⟩
      refine ⟨z2, fun p1 hp1 => ?_⟩
      generalize hG1 : upd H9 p1 _ = N1
      have c1 : Same H9 N1 := by rw [← hG1]; exact (Same.refl H9).upd hp1
      have o1 : FS N1 (.ref p1) := ⟨p1, _, _, rfl, by rw [← hG1]; exact upd_same, ⟨_, fun _ => .str _⟩, ⟨_, fun _ => .int _⟩⟩
      refine ⟨_, rfl, z2, fun p2 hp2 => ?_⟩
      generalize hG2 : upd N1 p2 _ = N2
      have c2 : Same N1 N2 := by rw [← hG2]; exact (Same.refl N1).upd hp2
      have o2 : FS N2 (.ref p2) := ⟨p2, _, _, rfl, by rw [← hG2]; exact upd_same, ⟨_, fun _ => .str _⟩, ⟨_, fun _ => .non⟩⟩
      refine ⟨_, rfl, (by show 4 ≤ sizeLine; decide), fun p3 hp3 => ?_⟩
      have n3 : p3 ≠ l0 := (ne_of_none (c2 _ _ (c1 _ _ hl0)) hp3).symm
      generalize hG3 : upd N2 p3 _ = N3
      have c3 : Same N2 N3 := by rw [← hG3]; exact (Same.refl N2).upd hp3
      have o3 : N3 p3 = some (.lst [.ref p1, x0, .ref p2, x0]) := by rw [← hG3]; exact upd_same
      have c03 := (c1.trans c2).trans c3
      refine ⟨p3, rfl, ⟨_, SqL.of o3⟩, for_list (xs := [.ref p1, x0, .ref p2, x0]) (fun j σ H' => ∃ q9 ws', σ = [some (.ref a), some (.ref tp), q2, q3, q4, q5, q6, some (.ref l0), some x0, q9] ∧ H' l0 = some (.lst ws') ∧ 0 < ws'.length ∧ (∀ x ∈ ws', FS H' x) ∧ TAt H' tp l0 us0 ∧ H' p3 = some (.lst [.ref p1, x0, .ref p2, x0]) ∧ FS H' (.ref p1) ∧ FS H' (.ref p2) ∧ FS H' x0)
        ⟨none, w0, rfl, c03 _ _ hl0, by omega, fun x hx => (hfs x hx).same c03, hTA.same c03, o3, (o1.same c2).same c3, o2.same c3, fx0.same c03⟩ (fun j σ H' _ ⟨_, _, _, _, _, _, _, h, _⟩ => SqL.of h) ?_ ?_⟩
      · rintro j x σ H' hx ⟨q9, ws', rfl, hl', hp', hf', ht', h3', fp1, fp2, f0'⟩
        have fx : FS H' x := by
          match j, hx with
          | 0, hx => cases hx; exact fp1
          | 1, hx => cases hx; exact f0'
          | 2, hx => cases hx; exact fp2
          | 3, hx => cases hx; exact f0'
          | j + 4, hx => simp at hx
        refine ⟨_, rfl, _, rfl, l0, ws', 0, 0, rfl, rfl, hl', by unfold ixN; rw [if_pos (by decide), if_pos (by omega)]; rfl, ?_⟩
        have hw' : ∀ y ∈ ws'.set 0 x, FS H' y := fun y hy => by
          rcases List.mem_or_eq_of_mem_set hy with hy | rfl
          · exact hf' y hy
          · exact fx
        have ht2 := ht'.put hl' hw'
        have k1 : upd H' l0 (.lst (ws'.set 0 x)) l0 = some (.lst (ws'.set 0 x)) := upd_same
        have k2 : upd H' l0 (.lst (ws'.set 0 x)) p3 = some (.lst [.ref p1, x0, .ref p2, x0]) := by rw [upd_ne n3]; exact h3'
        have k3 := fun y (hy : FS H' y) => hy.upd (ws' := ws'.set 0 x) hl'
        revert ht2 k1 k2 k3
        generalize upd H' l0 (.lst (ws'.set 0 x)) = N4
        intro ht2 k1 k2 k3
        obtain ⟨dt, hdt⟩ := ht2.at
        refine ⟨_, rfl, 0, .ref tp, dt, rfl, by decide, .inl hdt, fun r1 N5 u1 a1 => ?_⟩
        refine ⟨_, rfl, .ref tp, dt, rfl, .inl (hdt.same u1), fun r2 N6 u2 a2 => ?_⟩
        have u12 := u1.trans u2
        refine ⟨_, _, a1.same u2, a2, (tv_lay _).1, (tv_lay _).1, (tv_lay _).2, _, rfl, iteN (tv_ne _) ?_⟩
        exact ⟨_, ws'.set 0 x, rfl, u12 _ _ k1, by rw [List.length_set]; exact hp', fun y hy => (k3 y (hw' y hy)).same u12, ht2.same u12, u12 _ _ k2, (k3 _ fp1).same u12, (k3 _ fp2).same u12, (k3 _ f0').same u12⟩
      · rintro σ H' _
        exact k _
end
end Mm
set_option Elab.async false
set_option linter.all false
set_option maxRecDepth 100000
set_option maxHeartbeats 4000000
namespace Mm
open PySem L2 PyProof.Rows Mx
section
variable {P : Program} {w : World} {K : PySem.W.Frag} {mg : Str → Option Value} {base : Heap}
abbrev s_iTest : Stmt := inClass (top 2) 0
theorem sc_iTest : FnScope ["self", "element", "step"] ["self", "element", "step"] (defScope s_iTest) := ⟨rfl, rfl, rfl, by decide +kernel, rfl, by decide +kernel, by decide +kernel⟩
theorem ok_iTest {f C : Addr} {fd : FuncData} (F : Fun K "__init__" "NoTest.__init__" s_iTest f fd) (c : XOk K C) (n1 : NoF K C "element") (n2 : NoF K C "step") : FnOk P w K mg base CX0 1 f fd ["self", "element", "step"] (sp_x2 C "element" "step") := by
  refine F.ok sc_iTest (fun vs H Q E h => ?_) (fun cdv A outer s H vs Q E hr h => ?_)
  · obtain ⟨a, v, u, rfl, _⟩ := h
    rfl
  · obtain ⟨a, v, u, rfl, hx, k⟩ := h
    have sc := sc_iTest
    refine ⟨_, (pss_cons (ps_xfld (pv 0) (pv 1)) (pss_one (ps_xfld (pv 0) (pv 2)))), ?_⟩
    refine ⟨_, rfl, _, rfl, a, C, none, [], rfl, hx, c, n1, by decide, fun d H1 x1 s1 => ?_⟩
    refine ⟨_, rfl, _, rfl, a, C, some d, _, rfl, x1, c, n2, by show 1 < 100; decide, fun d2 H2 x2 s2 => ?_⟩
    obtain ⟨e, s3⟩ := s1.then2 s2
    subst e
    exact k _ H2 x2 s3
end
end Mm
set_option Elab.async false
set_option linter.all false
set_option maxRecDepth 100000
namespace Mm
open PySem L2 PyProof.Rows
open Mx
def xcO (o : Obj) (C : Addr) : Option (List Value) := match o with
  | ⟨.type "type", _, .cls cd, sl⟩ => (match cd.mro, sl.toList with
    | .ref D :: bm, [_, _, _, _, some (.builtin n), _] => if (D == C && n == "ValueError.__new__" && !cd.hasDel && cd.hasDict) = true then some bm else none
    | _, _ => none)
  | _ => none
theorem xcO_is {o : Obj} {C : Addr} {bm : List Value} (q : xcO o C = some bm) : ∃ od cd sl k0 k1 k2 k3 k5, o = ⟨.type "type", od, .cls cd, sl⟩ ∧ cd.mro = .ref C :: bm ∧ sl.toList = [k0, k1, k2, k3, some (.builtin "ValueError.__new__"), k5] ∧ cd.hasDel = false ∧ cd.hasDict = true := by
  unfold xcO at q
  split at q
  · rename_i od cd sl
    split at q
    · rename_i D bm' n k0 k1 k2 k3 n' k5 h1 h2
      split at q
      · rename_i h3
        cases q
        simp only [Bool.and_eq_true, beq_iff_eq, Bool.not_eq_true'] at h3
        obtain ⟨⟨⟨rfl, rfl⟩, h5⟩, h6⟩ := h3
        exact ⟨od, cd, sl, _, _, _, _, _, rfl, h1, h2, h5, h6⟩
      · cases q
    · cases q
  · cases q
theorem tail_of_exc {K : PySem.W.Frag} {o : Obj} {C : Addr} {bm : List Value} (l : K.lookup C = some o) (q : xcO o C = some bm) (e : PySem.W.excIn K C bmV "ValueError.__new__" = true) : PySem.W.tailIn K bmV bm = true := by
  obtain ⟨od, cd, sl, k0, k1, k2, k3, k5, rfl, h1, h2, h5, h6⟩ := xcO_is q
  unfold PySem.W.excIn at e
  rw [l] at e
  simp only [h1, h2, Bool.and_eq_true] at e
  exact e.1.1.2
theorem xclsB_of {K : PySem.W.Frag} {o : Obj} {C : Addr} {bm : List Value} (l : K.lookup C = some o) (q : xcO o C = some bm) (t : PySem.W.tailIn K bmV bm = true) : xclsB K C = true := by
  obtain ⟨od, cd, sl, k0, k1, k2, k3, k5, rfl, h1, h2, h5, h6⟩ := xcO_is q
  unfold xclsB
  rw [l]
  simp only [h1, h2, h5, h6, t]
  simp
theorem xok_of {K : PySem.W.Frag} {o : Obj} {C : Addr} {bm : List Value} (l : K.lookup C = some o) (q : xcO o C = some bm) (t : PySem.W.tailIn K bmV bm = true) (ga : PySem.W.findIn K (.ref C) "__getattribute__" = some (some (.builtin "BaseException.__getattribute__"))) (gh : PySem.W.findIn K (.ref C) "__getattr__" = some none)
    (ha : PySem.W.findIn K (.ref C) "__class__" = some (some (.builtin "object.__class__"))) (hn : PySem.W.specialIn K (.builtin "object.__class__") "__get__" = some (some (.builtin "getset_descriptor.__get__"))) (tk : PySem.W.takesIn K (.builtin "object.__class__") = some true) (hm : PySem.W.mroIn K C (.type "object") = some true)
    (sa : PySem.W.findIn K (.ref C) "__setattr__" = some (some (.builtin "object.__setattr__"))) : XOk K C := by
  refine ⟨⟨xclsB_of l q t, ga, gh, ?_, ha, hn, tk, hm⟩, sa⟩
  obtain ⟨od, cd, sl, k0, k1, k2, k3, k5, rfl, h1, h2, h5, h6⟩ := xcO_is q
  unfold PySem.W.clsIn
  rw [l]
  rfl
theorem fnAt_mk {K : PySem.W.Frag} {h : Heap} {mg : Str → Option Value} {x : Str} {st : Stmt} {ps : List Str} {f : Addr} {oc : Value} {od an : Option Addr} {osl : Array (Option Value)} {kV doc pm cdv ct : Value} (X : K.In h) (G : h.Ns mainGlobals mg)
    (a : PySem.W.nsIn K mainGlobals x = some (some (.ref f))) (l : K.lookup f = some ⟨oc, od, .func (PySem.W.fnOf x x (defArgs st) (defBody st) (defScope st) .none kV doc pm an cdv ct), osl⟩) (c : PySem.W.codeIn K cdv x = true) (k : PySem.W.keepIn K (.ref f) = true)
    (hb : ∀ (kV doc pm : Value) (an : Option Addr) (cdv ct : Value) (us : List Value), us.length = ps.length → bindArgs (PySem.W.fnOf x x (defArgs st) (defBody st) (defScope st) .none kV doc pm an cdv ct) ⟨us, []⟩ = pure (ps.zip us)) : FnAt K mg x st ps := by
  have F := fun_mk (st := st) l c k
  exact ⟨f, _, PySem.W.mg_of X G a, F, F.binds hb⟩
set_option maxHeartbeats 0 in
theorem all_mk {l : PySem.W.OpenLaw} {w : World} {K : PySem.W.Frag} {h : Heap} {mg : Str → Option Value} {fa : Addr} (X : K.In h) (G : h.Ns mainGlobals mg) (hfa : mg "law" = some (.ref fa))
    {f0 : Addr} {od0 an0 : Option Addr} {sl0 : Array (Option Value)} {oc0 kV0 dc0 pm0 cd0 ct0 : Value}
    (a0 : PySem.W.nsIn K mainGlobals "is_whole" = some (some (.ref f0)))
    (l0 : K.lookup f0 = some ⟨oc0, od0, .func (PySem.W.fnOf "is_whole" "is_whole" (defArgs s_is_whole) (defBody s_is_whole) (defScope s_is_whole) .none kV0 dc0 pm0 an0 cd0 ct0), sl0⟩)
    (c0 : PySem.W.codeIn K cd0 "is_whole" = true)
    (k0 : PySem.W.keepIn K (.ref f0) = true)
    {f1 : Addr} {od1 an1 : Option Addr} {sl1 : Array (Option Value)} {oc1 kV1 dc1 pm1 cd1 ct1 : Value}
    (a1 : PySem.W.nsIn K mainGlobals "is_bit" = some (some (.ref f1)))
    (l1 : K.lookup f1 = some ⟨oc1, od1, .func (PySem.W.fnOf "is_bit" "is_bit" (defArgs s_is_bit) (defBody s_is_bit) (defScope s_is_bit) .none kV1 dc1 pm1 an1 cd1 ct1), sl1⟩)
    (c1 : PySem.W.codeIn K cd1 "is_bit" = true)
    (k1 : PySem.W.keepIn K (.ref f1) = true)
    {f2 : Addr} {od2 an2 : Option Addr} {sl2 : Array (Option Value)} {oc2 kV2 dc2 pm2 cd2 ct2 : Value}
    (a2 : PySem.W.nsIn K mainGlobals "is_one_of" = some (some (.ref f2)))
    (l2 : K.lookup f2 = some ⟨oc2, od2, .func (PySem.W.fnOf "is_one_of" "is_one_of" (defArgs s_is_one_of) (defBody s_is_one_of) (defScope s_is_one_of) .none kV2 dc2 pm2 an2 cd2 ct2), sl2⟩)
    (c2 : PySem.W.codeIn K cd2 "is_one_of" = true)
    (k2 : PySem.W.keepIn K (.ref f2) = true)
    {f3 : Addr} {od3 an3 : Option Addr} {sl3 : Array (Option Value)} {oc3 kV3 dc3 pm3 cd3 ct3 : Value}
    (a3 : PySem.W.nsIn K mainGlobals "is_pair" = some (some (.ref f3)))
    (l3 : K.lookup f3 = some ⟨oc3, od3, .func (PySem.W.fnOf "is_pair" "is_pair" (defArgs s_is_pair) (defBody s_is_pair) (defScope s_is_pair) .none kV3 dc3 pm3 an3 cd3 ct3), sl3⟩)
    (c3 : PySem.W.codeIn K cd3 "is_pair" = true)
    (k3 : PySem.W.keepIn K (.ref f3) = true)
    {f4 : Addr} {od4 an4 : Option Addr} {sl4 : Array (Option Value)} {oc4 kV4 dc4 pm4 cd4 ct4 : Value}
    (a4 : PySem.W.nsIn K mainGlobals "is_filled" = some (some (.ref f4)))
    (l4 : K.lookup f4 = some ⟨oc4, od4, .func (PySem.W.fnOf "is_filled" "is_filled" (defArgs s_is_filled) (defBody s_is_filled) (defScope s_is_filled) .none kV4 dc4 pm4 an4 cd4 ct4), sl4⟩)
    (c4 : PySem.W.codeIn K cd4 "is_filled" = true)
    (k4 : PySem.W.keepIn K (.ref f4) = true)
    {f5 : Addr} {od5 an5 : Option Addr} {sl5 : Array (Option Value)} {oc5 kV5 dc5 pm5 cd5 ct5 : Value}
    (a5 : PySem.W.nsIn K mainGlobals "is_step" = some (some (.ref f5)))
    (l5 : K.lookup f5 = some ⟨oc5, od5, .func (PySem.W.fnOf "is_step" "is_step" (defArgs s_is_step) (defBody s_is_step) (defScope s_is_step) .none kV5 dc5 pm5 an5 cd5 ct5), sl5⟩)
    (c5 : PySem.W.codeIn K cd5 "is_step" = true)
    (k5 : PySem.W.keepIn K (.ref f5) = true)
    {f6 : Addr} {od6 an6 : Option Addr} {sl6 : Array (Option Value)} {oc6 kV6 dc6 pm6 cd6 ct6 : Value}
    (a6 : PySem.W.nsIn K mainGlobals "is_framed" = some (some (.ref f6)))
    (l6 : K.lookup f6 = some ⟨oc6, od6, .func (PySem.W.fnOf "is_framed" "is_framed" (defArgs s_is_framed) (defBody s_is_framed) (defScope s_is_framed) .none kV6 dc6 pm6 an6 cd6 ct6), sl6⟩)
    (c6 : PySem.W.codeIn K cd6 "is_framed" = true)
    (k6 : PySem.W.keepIn K (.ref f6) = true)
    {f7 : Addr} {od7 an7 : Option Addr} {sl7 : Array (Option Value)} {oc7 kV7 dc7 pm7 cd7 ct7 : Value}
    (a7 : PySem.W.nsIn K mainGlobals "look_at_element" = some (some (.ref f7)))
    (l7 : K.lookup f7 = some ⟨oc7, od7, .func (PySem.W.fnOf "look_at_element" "look_at_element" (defArgs s_look_at_element) (defBody s_look_at_element) (defScope s_look_at_element) .none kV7 dc7 pm7 an7 cd7 ct7), sl7⟩)
    (c7 : PySem.W.codeIn K cd7 "look_at_element" = true)
    (k7 : PySem.W.keepIn K (.ref f7) = true)
    {f8 : Addr} {od8 an8 : Option Addr} {sl8 : Array (Option Value)} {oc8 kV8 dc8 pm8 cd8 ct8 : Value}
    (a8 : PySem.W.nsIn K mainGlobals "look_at_test" = some (some (.ref f8)))
    (l8 : K.lookup f8 = some ⟨oc8, od8, .func (PySem.W.fnOf "look_at_test" "look_at_test" (defArgs s_look_at_test) (defBody s_look_at_test) (defScope s_look_at_test) .none kV8 dc8 pm8 an8 cd8 ct8), sl8⟩)
    (c8 : PySem.W.codeIn K cd8 "look_at_test" = true)
    (k8 : PySem.W.keepIn K (.ref f8) = true)
    {f9 : Addr} {od9 an9 : Option Addr} {sl9 : Array (Option Value)} {oc9 kV9 dc9 pm9 cd9 ct9 : Value}
    (a9 : PySem.W.nsIn K mainGlobals "steps_of" = some (some (.ref f9)))
    (l9 : K.lookup f9 = some ⟨oc9, od9, .func (PySem.W.fnOf "steps_of" "steps_of" (defArgs s_steps_of) (defBody s_steps_of) (defScope s_steps_of) .none kV9 dc9 pm9 an9 cd9 ct9), sl9⟩)
    (c9 : PySem.W.codeIn K cd9 "steps_of" = true)
    (k9 : PySem.W.keepIn K (.ref f9) = true)
    {f10 : Addr} {od10 an10 : Option Addr} {sl10 : Array (Option Value)} {oc10 kV10 dc10 pm10 cd10 ct10 : Value}
    (a10 : PySem.W.nsIn K mainGlobals "held_behind" = some (some (.ref f10)))
    (l10 : K.lookup f10 = some ⟨oc10, od10, .func (PySem.W.fnOf "held_behind" "held_behind" (defArgs s_held_behind) (defBody s_held_behind) (defScope s_held_behind) .none kV10 dc10 pm10 an10 cd10 ct10), sl10⟩)
    (c10 : PySem.W.codeIn K cd10 "held_behind" = true)
    (k10 : PySem.W.keepIn K (.ref f10) = true)
    {f11 : Addr} {od11 an11 : Option Addr} {sl11 : Array (Option Value)} {oc11 kV11 dc11 pm11 cd11 ct11 : Value}
    (a11 : PySem.W.nsIn K mainGlobals "is_sure" = some (some (.ref f11)))
    (l11 : K.lookup f11 = some ⟨oc11, od11, .func (PySem.W.fnOf "is_sure" "is_sure" (defArgs s_is_sure) (defBody s_is_sure) (defScope s_is_sure) .none kV11 dc11 pm11 an11 cd11 ct11), sl11⟩)
    (c11 : PySem.W.codeIn K cd11 "is_sure" = true)
    (k11 : PySem.W.keepIn K (.ref f11) = true)
    {f12 : Addr} {od12 an12 : Option Addr} {sl12 : Array (Option Value)} {oc12 kV12 dc12 pm12 cd12 ct12 : Value}
    (a12 : PySem.W.nsIn K mainGlobals "look_at_sure" = some (some (.ref f12)))
    (l12 : K.lookup f12 = some ⟨oc12, od12, .func (PySem.W.fnOf "look_at_sure" "look_at_sure" (defArgs s_look_at_sure) (defBody s_look_at_sure) (defScope s_look_at_sure) .none kV12 dc12 pm12 an12 cd12 ct12), sl12⟩)
    (c12 : PySem.W.codeIn K cd12 "look_at_sure" = true)
    (k12 : PySem.W.keepIn K (.ref f12) = true)
    {f13 : Addr} {od13 an13 : Option Addr} {sl13 : Array (Option Value)} {oc13 kV13 dc13 pm13 cd13 ct13 : Value}
    (a13 : PySem.W.nsIn K mainGlobals "length_of" = some (some (.ref f13)))
    (l13 : K.lookup f13 = some ⟨oc13, od13, .func (PySem.W.fnOf "length_of" "length_of" (defArgs s_length_of) (defBody s_length_of) (defScope s_length_of) .none kV13 dc13 pm13 an13 cd13 ct13), sl13⟩)
    (c13 : PySem.W.codeIn K cd13 "length_of" = true)
    (k13 : PySem.W.keepIn K (.ref f13) = true)
    {f14 : Addr} {od14 an14 : Option Addr} {sl14 : Array (Option Value)} {oc14 kV14 dc14 pm14 cd14 ct14 : Value}
    (a14 : PySem.W.nsIn K mainGlobals "turned" = some (some (.ref f14)))
    (l14 : K.lookup f14 = some ⟨oc14, od14, .func (PySem.W.fnOf "turned" "turned" (defArgs s_turned) (defBody s_turned) (defScope s_turned) .none kV14 dc14 pm14 an14 cd14 ct14), sl14⟩)
    (c14 : PySem.W.codeIn K cd14 "turned" = true)
    (k14 : PySem.W.keepIn K (.ref f14) = true)
    {f15 : Addr} {od15 an15 : Option Addr} {sl15 : Array (Option Value)} {oc15 kV15 dc15 pm15 cd15 ct15 : Value}
    (a15 : PySem.W.nsIn K mainGlobals "only_writes" = some (some (.ref f15)))
    (l15 : K.lookup f15 = some ⟨oc15, od15, .func (PySem.W.fnOf "only_writes" "only_writes" (defArgs s_only_writes) (defBody s_only_writes) (defScope s_only_writes) .none kV15 dc15 pm15 an15 cd15 ct15), sl15⟩)
    (c15 : PySem.W.codeIn K cd15 "only_writes" = true)
    (k15 : PySem.W.keepIn K (.ref f15) = true)
    {f16 : Addr} {od16 an16 : Option Addr} {sl16 : Array (Option Value)} {oc16 kV16 dc16 pm16 cd16 ct16 : Value}
    (a16 : PySem.W.nsIn K mainGlobals "steps_by" = some (some (.ref f16)))
    (l16 : K.lookup f16 = some ⟨oc16, od16, .func (PySem.W.fnOf "steps_by" "steps_by" (defArgs s_steps_by) (defBody s_steps_by) (defScope s_steps_by) .none kV16 dc16 pm16 an16 cd16 ct16), sl16⟩)
    (c16 : PySem.W.codeIn K cd16 "steps_by" = true)
    (k16 : PySem.W.keepIn K (.ref f16) = true)
    {f17 : Addr} {od17 an17 : Option Addr} {sl17 : Array (Option Value)} {oc17 kV17 dc17 pm17 cd17 ct17 : Value}
    (a17 : PySem.W.nsIn K mainGlobals "leaves" = some (some (.ref f17)))
    (l17 : K.lookup f17 = some ⟨oc17, od17, .func (PySem.W.fnOf "leaves" "leaves" (defArgs s_leaves) (defBody s_leaves) (defScope s_leaves) .none kV17 dc17 pm17 an17 cd17 ct17), sl17⟩)
    (c17 : PySem.W.codeIn K cd17 "leaves" = true)
    (k17 : PySem.W.keepIn K (.ref f17) = true)
    {f18 : Addr} {od18 an18 : Option Addr} {sl18 : Array (Option Value)} {oc18 kV18 dc18 pm18 cd18 ct18 : Value}
    (a18 : PySem.W.nsIn K mainGlobals "leaving_of" = some (some (.ref f18)))
    (l18 : K.lookup f18 = some ⟨oc18, od18, .func (PySem.W.fnOf "leaving_of" "leaving_of" (defArgs s_leaving_of) (defBody s_leaving_of) (defScope s_leaving_of) .none kV18 dc18 pm18 an18 cd18 ct18), sl18⟩)
    (c18 : PySem.W.codeIn K cd18 "leaving_of" = true)
    (k18 : PySem.W.keepIn K (.ref f18) = true)
    {f19 : Addr} {od19 an19 : Option Addr} {sl19 : Array (Option Value)} {oc19 kV19 dc19 pm19 cd19 ct19 : Value}
    (a19 : PySem.W.nsIn K mainGlobals "leaves_all" = some (some (.ref f19)))
    (l19 : K.lookup f19 = some ⟨oc19, od19, .func (PySem.W.fnOf "leaves_all" "leaves_all" (defArgs s_leaves_all) (defBody s_leaves_all) (defScope s_leaves_all) .none kV19 dc19 pm19 an19 cd19 ct19), sl19⟩)
    (c19 : PySem.W.codeIn K cd19 "leaves_all" = true)
    (k19 : PySem.W.keepIn K (.ref f19) = true)
    {f20 : Addr} {od20 an20 : Option Addr} {sl20 : Array (Option Value)} {oc20 kV20 dc20 pm20 cd20 ct20 : Value}
    (a20 : PySem.W.nsIn K mainGlobals "written_element" = some (some (.ref f20)))
    (l20 : K.lookup f20 = some ⟨oc20, od20, .func (PySem.W.fnOf "written_element" "written_element" (defArgs s_written_element) (defBody s_written_element) (defScope s_written_element) .none kV20 dc20 pm20 an20 cd20 ct20), sl20⟩)
    (c20 : PySem.W.codeIn K cd20 "written_element" = true)
    (k20 : PySem.W.keepIn K (.ref f20) = true)
    {f21 : Addr} {od21 an21 : Option Addr} {sl21 : Array (Option Value)} {oc21 kV21 dc21 pm21 cd21 ct21 : Value}
    (a21 : PySem.W.nsIn K mainGlobals "written" = some (some (.ref f21)))
    (l21 : K.lookup f21 = some ⟨oc21, od21, .func (PySem.W.fnOf "written" "written" (defArgs s_written) (defBody s_written) (defScope s_written) .none kV21 dc21 pm21 an21 cd21 ct21), sl21⟩)
    (c21 : PySem.W.codeIn K cd21 "written" = true)
    (k21 : PySem.W.keepIn K (.ref f21) = true)
    {f22 : Addr} {od22 an22 : Option Addr} {sl22 : Array (Option Value)} {oc22 kV22 dc22 pm22 cd22 ct22 : Value}
    (a22 : PySem.W.nsIn K mainGlobals "_law_cell_at" = some (some (.ref f22)))
    (l22 : K.lookup f22 = some ⟨oc22, od22, .func (PySem.W.fnOf "_law_cell_at" "_law_cell_at" (defArgs s__law_cell_at) (defBody s__law_cell_at) (defScope s__law_cell_at) .none kV22 dc22 pm22 an22 cd22 ct22), sl22⟩)
    (c22 : PySem.W.codeIn K cd22 "_law_cell_at" = true)
    (k22 : PySem.W.keepIn K (.ref f22) = true)
    {f23 : Addr} {od23 an23 : Option Addr} {sl23 : Array (Option Value)} {oc23 kV23 dc23 pm23 cd23 ct23 : Value}
    (a23 : PySem.W.nsIn K mainGlobals "_law_digits" = some (some (.ref f23)))
    (l23 : K.lookup f23 = some ⟨oc23, od23, .func (PySem.W.fnOf "_law_digits" "_law_digits" (defArgs s__law_digits) (defBody s__law_digits) (defScope s__law_digits) .none kV23 dc23 pm23 an23 cd23 ct23), sl23⟩)
    (c23 : PySem.W.codeIn K cd23 "_law_digits" = true)
    (k23 : PySem.W.keepIn K (.ref f23) = true)
    {f24 : Addr} {od24 an24 : Option Addr} {sl24 : Array (Option Value)} {oc24 kV24 dc24 pm24 cd24 ct24 : Value}
    (a24 : PySem.W.nsIn K mainGlobals "_law_test" = some (some (.ref f24)))
    (l24 : K.lookup f24 = some ⟨oc24, od24, .func (PySem.W.fnOf "_law_test" "_law_test" (defArgs s__law_test) (defBody s__law_test) (defScope s__law_test) .none kV24 dc24 pm24 an24 cd24 ct24), sl24⟩)
    (c24 : PySem.W.codeIn K cd24 "_law_test" = true)
    (k24 : PySem.W.keepIn K (.ref f24) = true)
    {f25 : Addr} {od25 an25 : Option Addr} {sl25 : Array (Option Value)} {oc25 kV25 dc25 pm25 cd25 ct25 : Value}
    (a25 : PySem.W.nsIn K mainGlobals "_law_kind" = some (some (.ref f25)))
    (l25 : K.lookup f25 = some ⟨oc25, od25, .func (PySem.W.fnOf "_law_kind" "_law_kind" (defArgs s__law_kind) (defBody s__law_kind) (defScope s__law_kind) .none kV25 dc25 pm25 an25 cd25 ct25), sl25⟩)
    (c25 : PySem.W.codeIn K cd25 "_law_kind" = true)
    (k25 : PySem.W.keepIn K (.ref f25) = true)
    {f26 : Addr} {od26 an26 : Option Addr} {sl26 : Array (Option Value)} {oc26 kV26 dc26 pm26 cd26 ct26 : Value}
    (a26 : PySem.W.nsIn K mainGlobals "_law_is_step" = some (some (.ref f26)))
    (l26 : K.lookup f26 = some ⟨oc26, od26, .func (PySem.W.fnOf "_law_is_step" "_law_is_step" (defArgs s__law_is_step) (defBody s__law_is_step) (defScope s__law_is_step) .none kV26 dc26 pm26 an26 cd26 ct26), sl26⟩)
    (c26 : PySem.W.codeIn K cd26 "_law_is_step" = true)
    (k26 : PySem.W.keepIn K (.ref f26) = true)
    {f27 : Addr} {od27 an27 : Option Addr} {sl27 : Array (Option Value)} {oc27 kV27 dc27 pm27 cd27 ct27 : Value}
    (a27 : PySem.W.nsIn K mainGlobals "_law_due" = some (some (.ref f27)))
    (l27 : K.lookup f27 = some ⟨oc27, od27, .func (PySem.W.fnOf "_law_due" "_law_due" (defArgs s__law_due) (defBody s__law_due) (defScope s__law_due) .none kV27 dc27 pm27 an27 cd27 ct27), sl27⟩)
    (c27 : PySem.W.codeIn K cd27 "_law_due" = true)
    (k27 : PySem.W.keepIn K (.ref f27) = true)
    {f28 : Addr} {od28 an28 : Option Addr} {sl28 : Array (Option Value)} {oc28 kV28 dc28 pm28 cd28 ct28 : Value}
    (a28 : PySem.W.nsIn K mainGlobals "_law_told" = some (some (.ref f28)))
    (l28 : K.lookup f28 = some ⟨oc28, od28, .func (PySem.W.fnOf "_law_told" "_law_told" (defArgs s__law_told) (defBody s__law_told) (defScope s__law_told) .none kV28 dc28 pm28 an28 cd28 ct28), sl28⟩)
    (c28 : PySem.W.codeIn K cd28 "_law_told" = true)
    (k28 : PySem.W.keepIn K (.ref f28) = true)
    {f29 : Addr} {od29 an29 : Option Addr} {sl29 : Array (Option Value)} {oc29 kV29 dc29 pm29 cd29 ct29 : Value}
    (a29 : PySem.W.nsIn K mainGlobals "_law_bent" = some (some (.ref f29)))
    (l29 : K.lookup f29 = some ⟨oc29, od29, .func (PySem.W.fnOf "_law_bent" "_law_bent" (defArgs s__law_bent) (defBody s__law_bent) (defScope s__law_bent) .none kV29 dc29 pm29 an29 cd29 ct29), sl29⟩)
    (c29 : PySem.W.codeIn K cd29 "_law_bent" = true)
    (k29 : PySem.W.keepIn K (.ref f29) = true)
    {f30 : Addr} {od30 an30 : Option Addr} {sl30 : Array (Option Value)} {oc30 kV30 dc30 pm30 cd30 ct30 : Value}
    (a30 : PySem.W.nsIn K mainGlobals "law" = some (some (.ref f30)))
    (l30 : K.lookup f30 = some ⟨oc30, od30, .func (PySem.W.fnOf "law" "law" (defArgs s_law) (defBody s_law) (defScope s_law) .none kV30 dc30 pm30 an30 cd30 ct30), sl30⟩)
    (c30 : PySem.W.codeIn K cd30 "law" = true)
    (k30 : PySem.W.keepIn K (.ref f30) = true)
    (z0 : PySem.W.nsIn K mainGlobals "len" = some none)
    (z1 : PySem.W.nsIn K mainGlobals "abs" = some none)
    (z2 : PySem.W.nsIn K mainGlobals "max" = some none)
    (z3 : PySem.W.nsIn K mainGlobals "min" = some none)
    (z4 : PySem.W.nsIn K mainGlobals "repr" = some none)
    (z5 : PySem.W.nsIn K mainGlobals "isinstance" = some none)
    (z6 : PySem.W.nsIn K mainGlobals "int" = some none)
    (z7 : PySem.W.nsIn K mainGlobals "bool" = some none)
    (z8 : PySem.W.nsIn K mainGlobals "str" = some none)
    (z9 : PySem.W.nsIn K mainGlobals "tuple" = some none)
    (z10 : PySem.W.nsIn K mainGlobals "list" = some none)
    (z11 : PySem.W.nsIn K mainGlobals "dict" = some none)
    (z12 : PySem.W.nsIn K mainGlobals "range" = some none)
    (z13 : PySem.W.nsIn K mainGlobals "enumerate" = some none)
    (z14 : PySem.W.nsIn K mainGlobals "sorted" = some none)
    (z15 : PySem.W.nsIn K mainGlobals "sum" = some none)
    {R0 : Addr}
    (RA0 : PySem.W.nsIn K mainGlobals "NoTest" = some (some (.ref R0)))
    {R1 : Addr}
    (RA1 : PySem.W.nsIn K mainGlobals "NoText" = some (some (.ref R1)))
    {R2 : Addr}
    (RA2 : PySem.W.nsIn K mainGlobals "NoHarms" = some (some (.ref R2)))
    {R3 : Addr}
    (RA3 : PySem.W.nsIn K mainGlobals "NoMemory" = some (some (.ref R3)))
    {R4 : Addr}
    (RA4 : PySem.W.nsIn K mainGlobals "NoAddress" = some (some (.ref R4)))
    {R5 : Addr}
    (RA5 : PySem.W.nsIn K mainGlobals "NoBit" = some (some (.ref R5)))
    {R6 : Addr}
    (RA6 : PySem.W.nsIn K mainGlobals "NoOrders" = some (some (.ref R6)))
    {R7 : Addr}
    (RA7 : PySem.W.nsIn K mainGlobals "NotSure" = some (some (.ref R7)))
    {R8 : Addr}
    (RA8 : PySem.W.nsIn K mainGlobals "NoKind" = some (some (.ref R8)))
    {R9 : Addr}
    (RA9 : PySem.W.nsIn K mainGlobals "NoSpares" = some (some (.ref R9)))
    {R10 : Addr}
    (RA10 : PySem.W.nsIn K mainGlobals "NoRow" = some (some (.ref R10)))
    {R11 : Addr}
    (RA11 : PySem.W.nsIn K mainGlobals "NoName" = some (some (.ref R11)))
    {R12 : Addr}
    (RA12 : PySem.W.nsIn K mainGlobals "TooMany" = some (some (.ref R12)))
    {RM : Addr}
    (RM_ : PySem.W.nsIn K mainGlobals "MarchError" = some (some (.ref RM)))
    {Ro0 : Obj} {Rbm : List Value}
    (Rlk0 : K.lookup R0 = some Ro0)
    (Rq0 : xcO Ro0 R0 = some Rbm)
    {Ro7 : Obj}
    (Rlk7 : K.lookup R7 = some Ro7)
    (Rq7 : xcO Ro7 R7 = some Rbm)
    (Rex7 : PySem.W.excIn K R7 bmV "ValueError.__new__" = true)
    (Rkp0 : PySem.W.keepIn K (.ref R0) = true)
    (Rga0 : PySem.W.findIn K (.ref R0) "__getattribute__" = some (some (.builtin "BaseException.__getattribute__")))
    (Rgh0 : PySem.W.findIn K (.ref R0) "__getattr__" = some none)
    (Rha0 : PySem.W.findIn K (.ref R0) "__class__" = some (some (.builtin "object.__class__")))
    (Rhm0 : PySem.W.mroIn K R0 (.type "object") = some true)
    (Rsa0 : PySem.W.findIn K (.ref R0) "__setattr__" = some (some (.builtin "object.__setattr__")))
    (Ro0_0 : PySem.W.kitOne K (.ref R0) (.ref R0) = some true)
    (Ro1_0 : PySem.W.kitOne K (.ref R0) (.ref R1) = some false)
    (Ro2_0 : PySem.W.kitOne K (.ref R0) (.ref R2) = some false)
    (Ro3_0 : PySem.W.kitOne K (.ref R0) (.ref R3) = some false)
    (Ro4_0 : PySem.W.kitOne K (.ref R0) (.ref R4) = some false)
    (Ro5_0 : PySem.W.kitOne K (.ref R0) (.ref R5) = some false)
    (Ro6_0 : PySem.W.kitOne K (.ref R0) (.ref R6) = some false)
    (Ro7_0 : PySem.W.kitOne K (.ref R0) (.ref R7) = some false)
    (Ro8_0 : PySem.W.kitOne K (.ref R0) (.ref R8) = some false)
    (Ro9_0 : PySem.W.kitOne K (.ref R0) (.ref R9) = some false)
    (Ro10_0 : PySem.W.kitOne K (.ref R0) (.ref R10) = some false)
    (Ro11_0 : PySem.W.kitOne K (.ref R0) (.ref R11) = some false)
    (Ro12_0 : PySem.W.kitOne K (.ref R0) (.ref R12) = some false)
    (Rve0 : PySem.W.kitOne K (.ref R0) (.type "ValueError") = some true)
    (Rem0 : PySem.W.exmOne K (.ref R0) (.ref RM) = some true)
    (Rn0_0 : PySem.W.findIn K (.ref R0) "element" = some none)
    (Rn0_1 : PySem.W.findIn K (.ref R0) "step" = some none)
    {fI0 : Addr} {odI0 anI0 : Option Addr} {slI0 : Array (Option Value)} {ocI0 kVI0 dcI0 pmI0 cdI0 ctI0 : Value}
    (Rhi0 : PySem.W.findIn K (.ref R0) "__init__" = some (some (.ref fI0)))
    (Rhf0 : PySem.W.isFn K (.ref fI0) = true)
    (RlI0 : K.lookup fI0 = some ⟨ocI0, odI0, .func (PySem.W.fnOf "__init__" "NoTest.__init__" (defArgs s_iTest) (defBody s_iTest) (defScope s_iTest) .none kVI0 dcI0 pmI0 anI0 cdI0 ctI0), slI0⟩)
    (RcI0 : PySem.W.codeIn K cdI0 "NoTest.__init__" = true)
    (RkI0 : PySem.W.keepIn K (.ref fI0) = true)
    (Rkp7 : PySem.W.keepIn K (.ref R7) = true)
    (Rga7 : PySem.W.findIn K (.ref R7) "__getattribute__" = some (some (.builtin "BaseException.__getattribute__")))
    (Rgh7 : PySem.W.findIn K (.ref R7) "__getattr__" = some none)
    (Rha7 : PySem.W.findIn K (.ref R7) "__class__" = some (some (.builtin "object.__class__")))
    (Rhm7 : PySem.W.mroIn K R7 (.type "object") = some true)
    (Rsa7 : PySem.W.findIn K (.ref R7) "__setattr__" = some (some (.builtin "object.__setattr__")))
    (Ro0_7 : PySem.W.kitOne K (.ref R7) (.ref R0) = some false)
    (Ro1_7 : PySem.W.kitOne K (.ref R7) (.ref R1) = some false)
    (Ro2_7 : PySem.W.kitOne K (.ref R7) (.ref R2) = some false)
    (Ro3_7 : PySem.W.kitOne K (.ref R7) (.ref R3) = some false)
    (Ro4_7 : PySem.W.kitOne K (.ref R7) (.ref R4) = some false)
    (Ro5_7 : PySem.W.kitOne K (.ref R7) (.ref R5) = some false)
    (Ro6_7 : PySem.W.kitOne K (.ref R7) (.ref R6) = some false)
    (Ro7_7 : PySem.W.kitOne K (.ref R7) (.ref R7) = some true)
    (Ro8_7 : PySem.W.kitOne K (.ref R7) (.ref R8) = some false)
    (Ro9_7 : PySem.W.kitOne K (.ref R7) (.ref R9) = some false)
    (Ro10_7 : PySem.W.kitOne K (.ref R7) (.ref R10) = some false)
    (Ro11_7 : PySem.W.kitOne K (.ref R7) (.ref R11) = some false)
    (Ro12_7 : PySem.W.kitOne K (.ref R7) (.ref R12) = some false)
    (Rve7 : PySem.W.kitOne K (.ref R7) (.type "ValueError") = some true)
    (Rem7 : PySem.W.exmOne K (.ref R7) (.ref RM) = some true)
    (Rhn : PySem.W.specialIn K (.builtin "object.__class__") "__get__" = some (some (.builtin "getset_descriptor.__get__")))
    (Rtk : PySem.W.takesIn K (.builtin "object.__class__") = some true)
    (RzV : PySem.W.nsIn K mainGlobals "ValueError" = some none)
    (zall : PySem.W.nsIn K mainGlobals "all" = some none)
    {tO : Addr} {u1 u2 u3 : Tok} {odO : Option Addr} {nO : Nat} {slO : Array (Option Value)}
    (aO : PySem.W.nsIn K mainGlobals "ORDERS" = some (some (.ref tO)))
    (lO : K.lookup tO = some ⟨.type "tuple", odO, .seq #[.str "up" u1, .str "down" u2, .str "any" u3] nO, slO⟩)
    {tL : Addr} {v1 v2 : Tok} {odL : Option Addr} {nL : Nat} {slL : Array (Option Value)}
    (aL : PySem.W.nsIn K mainGlobals "LETTERS" = some (some (.ref tL)))
    (lL : K.lookup tL = some ⟨.type "tuple", odL, .seq #[.str "r" v1, .str "w" v2] nL, slL⟩)
    {w4 w5 w6 : Tok}
    (aT : PySem.W.nsIn K mainGlobals "MOST_IN_TEST" = some (some (.int 8 w4)))
    (aE : PySem.W.nsIn K mainGlobals "MOST_IN_ELEMENT" = some (some (.int 6 w5)))
    (aP : PySem.W.nsIn K mainGlobals "PARTING" = some (some (.str "; " w6))) :
    ∃ fd : FuncData, (∀ (s : Shared) (v : Value), BindsTo s fd ⟨[v], []⟩ [("_law_script", v)]) ∧ ∀ base : Heap, K.In base → base.Ns mainGlobals mg → FnOk l.prog w K mg base CX0 10 fa fd ["_law_script"] (sp_law K) := by
  have e := hfa.symm.trans (PySem.W.mg_of X G a30)
  cases e
  have B : Bl mg := ⟨fun x hx => by
    unfold blNames at hx
    simp only [List.mem_cons, List.not_mem_nil, or_false] at hx
    rcases hx with rfl | rfl | rfl | rfl | rfl | rfl | rfl | rfl | rfl | rfl | rfl | rfl | rfl | rfl | rfl | rfl
    · exact PySem.W.mg_none_of X G z0
    · exact PySem.W.mg_none_of X G z1
    · exact PySem.W.mg_none_of X G z2
    · exact PySem.W.mg_none_of X G z3
    · exact PySem.W.mg_none_of X G z4
    · exact PySem.W.mg_none_of X G z5
    · exact PySem.W.mg_none_of X G z6
    · exact PySem.W.mg_none_of X G z7
    · exact PySem.W.mg_none_of X G z8
    · exact PySem.W.mg_none_of X G z9
    · exact PySem.W.mg_none_of X G z10
    · exact PySem.W.mg_none_of X G z11
    · exact PySem.W.mg_none_of X G z12
    · exact PySem.W.mg_none_of X G z13
    · exact PySem.W.mg_none_of X G z14
    · exact PySem.W.mg_none_of X G z15⟩
  have hVE := PySem.W.mg_none_of X G RzV
  have gm := PySem.W.mg_of X G RM_
  have Rtl := tail_of_exc Rlk7 Rq7 Rex7
  have RX0 := xok_of Rlk0 Rq0 Rtl Rga0 Rgh0 Rha0 Rhn Rtk Rhm0 Rsa0
  have RX7 := xok_of Rlk7 Rq7 Rtl Rga7 Rgh7 Rha7 Rhn Rtk Rhm7 Rsa7
  have xB7 : XBare K mg "NotSure" R7 := ⟨PySem.W.mg_of X G RA7, Rkp7, RX7.toXTy, Rex7⟩
  have RG : ∀ i x, nms[i]? = some x → mg x = some (.ref ((fun i => ([R0, R1, R2, R3, R4, R5, R6, R7, R8, R9, R10, R11, R12] : List Addr).getD i 0) i)) := by
    intro i x hx
    match i, hx with
    | 0, hx => cases hx; exact PySem.W.mg_of X G RA0
    | 1, hx => cases hx; exact PySem.W.mg_of X G RA1
    | 2, hx => cases hx; exact PySem.W.mg_of X G RA2
    | 3, hx => cases hx; exact PySem.W.mg_of X G RA3
    | 4, hx => cases hx; exact PySem.W.mg_of X G RA4
    | 5, hx => cases hx; exact PySem.W.mg_of X G RA5
    | 6, hx => cases hx; exact PySem.W.mg_of X G RA6
    | 7, hx => cases hx; exact PySem.W.mg_of X G RA7
    | 8, hx => cases hx; exact PySem.W.mg_of X G RA8
    | 9, hx => cases hx; exact PySem.W.mg_of X G RA9
    | 10, hx => cases hx; exact PySem.W.mg_of X G RA10
    | 11, hx => cases hx; exact PySem.W.mg_of X G RA11
    | 12, hx => cases hx; exact PySem.W.mg_of X G RA12
    | i + 13, hx => cases hx
  have KX0 : KX K (fun i => ([R0, R1, R2, R3, R4, R5, R6, R7, R8, R9, R10, R11, R12] : List Addr).getD i 0) RM 0 := by
    refine ⟨by decide, RX0.toXTy, fun i hi => ?_, Rve0, Rem0⟩
    match i, hi with
    | 0, _ => exact Ro0_0
    | 1, _ => exact Ro1_0
    | 2, _ => exact Ro2_0
    | 3, _ => exact Ro3_0
    | 4, _ => exact Ro4_0
    | 5, _ => exact Ro5_0
    | 6, _ => exact Ro6_0
    | 7, _ => exact Ro7_0
    | 8, _ => exact Ro8_0
    | 9, _ => exact Ro9_0
    | 10, _ => exact Ro10_0
    | 11, _ => exact Ro11_0
    | 12, _ => exact Ro12_0
  have KX7 : KX K (fun i => ([R0, R1, R2, R3, R4, R5, R6, R7, R8, R9, R10, R11, R12] : List Addr).getD i 0) RM 7 := by
    refine ⟨by decide, RX7.toXTy, fun i hi => ?_, Rve7, Rem7⟩
    match i, hi with
    | 0, _ => exact Ro0_7
    | 1, _ => exact Ro1_7
    | 2, _ => exact Ro2_7
    | 3, _ => exact Ro3_7
    | 4, _ => exact Ro4_7
    | 5, _ => exact Ro5_7
    | 6, _ => exact Ro6_7
    | 7, _ => exact Ro7_7
    | 8, _ => exact Ro8_7
    | 9, _ => exact Ro9_7
    | 10, _ => exact Ro10_7
    | 11, _ => exact Ro11_7
    | 12, _ => exact Ro12_7
  have z_all : mg "all" = none := PySem.W.mg_none_of X G zall
  have g_ORDERS : GTup K mg "ORDERS" [.str "up", .str "down", .str "any"] := gtup_mk (PySem.W.mg_of X G aO) lO (by show 3 ≤ sizeLine; decide) (.cons ⟨_, rfl⟩ (.cons ⟨_, rfl⟩ (.cons ⟨_, rfl⟩ .nil)))
  have g_LETTERS : GTup K mg "LETTERS" [.str "r", .str "w"] := gtup_mk (PySem.W.mg_of X G aL) lL (by show 2 ≤ sizeLine; decide) (.cons ⟨_, rfl⟩ (.cons ⟨_, rfl⟩ .nil))
  have g_T : ∃ t, mg "MOST_IN_TEST" = some (.int 8 t) := ⟨_, PySem.W.mg_of X G aT⟩
  have g_E : ∃ t, mg "MOST_IN_ELEMENT" = some (.int 6 t) := ⟨_, PySem.W.mg_of X G aE⟩
  have g_P : ∃ t, mg "PARTING" = some (.str "; " t) := ⟨_, PySem.W.mg_of X G aP⟩
  have FI0 := fun_mk (st := s_iTest) RlI0 RcI0 RkI0
  have F0 : FnAt K mg "is_whole" s_is_whole ["thing"] := fnAt_mk X G a0 l0 c0 k0 fun _ _ _ _ _ _ us hl => match us, hl with | [_], _ => rfl
  have F1 : FnAt K mg "is_bit" s_is_bit ["thing"] := fnAt_mk X G a1 l1 c1 k1 fun _ _ _ _ _ _ us hl => match us, hl with | [_], _ => rfl
  have F2 : FnAt K mg "is_one_of" s_is_one_of ["thing", "words"] := fnAt_mk X G a2 l2 c2 k2 fun _ _ _ _ _ _ us hl => match us, hl with | [_, _], _ => rfl
  have F3 : FnAt K mg "is_pair" s_is_pair ["thing"] := fnAt_mk X G a3 l3 c3 k3 fun _ _ _ _ _ _ us hl => match us, hl with | [_], _ => rfl
  have F4 : FnAt K mg "is_filled" s_is_filled ["thing", "most"] := fnAt_mk X G a4 l4 c4 k4 fun _ _ _ _ _ _ us hl => match us, hl with | [_, _], _ => rfl
  have F5 : FnAt K mg "is_step" s_is_step ["thing"] := fnAt_mk X G a5 l5 c5 k5 fun _ _ _ _ _ _ us hl => match us, hl with | [_], _ => rfl
  have F6 : FnAt K mg "is_framed" s_is_framed ["thing"] := fnAt_mk X G a6 l6 c6 k6 fun _ _ _ _ _ _ us hl => match us, hl with | [_], _ => rfl
  have F7 : FnAt K mg "look_at_element" s_look_at_element ["number", "thing"] := fnAt_mk X G a7 l7 c7 k7 fun _ _ _ _ _ _ us hl => match us, hl with | [_, _], _ => rfl
  have F8 : FnAt K mg "look_at_test" s_look_at_test ["thing"] := fnAt_mk X G a8 l8 c8 k8 fun _ _ _ _ _ _ us hl => match us, hl with | [_], _ => rfl
  have F9 : FnAt K mg "steps_of" s_steps_of ["test"] := fnAt_mk X G a9 l9 c9 k9 fun _ _ _ _ _ _ us hl => match us, hl with | [_], _ => rfl
  have F10 : FnAt K mg "held_behind" s_held_behind ["held", "steps"] := fnAt_mk X G a10 l10 c10 k10 fun _ _ _ _ _ _ us hl => match us, hl with | [_, _], _ => rfl
  have F11 : FnAt K mg "is_sure" s_is_sure ["test"] := fnAt_mk X G a11 l11 c11 k11 fun _ _ _ _ _ _ us hl => match us, hl with | [_], _ => rfl
  have F12 : FnAt K mg "look_at_sure" s_look_at_sure ["test"] := fnAt_mk X G a12 l12 c12 k12 fun _ _ _ _ _ _ us hl => match us, hl with | [_], _ => rfl
  have F13 : FnAt K mg "length_of" s_length_of ["test"] := fnAt_mk X G a13 l13 c13 k13 fun _ _ _ _ _ _ us hl => match us, hl with | [_], _ => rfl
  have F14 : FnAt K mg "turned" s_turned ["bit", "by"] := fnAt_mk X G a14 l14 c14 k14 fun _ _ _ _ _ _ us hl => match us, hl with | [_, _], _ => rfl
  have F15 : FnAt K mg "only_writes" s_only_writes ["element"] := fnAt_mk X G a15 l15 c15 k15 fun _ _ _ _ _ _ us hl => match us, hl with | [_], _ => rfl
  have F16 : FnAt K mg "steps_by" s_steps_by ["steps", "first"] := fnAt_mk X G a16 l16 c16 k16 fun _ _ _ _ _ _ us hl => match us, hl with | [_, _], _ => rfl
  have F17 : FnAt K mg "leaves" s_leaves ["test"] := fnAt_mk X G a17 l17 c17 k17 fun _ _ _ _ _ _ us hl => match us, hl with | [_], _ => rfl
  have F18 : FnAt K mg "leaving_of" s_leaving_of ["test"] := fnAt_mk X G a18 l18 c18 k18 fun _ _ _ _ _ _ us hl => match us, hl with | [_], _ => rfl
  have F19 : FnAt K mg "leaves_all" s_leaves_all ["test"] := fnAt_mk X G a19 l19 c19 k19 fun _ _ _ _ _ _ us hl => match us, hl with | [_], _ => rfl
  have F20 : FnAt K mg "written_element" s_written_element ["element"] := fnAt_mk X G a20 l20 c20 k20 fun _ _ _ _ _ _ us hl => match us, hl with | [_], _ => rfl
  have F21 : FnAt K mg "written" s_written ["test"] := fnAt_mk X G a21 l21 c21 k21 fun _ _ _ _ _ _ us hl => match us, hl with | [_], _ => rfl
  have F22 : FnAt K mg "_law_cell_at" s__law_cell_at ["_law_script", "_law_k"] := fnAt_mk X G a22 l22 c22 k22 fun _ _ _ _ _ _ us hl => match us, hl with | [_, _], _ => rfl
  have F23 : FnAt K mg "_law_digits" s__law_digits ["_law_cell", "_law_turn", "_law_sizes"] := fnAt_mk X G a23 l23 c23 k23 fun _ _ _ _ _ _ us hl => match us, hl with | [_, _, _], _ => rfl
  have F24 : FnAt K mg "_law_test" s__law_test ["_law_cells", "_law_sure"] := fnAt_mk X G a24 l24 c24 k24 fun _ _ _ _ _ _ us hl => match us, hl with | [_, _], _ => rfl
  have F25 : FnAt K mg "_law_kind" s__law_kind ["_law_e"] := fnAt_mk X G a25 l25 c25 k25 fun _ _ _ _ _ _ us hl => match us, hl with | [_], _ => rfl
  have F26 : FnAt K mg "_law_is_step" s__law_is_step ["_law_thing"] := fnAt_mk X G a26 l26 c26 k26 fun _ _ _ _ _ _ us hl => match us, hl with | [_], _ => rfl
  have F27 : FnAt K mg "_law_due" s__law_due ["_law_thing"] := fnAt_mk X G a27 l27 c27 k27 fun _ _ _ _ _ _ us hl => match us, hl with | [_], _ => rfl
  have F28 : FnAt K mg "_law_told" s__law_told ["_law_way", "_law_thing"] := fnAt_mk X G a28 l28 c28 k28 fun _ _ _ _ _ _ us hl => match us, hl with | [_, _], _ => rfl
  have F29 : FnAt K mg "_law_bent" s__law_bent ["_law_test_here", "_law_d"] := fnAt_mk X G a29 l29 c29 k29 fun _ _ _ _ _ _ us hl => match us, hl with | [_, _], _ => rfl
  have FL := fun_mk (st := s_law) l30 c30 k30
  refine ⟨PySem.W.fnOf "law" "law" (defArgs s_law) (defBody s_law) (defScope s_law) .none kV30 dc30 pm30 an30 cd30 ct30, fun s v => .of_eq rfl, fun base _ _ => ?_⟩
  have h0 := ok_is_whole (P := l.prog) (w := w) (base := base) B F0
  have h1 := ok_is_bit h0 F1
  have h2 := ok_is_one_of (P := l.prog) (w := w) (base := base) B F2
  have h3 := ok_is_pair (P := l.prog) (w := w) (base := base) B F3
  have h4 := ok_is_filled (P := l.prog) (w := w) (base := base) B F4
  have h5 := ok_is_step g_LETTERS h3 h2 h1 F5
  have h6 := ok_is_framed g_ORDERS g_E h3 h2 h4 F6
  have h7 := ok_look_at_element B h6 h5 F7
  have h8 := ok_look_at_test B g_T h4 h7 F8
  have xT := (show XInit l.prog w K mg base "NoTest" R0 ["self", "element", "step"] (sp_x2 R0 "element" "step") from ⟨PySem.W.mg_of X G RA0, Rkp0, RX0, _, _, Rhi0, Rhf0, FI0.binds (fun _ _ _ _ _ _ us hl => match us, hl with | [_, _, _], _ => rfl), ok_iTest FI0 RX0 Rn0_0 Rn0_1⟩)
  have gw := og_whole (P := l.prog) (w := w) (base := base) B F0
  have gb := og_bit gw F1
  have go := og_one (P := l.prog) (w := w) (base := base) B F2
  have gp := og_pair (P := l.prog) (w := w) (base := base) B F3
  have gf := og_fill (P := l.prog) (w := w) (base := base) B F4
  have gs := og_step g_LETTERS gp go gb F5
  have gr := og_frame g_ORDERS g_E gp go gf F6
  have ge := og_elem B xT gr gs F7
  have gl := og_look B xT g_T gf ge F8
  have h9 := ok_steps_of (P := l.prog) (w := w) (base := base) F9
  have h10 := ok_held_behind (P := l.prog) (w := w) (base := base) F10
  have h11 := ok_is_sure h8 h9 F11
  have h12 := ok_look_at_sure xB7 h11 F12
  have h13 := ok_length_of B h8 h9 F13
  have h14 := ok_turn (P := l.prog) (w := w) (base := base) F14
  have h15 := ok_only_writes (P := l.prog) (w := w) (base := base) z_all F15
  have h16 := ok_steps_by h14 F16
  have h17 := ok_leaves h9 h10 F17
  have h18 := ok_leaving_of B xB7 h12 h15 h10 h16 h17 F18
  have h19 := ok_leaves_all h8 h17 F19
  have h20 := ok_written_element (P := l.prog) (w := w) (base := base) B F20
  have h21 := ok_written g_P h8 h20 F21
  have bs := ob_is_sure gl F11
  have bw := ob_written gl F21
  have bn := ob_length_of gl F13
  have bl := ob_leaves_all gl F19
  have bk := ob_look_at_sure xB7 bs F12
  have bv := ob_leaving_of bk F18
  have t0 := ft_look (CS := R7) gl
  have t1 := ft_good (CS := R7) (way := 1) (by decide) (by decide) h11.x bs (fun v T H Q E h ok q1 q2 => ⟨v, T, rfl, h, ok, fun H' s => q1 _ H' s⟩)
  have t2 := ft_good (CS := R7) (way := 2) (by decide) (by decide) h21.x bw (fun v T H Q E h ok q1 q2 => ⟨v, T, rfl, h, ok, fun t H' s => q1 _ H' s⟩)
  have t3 := ft_good (CS := R7) (way := 3) (by decide) (by decide) h13.x bn (fun v T H Q E h ok q1 q2 => ⟨v, T, rfl, h, ok, fun H' s => q1 _ H' s⟩)
  have t4 := ft_good (CS := R7) (way := 4) (by decide) (by decide) h19.x bl (fun v T H Q E h ok q1 q2 => ⟨v, T, rfl, h, ok, fun H' s => q1 _ H' s⟩)
  have t5 := ft_good (CS := R7) (way := 5) (by decide) (by decide) h18 bv (fun v T H Q E h ok q1 q2 => ⟨v, T, rfl, h, ok, fun _ D us H' s _ _ _ => q1 _ H' s, fun _ => q2 rfl⟩)
  have h22 := ok_cell_atK (P := l.prog) (w := w) (base := base) B F22
  have h23 := ok_digits (P := l.prog) (w := w) (base := base) B F23
  have h24 := ok_test B h23 F24
  have h25 := ok_kind (P := l.prog) (w := w) (base := base) (c := (fun i => ([R0, R1, R2, R3, R4, R5, R6, R7, R8, R9, R10, R11, R12] : List Addr).getD i 0)) B hVE RG F25
  have h26 := og_lstep (P := l.prog) (w := w) (base := base) B F26
  have h27 := og_due B h26 F27
  have h28 := og_told B gm KX0 KX7 RX0 Rn0_0 Rn0_1 h25 t0 t1 t2 t3 t4 t5 F28
  have h29 := ok_bent (P := l.prog) (w := w) (base := base) B F29
  exact ok_law B h23 h22 h24 h13 h27 h28 h29 FL
theorem walk {l : PySem.W.OpenLaw} {q : Program} {loose : List Str} {XP : (Str → Option Value) → Heap → Prop} {YP : World → Heap → Prop} {d : DefRec} {K : Params → PySem.W.Frag} (hn : l.most = some 63) (hdf : d.params.defaults = [])
    (hY : ∀ (w : World) (h : Heap), YP w h → (K w.params).In h)
    (F : ∀ (w : World) (mg : Str → Option Value) (fa : Addr) (h : Heap), (K w.params).In h → h.Ns mainGlobals mg → mg d.name = some (.ref fa) →
      ∃ fd : FuncData, (∀ (s : Shared) (u : Value), BindsTo s fd ⟨[u], []⟩ [("_law_script", u)]) ∧ ∀ base : Heap, (K w.params).In base → base.Ns mainGlobals mg → FnOk l.prog w (K w.params) mg base CX0 10 fa fd ["_law_script"] (sp_law (K w.params))) :
    PySem.W.WalkO q loose XP YP l.row.toRowW d [] (fun f vs => PySem.call f vs) :=
  L2.walk_of (n := 63) (k := 10) (x := "_law_script") (CX := fun _ => CX0) (sp := fun w => sp_law (K w.params)) hn (by decide) hdf ⟨rfl, by decide, by decide, rfl⟩ hY F (fun _ _ a ns hl _ hS => ⟨a, ns, rfl, hS, hl, fun _ => rfl⟩) fun _ _ _ _ _ z => z
end Mm
def PySem.W.Fast.tw13675367389031089351 : Nat := 0
def PySem.W.Fast.tw171058138497387737 : Nat := 0
def PySem.W.Fast.tw4440918688234975409 : Nat := 0
def PySem.W.Fast.tw12675872714844116760 : Nat := 0
def PySem.W.Fast.tw8178464379117959252 : Nat := 0
def PySem.W.Fast.tw8565445589124378134 : Nat := 0
def PySem.W.Fast.tw11792281313915637610 := PySem.Challenge.pw_marchmend_k01_tests_looked_at
theorem PySem.W.Fast.te11792281313915637610 : PySem.Challenge.pw_marchmend_k01_tests_looked_at = PySem.W.Fast.tw11792281313915637610 := rfl
def PySem.W.Fast.tw2520415006260336129 : Nat := 0
def PySem.W.Fast.tw6789801823309588326 : Nat := 0
def PySem.W.Fast.tw4959168724922261778 : Nat := 0
def PySem.W.Fast.tw3680827674868468372 : Nat := 0
def PySem.W.Fast.tw2270932633584680208 : Nat := 0
def PySem.W.Fast.tw8172473640404351051 : Nat := 0
def PySem.W.Fast.tw10414089110103076732 : Nat := 0
def PySem.W.Fast.tw16129179815307827486 : Nat := 0
def PySem.W.Fast.tw9279884299551265730 : Nat := 0
def PySem.W.Fast.tw18216245537223160543 : Nat := 0
def PySem.W.Fast.tw15539629384630319812 : Nat := 0
def PySem.W.Fast.tw14147976040145262776 : Nat := 0
def PySem.W.Fast.tw15177571296450530389 : Nat := 0
def PySem.W.Fast.tw1053660067263511169 : Nat := 0
def PySem.W.Fast.tw4965610287972741138 : Nat := 0
def PySem.W.Fast.tw854564471715632505 : Nat := 0
def PySem.W.Fast.tw1693744745959637241 : Nat := 0
def PySem.W.Fast.tw4880543774300451140 : Nat := 0
def PySem.W.Fast.tw5726050035408411343 : Nat := 0
def PySem.W.Fast.tw16445685010789765297 : Nat := 0
def PySem.W.Fast.tw2390133545908084637 : Nat := 0
def PySem.W.Fast.tw6691640374077306298 : Nat := 0
def PySem.W.Fast.tw2986562089151610850 : Nat := 0
def PySem.W.Fast.tw4316077567296443113 : Nat := 0
def PySem.W.Fast.tw16359892279569305506 : Nat := 0
def PySem.W.Fast.tw16727227351992264046 : Nat := 0
def PySem.W.Fast.tw13817720886836102484 : Nat := 0
def PySem.W.Fast.tw17121605211019720132 : Nat := 0
def PySem.W.Fast.tw12457154736325473919 : Nat := 0
def PySem.W.Fast.tw4375400685609245350 : Nat := 0
def PySem.W.Fast.tw16206445274646458036 : Nat := 0
def PySem.W.Fast.tw14592383488581622910 : Nat := 0
def PySem.W.Fast.tw8999736040595866236 : Nat := 0
def PySem.W.Fast.tw12747151720771743795 : Nat := 0
def PySem.W.Fast.tw2660821830137316251 : Nat := 0
def PySem.W.Fast.tw11689656200249591911 : Nat := 0
def PySem.W.Fast.tw14719485582491737447 : Nat := 0
def PySem.W.Fast.tw18110131620902276926 : Nat := 0
def PySem.W.Fast.tw4558728516597130758 : Nat := 0
def PySem.W.Fast.tw7452983518938515147 : Nat := 0
def PySem.W.Fast.tw4722966823055023439 : Nat := 0
def PySem.W.Fast.tw3621000926152875312 : Nat := 0
def PySem.W.Fast.tw1742044242777714281 : Nat := 0
def PySem.W.Fast.tw1052794632533769838 : Nat := 0
def PySem.W.Fast.tw1587191628204903216 : Nat := 0
def PySem.W.Fast.tw7005209574387925226 : Nat := 0
def PySem.W.Fast.tw10808369109014378761 : Nat := 0
def PySem.W.Fast.tw14196962940797409121 : Nat := 0
def PySem.W.Fast.tw10056497333763752793 : Nat := 0
def PySem.W.Fast.tw6374316136485922665 : Nat := 0
def PySem.W.Fast.tw14409156588428641380 : Nat := 0
def PySem.W.Fast.tw14206556204070360693 : Nat := 0
def PySem.W.Fast.tw4613250044549380264 : Nat := 0
def PySem.W.Fast.tw18230419694959559972 : Nat := 0
def PySem.W.Fast.tw11897544418402720753 : Nat := 0
def PySem.W.Fast.tw10746490046874958282 : Nat := 0
def PySem.W.Fast.tw7566339938884267047 : Nat := 0
def PySem.W.Fast.tw7586746671911076933 : Nat := 0
def PySem.W.Fast.tw14407473556139914164 : Nat := 0
def PySem.W.Fast.tw16760777161114600982 : Nat := 0
def PySem.W.Fast.tw17312033529109985674 : Nat := 0
def PySem.W.Fast.tw843847490025383576 : Nat := 0
open PySem PySem.W PyProof.Rows
set_option maxRecDepth 100000 in
set_option maxHeartbeats 0 in
theorem PySem.Challenge.cw_marchmend_k01_tests_looked_at_holds : PySem.Challenge.rw_marchmend_k01_tests_looked_at.Holds := by
  w_on; o_law; k_head; (case hw => w_witness2)
  k_fill
  refine Mm.walk (l := PySem.Challenge.rw_marchmend_k01_tests_looked_at) rfl rfl (fun w h Y => PySem.W.kIn_of Y) ?F
  case F =>
    intro w mg fa h KX G hmg
    refine' Mm.all_mk KX G hmg ?a0 ?l0 ?c0 ?k0 ?a1 ?l1 ?c1 ?k1 ?a2 ?l2 ?c2 ?k2 ?a3 ?l3 ?c3 ?k3 ?a4 ?l4 ?c4 ?k4 ?a5 ?l5 ?c5 ?k5 ?a6 ?l6 ?c6 ?k6 ?a7 ?l7 ?c7 ?k7 ?a8 ?l8 ?c8 ?k8 ?a9 ?l9 ?c9 ?k9 ?a10 ?l10 ?c10 ?k10 ?a11 ?l11 ?c11 ?k11 ?a12 ?l12 ?c12 ?k12 ?a13 ?l13 ?c13 ?k13 ?a14 ?l14 ?c14 ?k14 ?a15 ?l15 ?c15 ?k15 ?a16 ?l16 ?c16 ?k16 ?a17 ?l17 ?c17 ?k17 ?a18 ?l18 ?c18 ?k18 ?a19 ?l19 ?c19 ?k19 ?a20 ?l20 ?c20 ?k20 ?a21 ?l21 ?c21 ?k21 ?a22 ?l22 ?c22 ?k22 ?a23 ?l23 ?c23 ?k23 ?a24 ?l24 ?c24 ?k24 ?a25 ?l25 ?c25 ?k25 ?a26 ?l26 ?c26 ?k26 ?a27 ?l27 ?c27 ?k27 ?a28 ?l28 ?c28 ?k28 ?a29 ?l29 ?c29 ?k29 ?a30 ?l30 ?c30 ?k30 ?z0 ?z1 ?z2 ?z3 ?z4 ?z5 ?z6 ?z7 ?z8 ?z9 ?z10 ?z11 ?z12 ?z13 ?z14 ?z15 ?RA0 ?RA1 ?RA2 ?RA3 ?RA4 ?RA5 ?RA6 ?RA7 ?RA8 ?RA9 ?RA10 ?RA11 ?RA12 ?RM_ ?Rlk0 ?Rq0 ?Rlk7 ?Rq7 ?Rex7 ?Rkp0 ?Rga0 ?Rgh0 ?Rha0 ?Rhm0 ?Rsa0 ?Ro0_0 ?Ro1_0 ?Ro2_0 ?Ro3_0 ?Ro4_0 ?Ro5_0 ?Ro6_0 ?Ro7_0 ?Ro8_0 ?Ro9_0 ?Ro10_0 ?Ro11_0 ?Ro12_0 ?Rve0 ?Rem0 ?Rn0_0 ?Rn0_1 ?Rhi0 ?Rhf0 ?RlI0 ?RcI0 ?RkI0 ?Rkp7 ?Rga7 ?Rgh7 ?Rha7 ?Rhm7 ?Rsa7 ?Ro0_7 ?Ro1_7 ?Ro2_7 ?Ro3_7 ?Ro4_7 ?Ro5_7 ?Ro6_7 ?Ro7_7 ?Ro8_7 ?Ro9_7 ?Ro10_7 ?Ro11_7 ?Ro12_7 ?Rve7 ?Rem7 ?Rhn ?Rtk ?RzV ?zall ?aO ?lO ?aL ?lL ?aT ?aE ?aP
    (case a0 => k_is)
    (case l0 => k_is)
    (case c0 => k_is)
    (case k0 => k_is)
    (case a1 => k_is)
    (case l1 => k_is)
    (case c1 => k_is)
    (case k1 => k_is)
    (case a2 => k_is)
    (case l2 => k_is)
    (case c2 => k_is)
    (case k2 => k_is)
    (case a3 => k_is)
    (case l3 => k_is)
    (case c3 => k_is)
    (case k3 => k_is)
    (case a4 => k_is)
    (case l4 => k_is)
    (case c4 => k_is)
    (case k4 => k_is)
    (case a5 => k_is)
    (case l5 => k_is)
    (case c5 => k_is)
    (case k5 => k_is)
    (case a6 => k_is)
    (case l6 => k_is)
    (case c6 => k_is)
    (case k6 => k_is)
    (case a7 => k_is)
    (case l7 => k_is)
    (case c7 => k_is)
    (case k7 => k_is)
    (case a8 => k_is)
    (case l8 => k_is)
    (case c8 => k_is)
    (case k8 => k_is)
    (case a9 => k_is)
    (case l9 => k_is)
    (case c9 => k_is)
    (case k9 => k_is)
    (case a10 => k_is)
    (case l10 => k_is)
    (case c10 => k_is)
    (case k10 => k_is)
    (case a11 => k_is)
    (case l11 => k_is)
    (case c11 => k_is)
    (case k11 => k_is)
    (case a12 => k_is)
    (case l12 => k_is)
    (case c12 => k_is)
    (case k12 => k_is)
    (case a13 => k_is)
    (case l13 => k_is)
    (case c13 => k_is)
    (case k13 => k_is)
    (case a14 => k_is)
    (case l14 => k_is)
    (case c14 => k_is)
    (case k14 => k_is)
    (case a15 => k_is)
    (case l15 => k_is)
    (case c15 => k_is)
    (case k15 => k_is)
    (case a16 => k_is)
    (case l16 => k_is)
    (case c16 => k_is)
    (case k16 => k_is)
    (case a17 => k_is)
    (case l17 => k_is)
    (case c17 => k_is)
    (case k17 => k_is)
    (case a18 => k_is)
    (case l18 => k_is)
    (case c18 => k_is)
    (case k18 => k_is)
    (case a19 => k_is)
    (case l19 => k_is)
    (case c19 => k_is)
    (case k19 => k_is)
    (case a20 => k_is)
    (case l20 => k_is)
    (case c20 => k_is)
    (case k20 => k_is)
    (case a21 => k_is)
    (case l21 => k_is)
    (case c21 => k_is)
    (case k21 => k_is)
    (case a22 => k_is)
    (case l22 => k_is)
    (case c22 => k_is)
    (case k22 => k_is)
    (case a23 => k_is)
    (case l23 => k_is)
    (case c23 => k_is)
    (case k23 => k_is)
    (case a24 => k_is)
    (case l24 => k_is)
    (case c24 => k_is)
    (case k24 => k_is)
    (case a25 => k_is)
    (case l25 => k_is)
    (case c25 => k_is)
    (case k25 => k_is)
    (case a26 => k_is)
    (case l26 => k_is)
    (case c26 => k_is)
    (case k26 => k_is)
    (case a27 => k_is)
    (case l27 => k_is)
    (case c27 => k_is)
    (case k27 => k_is)
    (case a28 => k_is)
    (case l28 => k_is)
    (case c28 => k_is)
    (case k28 => k_is)
    (case a29 => k_is)
    (case l29 => k_is)
    (case c29 => k_is)
    (case k29 => k_is)
    (case a30 => k_is)
    (case l30 => k_is)
    (case c30 => k_is)
    (case k30 => k_is)
    (case z0 => k_is)
    (case z1 => k_is)
    (case z2 => k_is)
    (case z3 => k_is)
    (case z4 => k_is)
    (case z5 => k_is)
    (case z6 => k_is)
    (case z7 => k_is)
    (case z8 => k_is)
    (case z9 => k_is)
    (case z10 => k_is)
    (case z11 => k_is)
    (case z12 => k_is)
    (case z13 => k_is)
    (case z14 => k_is)
    (case z15 => k_is)
    (case RA0 => k_is)
    (case RA1 => k_is)
    (case RA2 => k_is)
    (case RA3 => k_is)
    (case RA4 => k_is)
    (case RA5 => k_is)
    (case RA6 => k_is)
    (case RA7 => k_is)
    (case RA8 => k_is)
    (case RA9 => k_is)
    (case RA10 => k_is)
    (case RA11 => k_is)
    (case RA12 => k_is)
    (case RM_ => k_is)
    (case Rlk0 => k_is)
    (case Rq0 => rfl)
    (case Rlk7 => k_is)
    (case Rq7 => rfl)
    (case Rex7 => k_exc)
    (case Rkp0 => k_is)
    (case Rga0 => k_is)
    (case Rgh0 => k_is)
    (case Rha0 => k_is)
    (case Rhm0 => k_is)
    (case Rsa0 => k_is)
    (case Ro0_0 => kit_is)
    (case Ro1_0 => kit_is)
    (case Ro2_0 => kit_is)
    (case Ro3_0 => kit_is)
    (case Ro4_0 => kit_is)
    (case Ro5_0 => kit_is)
    (case Ro6_0 => kit_is)
    (case Ro7_0 => kit_is)
    (case Ro8_0 => kit_is)
    (case Ro9_0 => kit_is)
    (case Ro10_0 => kit_is)
    (case Ro11_0 => kit_is)
    (case Ro12_0 => kit_is)
    (case Rve0 => kit_is)
    (case Rem0 => kts_exm)
    (case Rn0_0 => k_is)
    (case Rn0_1 => k_is)
    (case Rhi0 => k_is)
    (case Rhf0 => k_is)
    (case RlI0 => k_is)
    (case RcI0 => k_is)
    (case RkI0 => k_is)
    (case Rkp7 => k_is)
    (case Rga7 => k_is)
    (case Rgh7 => k_is)
    (case Rha7 => k_is)
    (case Rhm7 => k_is)
    (case Rsa7 => k_is)
    (case Ro0_7 => kit_is)
    (case Ro1_7 => kit_is)
    (case Ro2_7 => kit_is)
    (case Ro3_7 => kit_is)
    (case Ro4_7 => kit_is)
    (case Ro5_7 => kit_is)
    (case Ro6_7 => kit_is)
    (case Ro7_7 => kit_is)
    (case Ro8_7 => kit_is)
    (case Ro9_7 => kit_is)
    (case Ro10_7 => kit_is)
    (case Ro11_7 => kit_is)
    (case Ro12_7 => kit_is)
    (case Rve7 => kit_is)
    (case Rem7 => kts_exm)
    (case Rhn => k_is)
    (case Rtk => k_is)
    (case RzV => k_is)
    (case zall => k_is)
    (case aO => k_is)
    (case lO => k_is)
    (case aL => k_is)
    (case lL => k_is)
    (case aT => k_is)
    (case aE => k_is)
    (case aP => k_is)
#print axioms PySem.Challenge.cw_marchmend_k01_tests_looked_at_holds
