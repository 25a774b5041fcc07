import PyProof.Rows.All
import Wide.All
import OpenK.AllK
import Wide.FinOn
import Lean
import PyProof.EqAt
import PyProof.EqKinds
import PyProof.TupleCall
import PyProof.StrLawsTight
import PyProof.Rows.StrJoin2
import PyProof.Rows.StrSplitJoin
import KE.KTab
import PyProof.ZipIter
import PyProof.Rows.TupIter
import PyProof.Rows.SortWalk
import PyProof.Rows.SortStr
import PyProof.ConsumeWalk
import KE.KRevSl
import KE.KTryMore
import PyProof.NsDelKeeps
import PyProof.NeKinds
import KE.KIntText
import PyProof.SetKind
import PyProof.SetRoads
import PyProof.Rows.SetFrom
import PyProof.CollectWalk
import PyProof.CollectIter
import PyProof.Rows.SortShell
import PyProof.Rows.MinMaxN
import PySem.Challenge.RW_marchmend_k52_mended_reads
set_option Elab.async false
set_option linter.all false
set_option maxRecDepth 100000
namespace L2
open PySem PySem.Spec PyProof.Rows

/-- a key: an int or a str -/
abbrev Key := Sum Int Str
def keyIs : Key → Value → Bool
  | .inl k, v => Value.isInt k v
  | .inr x, v => Value.isStrOf x v
def keyH (w : World) : Key → Int
  | .inl k => hashInt k
  | .inr x => hashStr w x
theorem keyIs_shape : ∀ {k : Key} {v : Value}, keyIs k v = true → (∃ i t, k = Sum.inl i ∧ v = Value.int i t) ∨ (∃ x t, k = Sum.inr x ∧ v = Value.str x t)
  | .inl i, v, h => by
    obtain ⟨t, e⟩ := Value.isInt_shape (k := i) (v := v) h
    exact .inl ⟨i, t, rfl, e⟩
  | .inr x, v, h => by
    obtain ⟨t, e⟩ := Value.isStrOf_shape (x := x) (v := v) h
    exact .inr ⟨x, t, rfl, e⟩
theorem keyIs_int (i : Int) (t : Tok) : keyIs (.inl i) (.int i t) = true := by simp [keyIs, Value.isInt]
theorem keyIs_str (x : Str) (t : Tok) : keyIs (.inr x) (.str x t) = true := by simp [keyIs, Value.isStrOf]
theorem key_ll (a b : Int) : decide ((Sum.inl a : Key) = Sum.inl b) = (a == b) := by
  by_cases e : a = b
  · subst e; simp
  · have h : ¬ (Sum.inl a : Key) = Sum.inl b := fun q => e (Sum.inl.inj q)
    rw [decide_eq_false h]
    exact (beq_eq_false_iff_ne.mpr e).symm
theorem key_rr (a b : Str) : decide ((Sum.inr a : Key) = Sum.inr b) = decide (a = b) := by
  by_cases e : a = b
  · subst e; simp
  · have h : ¬ (Sum.inr a : Key) = Sum.inr b := fun q => e (Sum.inr.inj q)
    rw [decide_eq_false h, decide_eq_false e]
theorem key_lr (a : Int) (b : Str) : decide ((Sum.inl a : Key) = Sum.inr b) = false := decide_eq_false (fun q => nomatch q)
theorem key_rl (a : Str) (b : Int) : decide ((Sum.inr a : Key) = Sum.inl b) = false := decide_eq_false (fun q => nomatch q)

def mixKind (prog : Program) (w : World) : PySem.KeyKind prog w Key where
  is := keyIs
  hash := keyH w
  inj := fun v a b ha hb => by
    rcases keyIs_shape ha with ⟨i, t, rfl, rfl⟩ | ⟨x, t, rfl, rfl⟩
    · rcases keyIs_shape hb with ⟨j, u, rfl, e⟩ | ⟨y, u, rfl, e⟩
      · injection e with e1 _; rw [e1]
      · exact nomatch e
    · rcases keyIs_shape hb with ⟨j, u, rfl, e⟩ | ⟨y, u, rfl, e⟩
      · exact nomatch e
      · injection e with e1 _; rw [e1]
  byValue := fun k v h => by
    rcases keyIs_shape h with ⟨i, t, rfl, rfl⟩ | ⟨x, t, rfl, rfl⟩ <;> rfl
  pyHash := fun hv h => by
    rcases keyIs_shape hv with ⟨i, t, rfl, rfl⟩ | ⟨x, t, rfl, rfl⟩
    · exact wpAny_pyHash_int h
    · exact wpAny_pyHash_str h
  eqBool := fun hu hv h => by
    rcases keyIs_shape hu with ⟨i, t, rfl, rfl⟩ | ⟨x, t, rfl, rfl⟩
    · rcases keyIs_shape hv with ⟨j, u, rfl, rfl⟩ | ⟨y, u, rfl, rfl⟩
      · rw [key_ll] at h; exact wpAny_eqBool_int h
      · rw [key_lr] at h; exact SeqAt.EqAt.int_str i t y u _ _ _ _ h
    · rcases keyIs_shape hv with ⟨j, u, rfl, rfl⟩ | ⟨y, u, rfl, rfl⟩
      · rw [key_rl] at h; exact SeqAt.EqAt.str_int x t j u _ _ _ _ h
      · rw [key_rr] at h; exact wpAny_eqBool_str h
  «strs» := fun k x t v h => by
    rcases keyIs_shape h with ⟨i, u, rfl, e⟩ | ⟨y, u, rfl, e⟩
    · exact nomatch e
    · injection e with e1 _
      subst e1
      cases v <;> rfl

theorem mixKind_int (prog : Program) (w : World) (i : Int) (t : Tok) : (mixKind prog w).is (.inl i) (.int i t) = true := keyIs_int i t
theorem mixKind_str (prog : Program) (w : World) (x : Str) (t : Tok) : (mixKind prog w).is (.inr x) (.str x t) = true := keyIs_str x t
end L2

namespace L2
open PySem PySem.Spec PyProof.Rows

/-- a value, without the heap -/
inductive V where
  | non | bl (b : Bool) | int (i : Int) | str (x : Str) | byt (b : Array UInt8) | flt (b : UInt64) | ref (a : Addr) | ty (n : String)
  deriving DecidableEq

def RelV : V → Value → Prop
  | .non, u => u = Value.none
  | .bl b, u => u = Value.bool b
  | .int i, u => ∃ t, u = Value.int i t
  | .str x, u => ∃ t, u = Value.str x t
  | .byt b, u => ∃ t, u = Value.bytes b t
  | .flt b, u => ∃ t, u = Value.float b t
  | .ref a, u => u = Value.ref a
  | .ty n, u => u = Value.type n

abbrev Vals : List V → List Value → Prop := Paired RelV
theorem Vals.length {xs : List V} {us : List Value} (r : Vals xs us) : xs.length = us.length := Paired.length r
theorem Vals.get : ∀ {xs : List V} {us : List Value} {i : Nat} {x : V}, Vals xs us → xs[i]? = some x → ∃ u, us[i]? = some u ∧ RelV x u
  | _, _, _, _, .nil, e => by simp at e
  | _, _, 0, _, .cons r _, e => by simp at e; subst e; exact ⟨_, rfl, r⟩
  | _, _, i + 1, x, .cons _ t, e => by
    obtain ⟨u, h1, h2⟩ := Vals.get (i := i) (x := x) t (by simpa using e)
    exact ⟨u, by simpa using h1, h2⟩
theorem Vals.set {x : V} {u : Value} (r : RelV x u) : ∀ {xs : List V} {us : List Value} (i : Nat), Vals xs us → Vals (xs.set i x) (us.set i u)
  | _, _, _, .nil => .nil
  | _, _, 0, .cons _ t => .cons r t
  | _, _, i + 1, .cons q t => .cons q (Vals.set r i t)
theorem Vals.append : ∀ {xs ys : List V} {us ws : List Value}, Vals xs us → Vals ys ws → Vals (xs ++ ys) (us ++ ws)
  | _, _, _, _, .nil, s => s
  | _, _, _, _, .cons r t, s => .cons r (Vals.append t s)
theorem Vals.take : ∀ {xs : List V} {us : List Value} (n : Nat), Vals xs us → Vals (xs.take n) (us.take n)
  | _, _, 0, _ => .nil
  | _, _, _ + 1, .nil => .nil
  | _, _, n + 1, .cons r t => .cons r (Vals.take n t)
theorem Vals.drop : ∀ {xs : List V} {us : List Value} (n : Nat), Vals xs us → Vals (xs.drop n) (us.drop n)
  | _, _, 0, r => r
  | _, _, _ + 1, .nil => .nil
  | _, _, n + 1, .cons _ t => Vals.drop n t
def RelO : Option V → Option Value → Prop
  | some v, some u => RelV v u
  | none, none => True
  | _, _ => False
def KV {κ : Type} : List (κ × V) → List (κ × Value) → Prop := Paired fun (p : κ × V) (q : κ × Value) => p.1 = q.1 ∧ RelV p.2 q.2

/-- a key of a dict (00_mix): an int or a text -/
def kV : Key → V
  | .inl i => .int i
  | .inr x => .str x

/-- what stands at a tracked address -/
inductive HO where
  /-- a list -/
  | lst (xs : List V)
  /-- a tuple (never changes) -/
  | tup (xs : List V)
  /-- a dict whose keys are ints and texts; one whose keys are tuples of ints and texts (the empty one is both) -/
  | dK (kvs : List (Key × V)) | dT (kvs : List (List Key × V))
  /-- a set of ints: its members, its size -/
  | set (S : Int → Bool) (n : Nat)
  /-- an instance of the class at C, its dict at dx, its attributes -/
  | ins (C dx : Addr) (fs : List (Str × V))
  /-- the dict of the instance at x -/
  | own (x : Addr)
  /-- the dict of an exception -/
  | xd (fs : List (Str × V))
  /-- a bound method, f of x -/
  | met (f x : Addr)
  /-- a range object lo, lo + 1, .. below hi -/
  | rng (lo hi : Int)
  /-- a thing that is known to the object (the script; a dict while a loop walks it): read, never written while it is so -/
  | frz (o : Obj) (u : HO)
  /-- a code object's table -/
  | tbl (ps : Array Value)
  /-- any other thing, by what is true of its one object (a def of one's own: SetO a S n := HO.ext fun h => ..) -/
  | ext (φ : Heap → Prop)

abbrev Hp := Addr → Option HO
def upd (H : Hp) (a : Addr) (o : HO) : Hp := fun b => if b = a then some o else H b
theorem upd_same {H : Hp} {a : Addr} {o : HO} : upd H a o a = some o := by unfold upd; rw [if_pos rfl]
theorem upd_ne {H : Hp} {a b : Addr} {o : HO} (h : b ≠ a) : upd H a o b = H b := by unfold upd; rw [if_neg h]
theorem upd_upd {H : Hp} {a : Addr} {o u : HO} : upd (upd H a o) a u = upd H a u := by
  funext b; unfold upd; split <;> rfl
/-- two objects of different content stand apart -/
theorem ne_of {H : Hp} {a b : Addr} {o u : HO} (h : H a = some o) (h' : H b = some u) (d : o ≠ u) : a ≠ b := by
  intro e; subst e; rw [h] at h'; exact d (Option.some.inj h')
theorem ne_of_none {H : Hp} {a b : Addr} {o : HO} (h : H a = some o) (h' : H b = none) : a ≠ b := by
  intro e; subst e; rw [h] at h'; cases h'

section
variable (P : Program) (w : World)
def ObjOk (H : Hp) (h : Heap) (a : Addr) : HO → Prop
  | .lst xs => xs.length ≤ sizeLine ∧ ∃ (its : List Value) (n : Nat), Vals xs its ∧ h.get? a = some { cls := .type "list", data := .seq its.toArray n }
  | .tup xs => xs.length ≤ sizeLine ∧ ∃ its : List Value, Vals xs its ∧ IsTup h a its.toArray
  | .dK kvs => kvs.length ≤ sizeLine ∧ (a == sysModules) = false ∧ ∃ vs, KV kvs vs ∧ h.DictOf (mixKind P w) a vs
  | .dT kvs => kvs.length ≤ sizeLine ∧ (a == sysModules) = false ∧ ∃ xs : List (List Key × Addr × Value),
      Paired (fun (p : List Key × V) (q : List Key × Addr × Value) => p.1 = q.1 ∧ H q.2.1 = some (.tup (p.1.map kV)) ∧ RelV p.2 q.2.2) kvs xs ∧
      ∃ o es ep, h.get? a = some o ∧ o.ExactDict ∧ o.data = .dict es ep ∧ es.toList = xs.map (entryOfKey (tupleKind (mixKind P w))) ∧ (xs.map (·.1)).Nodup
  | .set S n => h.SetOf (intKind P w) a S n
  | .ins C dx fs => H dx = some (.own a) ∧ fs.length ≤ 1000 ∧ dx ≠ a ∧ h.get? a = some (PySem.W.instObj C dx) ∧
      ∃ mA, h.Ns1 dx mA ∧ (∀ f, RelO (fs.lookup f) (mA f)) ∧ PySem.Within mA (fs.map (·.1))
  | .own _ => ∃ o, h.get? a = some o
  | .xd fs => ∃ mA, h.Ns1 a mA ∧ ∀ f, RelO (fs.lookup f) (mA f)
  | .rng lo hi => ∃ t u v, h.get? a = some { cls := .type "range", data := .fields #[.int lo t, .int hi u, .int 1 v] }
  | .frz o u => h.get? a = some o ∧ ObjOk H h a u
  | .tbl ps => h.get? a = some { cls := .none, data := .fields ps }
  | .met f x => h.get? a = some (PySem.W.methodObj (.ref f) (.ref x))
  | .ext φ => φ h ∧ (∃ o, h.get? a = some o) ∧ ∀ h1 h2 : Heap, φ h1 → (∀ o, h1.get? a = some o → h2.get? a = some o) → φ h2
/-- the abstract heap is held -/
def HOk (H : Hp) (h : Heap) : Prop := ∀ a o, H a = some o → ObjOk P w H h a o
end

section
variable {P : Program} {w : World} {H H' : Hp} {h h' : Heap} {a : Addr} {o : HO}
theorem ObjOk.lt (x : ObjOk P w H h a o) : a < h.objs.size := by
  cases o with
  | lst xs => obtain ⟨_, _, _, _, e⟩ := x; exact Heap.lt_size e
  | tup xs => obtain ⟨_, _, _, p⟩ := x; exact p.lt
  | dK kvs => obtain ⟨_, _, _, _, o, _, _, e, _⟩ := x; exact Heap.lt_size e
  | dT kvs => obtain ⟨_, _, _, _, o, _, _, e, _⟩ := x; exact Heap.lt_size e
  | set S n => obtain ⟨o, _, _, _, e, _⟩ := x; exact Heap.lt_size e
  | ins C dx fs => obtain ⟨_, _, _, e, _⟩ := x; exact Heap.lt_size e
  | own y => obtain ⟨_, e⟩ := x; exact Heap.lt_size e
  | xd fs => obtain ⟨_, ⟨_, _, _, e, _⟩, _⟩ := x; exact Heap.lt_size e
  | rng lo hi => obtain ⟨_, _, _, e⟩ := x; exact Heap.lt_size e
  | frz ob u => obtain ⟨e, _⟩ := x; exact Heap.lt_size e
  | tbl ps => exact Heap.lt_size (show h.get? a = some _ from x)
  | met f y => exact Heap.lt_size (show h.get? a = some _ from x)
  | ext φ => obtain ⟨_, ⟨_, e⟩, _⟩ := x; exact Heap.lt_size e
theorem Paired.mapP {α β : Type} {F G : α → β → Prop} : ∀ {l₁ : List α} {l₂ : List β}, Paired F l₁ l₂ → (∀ a b, F a b → G a b) → Paired G l₁ l₂
  | _, _, .nil, _ => .nil
  | _, _, .cons r t, f => .cons (f _ _ r) (Paired.mapP t f)
/-- what an object's description leans on: its own object, its own dict, the tuples -/
theorem ObjOk.stay (x : ObjOk P w H h a o) (k : ∀ b u, (b = a ∨ H b = some (.own a)) → h.get? b = some u → h'.get? b = some u)
    (ho : ∀ b, H b = some (.own a) → H' b = some (.own a)) (ht : ∀ b xs, H b = some (.tup xs) → H' b = some (.tup xs)) : ObjOk P w H' h' a o := by
  induction o with
  | lst xs => obtain ⟨z, its, n, r, e⟩ := x; exact ⟨z, its, n, r, k _ _ (.inl rfl) e⟩
  | tup xs => obtain ⟨z, its, r, ob, e, c⟩ := x; exact ⟨z, its, r, ob, k _ _ (.inl rfl) e, c⟩
  | dK kvs => obtain ⟨z, y, vs, r, ob, es, ep, e, c⟩ := x; exact ⟨z, y, vs, r, ob, es, ep, k _ _ (.inl rfl) e, c⟩
  | dT kvs =>
    obtain ⟨z, y, xs, r, ob, es, ep, e, c⟩ := x
    exact ⟨z, y, xs, Paired.mapP r fun p q z => ⟨z.1, ht _ _ z.2.1, z.2.2⟩, ob, es, ep, k _ _ (.inl rfl) e, c⟩
  | set S n => obtain ⟨ob, es, ep, t, e, c⟩ := x; exact ⟨ob, es, ep, t, k _ _ (.inl rfl) e, c⟩
  | ins C dx fs =>
    obtain ⟨d, z, ne, e, mA, ⟨od, es, ep, e2, c⟩, r⟩ := x
    exact ⟨ho _ d, z, ne, k _ _ (.inl rfl) e, mA, ⟨od, es, ep, k _ _ (.inr d) e2, c⟩, r⟩
  | own y => obtain ⟨ob, e⟩ := x; exact ⟨ob, k _ _ (.inl rfl) e⟩
  | xd fs => obtain ⟨mA, ⟨od, es, ep, e, c⟩, r⟩ := x; exact ⟨mA, ⟨od, es, ep, k _ _ (.inl rfl) e, c⟩, r⟩
  | rng lo hi => obtain ⟨t, u, v, e⟩ := x; exact ⟨t, u, v, k _ _ (.inl rfl) e⟩
  | frz ob u ih => obtain ⟨e, q⟩ := x; exact ⟨k _ _ (.inl rfl) e, ih q⟩
  | tbl ps =>
    have e : h.get? a = some { cls := .none, data := .fields ps } := x
    show h'.get? a = some { cls := .none, data := .fields ps }
    exact k a _ (.inl rfl) e
  | met f y =>
    have e : h.get? a = some (PySem.W.methodObj (.ref f) (.ref y)) := x
    show h'.get? a = some (PySem.W.methodObj (.ref f) (.ref y))
    exact k a _ (.inl rfl) e
  | ext φ => obtain ⟨p, ⟨o, e⟩, st⟩ := x; exact ⟨st _ _ p fun o q => k _ _ (.inl rfl) q, ⟨o, k _ _ (.inl rfl) e⟩, st⟩
theorem HOk.lt (x : HOk P w H h) (e : H a = some o) : a < h.objs.size := (x a o e).lt
theorem HOk.fresh (x : HOk P w H h) (e : h.objs.size ≤ a) : H a = none := by
  cases q : H a with
  | none => rfl
  | some u => exact absurd (Nat.lt_of_lt_of_le (x.lt q) e) (Nat.lt_irrefl _)
/-- every object of the heap is kept -/
theorem HOk.kept (x : HOk P w H h) (k : ∀ b u, h.get? b = some u → h'.get? b = some u) : HOk P w H h' := fun a o e =>
  (x a o e).stay (fun b u _ q => k b u q) (fun _ q => q) fun _ _ q => q
/-- a new object is laid and tracked -/
theorem HOk.laid (x : HOk P w H h) (k : ∀ b u, h.get? b = some u → h'.get? b = some u) (hp : h.objs.size ≤ a) (new : ObjOk P w (upd H a o) h' a o) : HOk P w (upd H a o) h' := fun b u e => by
  have hn := x.fresh hp
  by_cases hb : b = a
  · subst hb; rw [upd_same] at e; cases e; exact new
  · rw [upd_ne hb] at e
    exact (x b u e).stay (fun c v _ q => k c v q) (fun c q => by rw [upd_ne (ne_of_none q hn)]; exact q) fun c xs q => by rw [upd_ne (ne_of_none q hn)]; exact q
end

/-- what may be read as u: it is u, or a known u -/
def Rd (H : Hp) (a : Addr) (u : HO) : Prop := H a = some u ∨ ∃ o, H a = some (.frz o u)
theorem Rd.ok {P : Program} {w : World} {H : Hp} {h : Heap} {a : Addr} {u : HO} (r : Rd H a u) (x : HOk P w H h) : ObjOk P w H h a u := by
  rcases r with r | ⟨o, r⟩
  · exact x a u r
  · obtain ⟨_, q⟩ := x a _ r
    exact q
/-- what may be written -/
def Mut : Option HO → Prop
  | some (.lst _) => True
  | some (.dK _) => True
  | some (.dT _) => True
  | some (.set _ _) => True
  | some (.ins _ _ _) => True
  | some (.ext _) => True
  | _ => False
section
variable {P : Program} {w : World} {H : Hp} {h h' : Heap} {x e : Addr} {o' : HO}
/-- the object at e is changed: x itself, or the dict of the instance x -/
theorem HOk.write (ok : HOk P w H h) (mu : Mut (H x)) (he : e = x ∨ H e = some (.own x)) (k : ∀ b u, b ≠ e → h.get? b = some u → h'.get? b = some u) (heo : ∃ u, h'.get? e = some u)
    (new : ObjOk P w (upd H x o') h' x o') : HOk P w (upd H x o') h' := fun b u q => by
  have nown : ∀ c y, H c = some (.own y) → c ≠ x := fun c y r z => by subst z; rw [r] at mu; exact mu
  have ntup : ∀ c xs, H c = some (.tup xs) → c ≠ x := fun c xs r z => by subst z; rw [r] at mu; exact mu
  by_cases hb : b = x
  · subst hb; rw [upd_same] at q; cases q; exact new
  · rw [upd_ne hb] at q
    by_cases hbe : b = e
    · have q' : H b = some (.own x) := by
        rcases he with z | z
        · exact absurd (hbe.trans z) hb
        · rw [hbe]; exact z
      rw [q] at q'; cases q'
      obtain ⟨v, hv⟩ := heo
      exact ⟨v, by rw [hbe]; exact hv⟩
    · refine (ok b u q).stay (fun c v hc r => k c v ?_ r) (fun c r => by rw [upd_ne (nown c b r)]; exact r) fun c xs r => by rw [upd_ne (ntup c xs r)]; exact r
      rcases hc with rfl | hc
      · exact hbe
      · rintro rfl
        rcases he with z | z
        · exact nown c b hc z
        · rw [hc] at z; cases z; exact hb rfl
end

structure Un (fs ex : List Addr) (H H' : Hp) (h h' : Heap) : Prop where
  keep : ∀ b o, h.get? b = some o → H b = none → b ∉ fs → b ∉ ex → h'.get? b = some o
  slot : ∀ b o, h.get? b = some o → H b = none → b ∈ fs → b ∉ ex → ∃ sl, h'.get? b = some { o with slots := sl }
  free : ∀ b o, h.get? b = some o → H b = none → b ∉ ex → H' b = none
  there : ∀ b o, h.get? b = some o → b ∉ ex → ∃ o', h'.get? b = some o'
  tups : ∀ b xs, H b = some (.tup xs) → H' b = some (.tup xs)
  frzs : ∀ b o u, H b = some (.frz o u) → H' b = some (.frz o u)
  tbls : ∀ b ps, H b = some (.tbl ps) → ∃ more, H' b = some (.tbl (ps ++ more))
section
variable {fs fs' ex ex' : List Addr} {H H1 H2 : Hp} {h h1 h2 h' : Heap} {a x e : Addr} {o : HO}
theorem Un.any (u : Un fs ex H H1 h h1) {b : Addr} {ob : Obj} (q : h.get? b = some ob) (n : H b = none) (hx : b ∉ ex) : ∃ sl, h1.get? b = some { ob with slots := sl } := by
  by_cases hb : b ∈ fs
  · exact u.slot b ob q n hb hx
  · exact ⟨ob.slots, u.keep b ob q n hb hx⟩
theorem Un.kept (k : ∀ b u, h.get? b = some u → h'.get? b = some u) : Un fs ex H H h h' :=
  ⟨fun b ob q _ _ _ => k b ob q, fun b ob q _ _ _ => ⟨ob.slots, k b ob q⟩, fun _ _ _ n _ => n, fun b ob q _ => ⟨ob, k b ob q⟩, fun _ _ q => q, fun _ _ _ q => q, fun _ ps q => ⟨#[], by rw [q]; simp⟩⟩
theorem Un.refl : Un fs ex H H h h := Un.kept fun _ _ q => q
theorem Un.laid (k : ∀ b u, h.get? b = some u → h'.get? b = some u) (hp : h.objs.size ≤ a) (hn : H a = none) : Un fs ex H (upd H a o) h h' where
  keep := fun b u q _ _ _ => k b u q
  slot := fun b u q _ _ _ => ⟨u.slots, k b u q⟩
  free := fun b u q n _ => by rw [upd_ne (Nat.ne_of_lt (Nat.lt_of_lt_of_le (Heap.lt_size q) hp))]; exact n
  there := fun b u q _ => ⟨u, k b u q⟩
  tups := fun b xs q => by rw [upd_ne (ne_of_none q hn)]; exact q
  frzs := fun b u xs q => by rw [upd_ne (ne_of_none q hn)]; exact q
  tbls := fun b ps q => ⟨#[], by rw [upd_ne (ne_of_none q hn), q]; simp⟩
theorem Un.write (mu : Mut (H x)) (he : e = x ∨ H e = some (.own x)) (k : ∀ b u, b ≠ e → h.get? b = some u → h'.get? b = some u) (heo : ∃ u, h'.get? e = some u) : Un fs ex H (upd H x o) h h' := by
  have hx : ∀ b, H b = none → b ≠ x := fun b n z => by subst z; rw [n] at mu; exact mu
  have hb : ∀ b, H b = none → b ≠ e := fun b n z => by
    subst z
    rcases he with r | r
    · exact hx b n r
    · rw [n] at r; cases r
  have hm : ∀ b u, H b = some u → ¬ Mut (some u) → b ≠ x := fun b u q nm z => by subst z; rw [q] at mu; exact nm mu
  refine ⟨fun b u q n _ _ => k b u (hb b n) q, fun b u q n _ _ => ⟨u.slots, k b u (hb b n) q⟩, fun b u q n _ => by rw [upd_ne (hx b n)]; exact n, fun b u q _ => ?_,
    fun b xs q => by rw [upd_ne (hm b _ q fun z => z)]; exact q, fun b u xs q => by rw [upd_ne (hm b _ q fun z => z)]; exact q, fun b ps q => ⟨#[], by rw [upd_ne (hm b _ q fun z => z), q]; simp⟩⟩
  by_cases hbe : b = e
  · subst hbe; exact heo
  · exact ⟨u, k b u hbe q⟩
end

def trk (h : Heap) (H : Hp) : List Addr := (List.range h.objs.size).filter fun a => (H a).isSome
def hidT (h : Heap) (H : Hp) : Heap := PySem.W.hideAll h (trk h H)
theorem hidT_size (h : Heap) (H : Hp) : (hidT h H).objs.size = h.objs.size := PySem.W.hideAll_size _ _
theorem hidT_get {h : Heap} {H : Hp} {b : Addr} {o : Obj} (e : h.get? b = some o) (n : H b = none) : (hidT h H).get? b = some o :=
  PySem.W.hideAll_get _ e fun hm => by
    have q : (H b).isSome = true := (List.mem_filter.mp hm).2
    rw [n] at q; simp at q
theorem of_hidT {h : Heap} {H : Hp} {b : Addr} {o : Obj} (e : (hidT h H).get? b = some o) : h.get? b = some o ∧ H b = none := by
  have e' : h.get? b = some o := PySem.W.of_hideAll (trk h H) e
  refine ⟨e', ?_⟩
  cases q : H b with
  | none => rfl
  | some x =>
    have hm : b ∈ trk h H := List.mem_filter.mpr ⟨List.mem_range.mpr (Heap.lt_size e'), by simp [q]⟩
    have z : (hidT h H).get? b = none := PySem.W.hideAll_none (trk h H) hm
    rw [z] at e; cases e

end L2

namespace L2
open PySem PySem.Spec PyProof.Rows

/-- the module's facts, over the base: the heap at the law's entry without what is tracked there -/
structure Mod (K : PySem.W.Frag) (mg : Str → Option Value) (base : Heap) : Prop where
  kin : K.In base
  glob : base.Ns mainGlobals mg
  blt : ∃ mb, base.Ns builtinsNs mb ∧ ∀ x : Str, x ≠ "__name__" → mb x = bootBuiltins x
  nolimit : base.NoLimit

/-- the context: a def's body (or a comprehension's block) running. base: fixed through the whole law; s₀, H₀: the entry; outer: the frames whose slots others may change (a def's callers); stack: all frames that run;
   ex: iterators that were made ahead of the entry and are walked here (a comprehension's); fn: the names whose cells were made at the entry (a def: all; a comprehension's block: its own); calm: not within an except suite; pn: pins that every state bears; xe: what is wanted of an exception that leaves the code -/
structure Cx where
  prog : Program
  w : World
  K : PySem.W.Frag
  mg : Str → Option Value
  base : Heap
  A : Around
  N : List Str
  s₀ : Shared
  H₀ : Hp
  env : Env
  outer : List Env
  stack : List Env
  ex : List Addr
  fn : Str → Bool
  calm : Bool
  pn : List (Addr × Obj)
  xe : Value → Shared → Prop
/-- the callers' frames -/
def frs (l : List Env) : List Addr := l.filterMap (·.frame)
abbrev Cx.fs (X : Cx) : List Addr := frs X.outer

def Vis (sc : Scope) (x : Str) : Prop := sc.names.lookup x = some .local ∨ sc.names.lookup x = some .cell ∨ sc.names.lookup x = some .free
def Loc (sc : Scope) (x : Str) : Prop := sc.names.lookup x = some .local ∨ sc.names.lookup x = some .cell
def Look (env : Env) (h : Heap) (m : Str → Option Value) (x : Str) (u : Value) : Prop :=
  (env.kindOf x = some .local ∧ m x = some u) ∨ ((env.kindOf x = some .cell ∨ env.kindOf x = some .free) ∧ ∃ c, env.cells.lookup x = some c ∧ h.IsCell c (some u))

structure Cx.Ok (X : Cx) : Prop where
  mod : Mod X.K X.mg X.base
  kind : X.env.scope.kind = .function
  glob : X.env.globals = mainGlobals
  blt : X.env.builtins = builtinsNs
  above : X.s₀.heap.objs.size ≤ X.env.locals
  inj : ∀ x y c, X.env.cells.lookup x = some c → X.env.cells.lookup y = some c → x = y
  has : ∀ x, (X.env.kindOf x = some .cell ∨ X.env.kindOf x = some .free) → ∃ c, X.env.cells.lookup x = some c
  cab : ∀ x c, X.fn x = true → X.env.cells.lookup x = some c → X.s₀.heap.objs.size ≤ c
  hd : X.calm = true → X.A.handled = none
  frames : X.A.frames = some X.stack
  stk : X.stack = X.outer ∨ (X.stack = X.env :: X.outer ∧ X.env.frame = some X.env.locals)
  exf : ∀ b ∈ X.ex, b ≠ X.env.locals ∧ ∀ x c, X.env.cells.lookup x = some c → c ≠ b
  bs : ∀ b o, X.base.get? b = some o → X.s₀.heap.get? b = some o ∧ X.H₀ b = none
  bsz : X.base.objs.size ≤ X.s₀.heap.objs.size
  noex : ∀ b o, X.base.get? b = some o → b ∉ X.ex
  exfs : ∀ b ∈ X.ex, b ∉ X.fs
  funs : X.s₀.heap.FunFrames X.base X.outer
  frf : ∀ b ∈ X.fs, X.H₀ b = none

structure Inv (X : Cx) (pins : List (Addr × Obj)) (σ : List (Option V)) (H : Hp) (s : Shared) : Prop where
  ok : X.Ok
  os : s.os = X.s₀.os
  bare : AllBare s.gens
  base : Un X.fs X.ex X.H₀ H X.s₀.heap s.heap
  loc : ∃ m, s.heap.Ns X.env.locals m ∧ ∀ (i : Nat) (x : Str) (v : V), X.N[i]? = some x → σ[i]? = some (some v) → Vis X.env.scope x → ∃ u, RelV v u ∧ Look X.env s.heap m x u
  cell : ∀ x c, X.env.cells.lookup x = some c → ∃ v, s.heap.IsCell c v
  free : H X.env.locals = none
  freeC : ∀ x c, X.env.cells.lookup x = some c → H c = none
  pin : ∀ p ∈ X.pn ++ pins, s.heap.get? p.1 = some p.2 ∧ H p.1 = none ∧ p.1 ≠ X.env.locals ∧ p.1 ∉ X.fs ∧ ∀ v, p.2.data ≠ .cell v
  hok : HOk X.prog X.w H s.heap
  len : σ.length = X.N.length

section
variable {X : Cx} {pins : List (Addr × Obj)} {σ : List (Option V)} {H H' : Hp} {s : Shared} {h' : Heap}

theorem Cx.Ok.nofr (ok : X.Ok) {b : Addr} {o : Obj} (e : X.base.get? b = some o) : b ∉ X.fs := fun hb => by
  have := (ok.funs.mem hb).1
  rw [e] at this; cases this
theorem Inv.bs (I : Inv X pins σ H s) : ∀ b o, X.base.get? b = some o → s.heap.get? b = some o ∧ H b = none := fun b o e =>
  ⟨I.base.keep b o (I.ok.bs b o e).1 (I.ok.bs b o e).2 (I.ok.nofr e) (I.ok.noex b o e), I.base.free b o (I.ok.bs b o e).1 (I.ok.bs b o e).2 (I.ok.noex b o e)⟩
theorem Inv.bk (I : Inv X pins σ H s) : ∀ b o, X.base.get? b = some o → s.heap.get? b = some o := fun b o e => (I.bs b o e).1
theorem Inv.mod (I : Inv X pins σ H s) : Mod X.K X.mg X.base := I.ok.mod
theorem Inv.kIn (I : Inv X pins σ H s) : X.K.In s.heap := I.ok.mod.kin.keeps I.bk
/-- the frame over the base: for OpenK's rules (K.In X.base is I.mod.kin) -/
theorem Inv.fr (I : Inv X pins σ H s) : ∃ m, Fr X.base X.env.locals s.heap m :=
  let ⟨m, hn, _⟩ := I.loc
  ⟨m, hn, I.bk, Nat.le_trans I.ok.bsz I.ok.above⟩
theorem Inv.lt (I : Inv X pins σ H s) : X.env.locals < s.heap.objs.size := let ⟨_, hn, _⟩ := I.loc; hn.lt
theorem Inv.sz (I : Inv X pins σ H s) : X.s₀.heap.objs.size ≤ s.heap.objs.size := Nat.le_trans I.ok.above (Nat.le_of_lt I.lt)
theorem Inv.nofs (I : Inv X pins σ H s) {a : Addr} (h : s.heap.objs.size ≤ a) : a ∉ X.fs := fun hb => by
  obtain ⟨_, o, ho, _⟩ := I.ok.funs.mem hb
  exact absurd (Nat.lt_of_lt_of_le (Heap.lt_size ho) (Nat.le_trans I.sz h)) (Nat.lt_irrefl _)
theorem Inv.cne (I : Inv X pins σ H s) : ∀ x c, X.env.cells.lookup x = some c → c ≠ X.env.locals := fun x c e z => by
  obtain ⟨v, o, ho, hd⟩ := I.cell x c e
  obtain ⟨m, ⟨o', es, ep, ho', hd', _⟩, _⟩ := I.loc
  rw [z, ho'] at ho; cases ho; rw [hd'] at hd; cases hd
theorem Inv.funs (I : Inv X pins σ H s) : s.heap.FunFrames X.base X.outer := by
  have all : ∀ (l : List Env), (∀ b ∈ frs l, b ∈ X.fs) → X.s₀.heap.FunFrames X.base l → s.heap.FunFrames X.base l := by
    intro l
    induction l with
    | nil => intro _ _; trivial
    | cons env r ih =>
      intro hs hl
      obtain ⟨hk, ⟨L, o, hf, hn, ho, hd⟩, hr⟩ := hl
      have hL : L ∈ X.fs := hs L (by unfold frs; rw [List.filterMap_cons, hf]; exact List.mem_cons_self)
      obtain ⟨sl, e⟩ := I.base.slot L o ho (I.ok.frf L hL) hL fun z => I.ok.exfs L z hL
      exact ⟨hk, ⟨L, _, hf, hn, e, hd⟩, ih (fun b hb => hs b (by unfold frs; rw [List.filterMap_cons, hf]; exact List.mem_cons_of_mem _ hb)) hr⟩
  exact all X.outer (fun _ hb => hb) I.ok.funs

/-- the frames that run, for a call -/
theorem Inv.stack (I : Inv X pins σ H s) : s.heap.FunFrames X.base X.stack := by
  rcases I.ok.stk with e | ⟨e, hf⟩
  · rw [e]; exact I.funs
  · rw [e]
    obtain ⟨m, hn, _⟩ := I.loc
    refine .cons (by rw [I.ok.kind]; decide) hf hn ?_ I.funs
    exact Heap.get?_none_of_le (Nat.le_trans I.ok.bsz I.ok.above)
theorem Inv.stkSub (I : Inv X pins σ H s) : ∀ b ∈ frs X.stack, b ∈ X.env.locals :: X.fs := fun b hb => by
  rcases I.ok.stk with e | ⟨e, hf⟩
  · rw [e] at hb; exact List.mem_cons_of_mem _ hb
  · rw [e] at hb
    unfold frs at hb
    rw [List.filterMap_cons, hf] at hb
    exact hb
theorem Inv.stkFree (I : Inv X pins σ H s) : ∀ b ∈ frs X.stack, H b = none := fun b hb => by
  rcases List.mem_cons.mp (I.stkSub b hb) with e | hb
  · rw [e]; exact I.free
  · obtain ⟨_, o, ho, _⟩ := I.ok.funs.mem hb
    exact I.base.free b o ho (I.ok.frf b hb) fun z => I.ok.exfs b z hb

/-- THE STEP: the untracked objects but the frame and the records at ch are kept (the callers' frames up to slots), the frame's map is kept, the new abstract heap is held -/
theorem Inv.step {g' : Array GenState} {t' : Nat} {d' : Drawn} {ch : List Addr} (I : Inv X pins σ H s)
    (hch : ∀ b ∈ ch, (b ∈ X.ex ∨ X.s₀.heap.objs.size ≤ b) ∧ b ≠ X.env.locals ∧ (∀ x c, X.env.cells.lookup x = some c → c ≠ b) ∧ ∀ p ∈ X.pn ++ pins, p.1 ≠ b)
    (keep : ∀ b o, b ≠ X.env.locals → b ∉ X.fs → b ∉ ch → s.heap.get? b = some o → H b = none → h'.get? b = some o)
    (slot : ∀ b o, b ≠ X.env.locals → b ∈ X.fs → b ∉ ch → s.heap.get? b = some o → H b = none → ∃ sl, h'.get? b = some { o with slots := sl }) (free : ∀ b o, b ∉ ch → s.heap.get? b = some o → H b = none → H' b = none)
    (there : ∀ b o, b ∉ ch → s.heap.get? b = some o → ∃ o', h'.get? b = some o')
    (tups : ∀ b xs, H b = some (.tup xs) → H' b = some (.tup xs)) (frzs : ∀ b o u, H b = some (.frz o u) → H' b = some (.frz o u)) (tbls : ∀ b ps, H b = some (.tbl ps) → ∃ more, H' b = some (.tbl (ps ++ more)))
    (ns : ∀ m, s.heap.Ns X.env.locals m → h'.Ns X.env.locals m) (hok : HOk X.prog X.w H' h') (hg : AllBare g') :
    Inv X pins σ H' { s with heap := h', gens := g', drawn := d', toks := t' } := by
  have neL : ∀ b o, X.s₀.heap.get? b = some o → b ≠ X.env.locals := fun b o e => Nat.ne_of_lt (Nat.lt_of_lt_of_le (Heap.lt_size e) I.ok.above)
  have neC : ∀ b o, X.s₀.heap.get? b = some o → b ∉ X.ex → b ∉ ch := fun b o e hx hb => by
    rcases (hch b hb).1 with z | z
    · exact hx z
    · exact absurd (Nat.lt_of_lt_of_le (Heap.lt_size e) z) (Nat.lt_irrefl _)
  have cellK : ∀ x c, X.env.cells.lookup x = some c → ∀ v, s.heap.IsCell c v → h'.IsCell c v := fun x c e v ⟨o, ho, hd⟩ => by
    have nch : c ∉ ch := fun z => (hch c z).2.2.1 x c e rfl
    by_cases hc : c ∈ X.fs
    · obtain ⟨sl, q⟩ := slot c o (I.cne x c e) hc nch ho (I.freeC x c e)
      exact ⟨_, q, hd⟩
    · exact ⟨o, keep c o (I.cne x c e) hc nch ho (I.freeC x c e), hd⟩
  refine ⟨I.ok, I.os, hg, ⟨fun b o e n hb hx => ?_, fun b o e n hb hx => ?_, fun b o e n hx => ?_, fun b o e hx => ?_, fun b xs e => tups b xs (I.base.tups b xs e), fun b o xs e => frzs b o xs (I.base.frzs b o xs e), fun b ps e => ?_⟩, ?_, fun x c e => ?_, ?_, fun x c e => ?_, fun p hp => ?_, hok, I.len⟩
  · exact keep b o (neL b o e) hb (neC b o e hx) (I.base.keep b o e n hb hx) (I.base.free b o e n hx)
  · obtain ⟨sl, e1⟩ := I.base.slot b o e n hb hx
    obtain ⟨sl', e2⟩ := slot b _ (neL b o e) hb (neC b o e hx) e1 (I.base.free b o e n hx)
    exact ⟨sl', e2⟩
  · obtain ⟨o', e1⟩ := I.base.there b o e hx
    exact free b o' (neC b o e hx) e1 (I.base.free b o e n hx)
  · obtain ⟨o', e1⟩ := I.base.there b o e hx
    exact there b o' (neC b o e hx) e1
  · obtain ⟨m1, e1⟩ := I.base.tbls b ps e
    obtain ⟨m2, e2⟩ := tbls b _ e1
    exact ⟨m1 ++ m2, by rw [e2, Array.append_assoc]⟩
  · obtain ⟨m, hn, hl⟩ := I.loc
    refine ⟨m, ns m hn, fun i x v e1 e2 e3 => ?_⟩
    obtain ⟨u, r, l⟩ := hl i x v e1 e2 e3
    refine ⟨u, r, ?_⟩
    rcases l with l | ⟨k, c, e, z⟩
    · exact .inl l
    · exact .inr ⟨k, c, e, cellK x c e _ z⟩
  · obtain ⟨v, z⟩ := I.cell x c e
    exact ⟨v, cellK x c e v z⟩
  · obtain ⟨m, ⟨o, _, _, ho, _⟩, _⟩ := I.loc
    exact free _ o (fun z => (hch _ z).2.1 rfl) ho I.free
  · obtain ⟨v, o, ho, hd⟩ := I.cell x c e
    exact free c o (fun z => (hch c z).2.2.1 x c e rfl) ho (I.freeC x c e)
  · obtain ⟨e, n, ne, nf, d⟩ := I.pin p hp
    have nch : p.1 ∉ ch := fun z => (hch p.1 z).2.2.2 p hp rfl
    exact ⟨keep p.1 p.2 ne nf nch e n, free p.1 p.2 nch e n, ne, nf, d⟩
/-- .. where the frame's own object is kept too -/
theorem Inv.un {t' : Nat} (I : Inv X pins σ H s) (u : Un X.fs [] H H' s.heap h') (hok : HOk X.prog X.w H' h') : Inv X pins σ H' { s with heap := h', toks := t' } := by
  obtain ⟨m, ⟨o, es, ep, ho, r⟩, _⟩ := id I.loc
  obtain ⟨sl, hL⟩ := u.any ho I.free (by simp)
  exact I.step (g' := s.gens) (d' := s.drawn) (ch := []) (fun _ z => nomatch z) (fun b o _ hb _ e n => u.keep b o e n hb (by simp)) (fun b o _ hb _ e n => u.slot b o e n hb (by simp)) (fun b o _ e n => u.free b o e n (by simp)) (fun b o _ e => u.there b o e (by simp)) u.tups u.frzs u.tbls (fun m' hm => by
    obtain ⟨o', es', ep', ho', r'⟩ := hm
    rw [ho] at ho'; cases ho'
    exact ⟨_, es', ep', hL, r'⟩) hok I.bare
/-- behind a call (or a comprehension's block): the slots of this frame may have changed too, the records at ch may have turned -/
theorem Inv.call {g' : Array GenState} {t' : Nat} {d' : Drawn} {ch : List Addr} (I : Inv X pins σ H s) (u : Un (frs X.stack) ch H H' s.heap h') (hok : HOk X.prog X.w H' h') (hg : AllBare g')
    (hch : ∀ b ∈ ch, (b ∈ X.ex ∨ X.s₀.heap.objs.size ≤ b) ∧ b ≠ X.env.locals ∧ (∀ x c, X.env.cells.lookup x = some c → c ≠ b) ∧ ∀ p ∈ X.pn ++ pins, p.1 ≠ b) :
    Inv X pins σ H' { s with heap := h', gens := g', drawn := d', toks := t' } := by
  obtain ⟨m, ⟨o, es, ep, ho, r⟩, _⟩ := id I.loc
  obtain ⟨sl, hL⟩ := u.any ho I.free fun z => (hch _ z).2.1 rfl
  exact I.step (ch := ch) hch (fun b o hL hb hc e n => u.keep b o e n (fun z => (List.mem_cons.mp (I.stkSub b z)).elim hL hb) hc) (fun b o _ _ hc e n => u.any e n hc) (fun b o hc e n => u.free b o e n hc) (fun b o hc e => u.there b o e hc) u.tups u.frzs u.tbls (fun m' hm => by
    obtain ⟨o', es', ep', ho', r'⟩ := hm
    rw [ho] at ho'; cases ho'
    exact ⟨_, es', ep', hL, r'⟩) hok hg
/-- an untracked record of ours (an iterator) has turned -/
theorem Inv.turned {t' : Nat} {it : Addr} (I : Inv X pins σ H s) (k : ∀ b o, b ≠ it → s.heap.get? b = some o → h'.get? b = some o) (hn : H it = none) (hL : it ≠ X.env.locals)
    (h1 : it ∈ X.ex ∨ X.s₀.heap.objs.size ≤ it) (h2 : ∀ x c, X.env.cells.lookup x = some c → c ≠ it) (h3 : ∀ p ∈ X.pn ++ pins, p.1 ≠ it) : Inv X pins σ H { s with heap := h', toks := t' } := by
  have nit : ∀ b u, H b = some u → b ≠ it := fun b u e z => by rw [z, hn] at e; cases e
  refine I.step (g' := s.gens) (d' := s.drawn) (ch := [it]) (fun b hb => ?_) (fun b o _ _ hc e _ => k b o (fun z => hc (by simp [z])) e) (fun b o _ _ hc e _ => ⟨o.slots, k b o (fun z => hc (by simp [z])) e⟩) (fun _ _ _ _ n => n)
    (fun b o hc e => ⟨o, k b o (fun z => hc (by simp [z])) e⟩) (fun _ _ e => e) (fun _ _ _ e => e) (fun b ps e => ⟨#[], by rw [e]; simp⟩) (fun m hm => ?_) (fun b u e => ?_) I.bare
  · have e : b = it := by simpa using hb
    subst e
    exact ⟨h1, hL, h2, h3⟩
  · obtain ⟨o, es, ep, ho, r⟩ := hm
    exact ⟨o, es, ep, k _ o (Ne.symm hL) ho, r⟩
  · refine (I.hok b u e).stay (fun c v hc q => k c v ?_ q) (fun _ q => q) fun _ _ q => q
    rcases hc with z | z
    · rw [z]; exact nit b u e
    · exact nit c _ z
theorem Inv.tok (I : Inv X pins σ H s) (t : Nat) : Inv X pins σ H { s with toks := t } := I.un (h' := s.heap) (t' := t) Un.refl I.hok
/-- all objects kept -/
theorem Inv.kept {t' : Nat} (I : Inv X pins σ H s) (k : ∀ b u, s.heap.get? b = some u → h'.get? b = some u) : Inv X pins σ H { s with heap := h', toks := t' } := I.un (Un.kept k) (I.hok.kept k)
/-- a new object laid and tracked -/
theorem Inv.laid {a : Addr} {o : HO} {t' : Nat} (I : Inv X pins σ H s) (k : ∀ b u, s.heap.get? b = some u → h'.get? b = some u) (hp : s.heap.objs.size ≤ a) (new : ObjOk X.prog X.w (upd H a o) h' a o) :
    Inv X pins σ (upd H a o) { s with heap := h', toks := t' } := I.un (Un.laid k hp (I.hok.fresh hp)) (I.hok.laid k hp new)
/-- an object written -/
theorem Inv.write {x e : Addr} {o : HO} {t' : Nat} (I : Inv X pins σ H s) (mu : Mut (H x)) (he : e = x ∨ H e = some (.own x)) (k : ∀ b u, b ≠ e → s.heap.get? b = some u → h'.get? b = some u) (heo : ∃ u, h'.get? e = some u)
    (new : ObjOk X.prog X.w (upd H x o) h' x o) : Inv X pins σ (upd H x o) { s with heap := h', toks := t' } := I.un (Un.write mu he k heo) (I.hok.write mu he k heo new)
/-- forgetting slots, pins -/
theorem Inv.weak {σ' : List (Option V)} (I : Inv X pins σ H s) (hl : σ'.length = σ.length) (w : ∀ (i : Nat) v, σ'[i]? = some (some v) → σ[i]? = some (some v)) : Inv X pins σ' H s :=
  ⟨I.ok, I.os, I.bare, I.base, let ⟨m, hn, hl'⟩ := I.loc; ⟨m, hn, fun i x v e1 e2 e3 => hl' i x v e1 (w i v e2) e3⟩, I.cell, I.free, I.freeC, I.pin, I.hok, hl.trans I.len⟩
theorem Inv.pins_of {pins' : List (Addr × Obj)} (I : Inv X pins σ H s) (h : ∀ p ∈ pins', s.heap.get? p.1 = some p.2 ∧ H p.1 = none ∧ p.1 ≠ X.env.locals ∧ p.1 ∉ X.fs ∧ ∀ v, p.2.data ≠ .cell v) : Inv X pins' σ H s :=
  ⟨I.ok, I.os, I.bare, I.base, I.loc, I.cell, I.free, I.freeC, fun p hp => (List.mem_append.mp hp).elim (fun z => I.pin p (List.mem_append_left _ z)) (h p), I.hok, I.len⟩

theorem nodup_ix {N : List Str} (hN : N.Nodup) {i j : Nat} {x : Str} (a : N[i]? = some x) (b : N[j]? = some x) : i = j := by
  obtain ⟨h1, e1⟩ := List.getElem?_eq_some_iff.mp a
  obtain ⟨h2, e2⟩ := List.getElem?_eq_some_iff.mp b
  exact (List.getElem_inj hN).mp (e1.trans e2.symm)

/-- a name is stored; what changed -/
theorem store_ok2 {M : Model} {A : Around} {E : Value → Shared → Prop} {i : Nat} {x : Str} {v : V} {u : Value} {Q : Unit → Shared → Prop} (I : Inv X pins σ H s) (hN : X.N.Nodup) (hi : X.N[i]? = some x) (hx : Loc X.env.scope x) (r : RelV v u)
    (h : ∀ s', Inv X pins (σ.set i (some v)) H s' → (∃ a, Heap.SameBut a s.heap s'.heap ∧ (a = X.env.locals ∨ X.env.cells.lookup x = some a)) → Q () s') (hf : X.fn x = true ∨ X.env.scope.names.lookup x = some .local := by first | exact .inl rfl | exact .inr rfl | assumption) : wpAny M A (storeName X.env x u) Q E s := by
  obtain ⟨m, hn, hl⟩ := id I.loc
  have hcls : (X.env.scope.kind == .class || (X.env.scope.kind == .module && X.env.locals != X.env.globals)) = false := by rw [I.ok.kind]; rfl
  have hiσ : i < σ.length := by rw [I.len]; exact (List.getElem?_eq_some_iff.mp hi).1
  have cne := I.cne
  have tracked : ∀ {a : Addr} {h' : Heap}, (∃ o, s.heap.get? a = some o ∧ H a = none) → Heap.SameBut a s.heap h' → HOk X.prog X.w H h' := fun {a h'} ha hs b ob e => by
    obtain ⟨_, _, hfree⟩ := ha
    refine (I.hok b ob e).stay (fun c w' hc q => (hs.2 c ?_).trans q) (fun _ q => q) fun _ _ q => q
    rintro rfl
    rcases hc with rfl | hc
    · rw [hfree] at e; cases e
    · rw [hfree] at hc; cases hc
  rcases hx with hk | hk
  · refine wpAny_storeName_local hk hn (fun h' hn' hs => ?_) hcls
    obtain ⟨oL, _, _, hoL, _⟩ := id hn
    refine h _ ⟨I.ok, I.os, I.bare, ⟨fun b o e n hb hx => ?_, fun b o e n hb hx => ?_, I.base.free, fun b o e hx => ?_, I.base.tups, I.base.frzs, I.base.tbls⟩, ⟨_, hn', fun j y v' e1 e2 e3 => ?_⟩, fun y c e => ?_, I.free, I.freeC, fun p hp => ?_, tracked ⟨oL, hoL, I.free⟩ hs, by simpa using I.len⟩ ⟨_, hs, .inl rfl⟩
    · exact (hs.2 b (Nat.ne_of_lt (Nat.lt_of_lt_of_le (Heap.lt_size e) I.ok.above))).trans (I.base.keep b o e n hb hx)
    · obtain ⟨sl, e1⟩ := I.base.slot b o e n hb hx
      exact ⟨sl, (hs.2 b (Nat.ne_of_lt (Nat.lt_of_lt_of_le (Heap.lt_size e) I.ok.above))).trans e1⟩
    · obtain ⟨o', e1⟩ := I.base.there b o e hx
      exact ⟨o', (hs.2 b (Nat.ne_of_lt (Nat.lt_of_lt_of_le (Heap.lt_size e) I.ok.above))).trans e1⟩
    · by_cases hj : j = i
      · subst hj
        rw [hi] at e1; cases e1
        rw [List.getElem?_set_self hiσ] at e2
        cases e2
        exact ⟨u, r, .inl ⟨hk, by simp⟩⟩
      · rw [List.getElem?_set_ne (Ne.symm hj)] at e2
        obtain ⟨u', r', q⟩ := hl j y v' e1 e2 e3
        refine ⟨u', r', ?_⟩
        rcases q with ⟨k, e⟩ | ⟨k, c, e, z⟩
        · refine .inl ⟨k, ?_⟩
          have : y ≠ x := fun e => hj (nodup_ix hN e1 (e ▸ hi))
          simp [this, e]
        · exact .inr ⟨k, c, e, z.sameBut hs (cne y c e)⟩
    · obtain ⟨w', z⟩ := I.cell y c e
      exact ⟨w', z.sameBut hs (cne y c e)⟩
    · obtain ⟨e, n, ne, nf, d⟩ := I.pin p hp
      exact ⟨(hs.2 p.1 ne).trans e, n, ne, nf, d⟩
  · have hfn : X.fn x = true := by
      rcases hf with z | z
      · exact z
      · rw [z] at hk; cases hk
    obtain ⟨c, hc⟩ := I.ok.has x (.inl hk)
    obtain ⟨w', z⟩ := I.cell x c hc
    refine wpAny_storeName_cell I.ok.kind hk hc z (fun h' hc' hs => ?_)
    obtain ⟨oc, hoc, hocd⟩ := id z
    refine h { s with heap := h' } ⟨I.ok, I.os, I.bare, ⟨fun b o e n hb hx => ?_, fun b o e n hb hx => ?_, I.base.free, fun b o e hx => ?_, I.base.tups, I.base.frzs, I.base.tbls⟩, ⟨m, hn.sameBut hs (Ne.symm (cne x c hc)), fun j y v' e1 e2 e3 => ?_⟩, fun y c' e => ?_, I.free, I.freeC, fun p hp => ?_, tracked ⟨oc, hoc, I.freeC x c hc⟩ hs, by simpa using I.len⟩ ⟨c, hs, .inr hc⟩
    · exact (hs.2 b (Nat.ne_of_lt (Nat.lt_of_lt_of_le (Heap.lt_size e) (I.ok.cab x c hfn hc)))).trans (I.base.keep b o e n hb hx)
    · obtain ⟨sl, e1⟩ := I.base.slot b o e n hb hx
      exact ⟨sl, (hs.2 b (Nat.ne_of_lt (Nat.lt_of_lt_of_le (Heap.lt_size e) (I.ok.cab x c hfn hc)))).trans e1⟩
    · obtain ⟨o', e1⟩ := I.base.there b o e hx
      exact ⟨o', (hs.2 b (Nat.ne_of_lt (Nat.lt_of_lt_of_le (Heap.lt_size e) (I.ok.cab x c hfn hc)))).trans e1⟩
    · by_cases hj : j = i
      · subst hj
        rw [hi] at e1; cases e1
        rw [List.getElem?_set_self hiσ] at e2
        cases e2
        exact ⟨u, r, .inr ⟨.inl hk, c, hc, hc'⟩⟩
      · rw [List.getElem?_set_ne (Ne.symm hj)] at e2
        obtain ⟨u', r', q⟩ := hl j y v' e1 e2 e3
        refine ⟨u', r', ?_⟩
        rcases q with q | ⟨k, c', e, z'⟩
        · exact .inl q
        · refine .inr ⟨k, c', e, z'.sameBut hs ?_⟩
          rintro rfl
          exact hj (nodup_ix hN e1 (I.ok.inj _ _ _ e hc ▸ hi))
    · by_cases hcc : c' = c
      · subst hcc; exact ⟨_, hc'⟩
      · obtain ⟨w2, z2⟩ := I.cell y c' e
        exact ⟨w2, z2.sameBut hs hcc⟩
    · obtain ⟨e, n, ne, nf, d⟩ := I.pin p hp
      refine ⟨(hs.2 p.1 ?_).trans e, n, ne, nf, d⟩
      intro q
      rw [q, hoc] at e
      have q' : oc = p.2 := Option.some.inj e
      exact d w' (by rw [← q']; exact hocd)
theorem store_ok {M : Model} {A : Around} {E : Value → Shared → Prop} {i : Nat} {x : Str} {v : V} {u : Value} {Q : Unit → Shared → Prop} (I : Inv X pins σ H s) (hN : X.N.Nodup) (hi : X.N[i]? = some x) (hx : Loc X.env.scope x) (r : RelV v u)
    (h : ∀ s', Inv X pins (σ.set i (some v)) H s' → Q () s') (hf : X.fn x = true ∨ X.env.scope.names.lookup x = some .local := by first | exact .inl rfl | exact .inr rfl | assumption) : wpAny M A (storeName X.env x u) Q E s :=
  store_ok2 I hN hi hx r (fun s' I' _ => h s' I') hf
/-- behind a call or a block, the state as it is -/
theorem Inv.call' {s' : Shared} {ch : List Addr} (I : Inv X pins σ H s) (ho : s'.os = s.os) (u : Un (frs X.stack) ch H H' s.heap s'.heap) (hok : HOk X.prog X.w H' s'.heap) (hg : AllBare s'.gens)
    (hch : ∀ b ∈ ch, (b ∈ X.ex ∨ X.s₀.heap.objs.size ≤ b) ∧ b ≠ X.env.locals ∧ (∀ x c, X.env.cells.lookup x = some c → c ≠ b) ∧ ∀ p ∈ X.pn ++ pins, p.1 ≠ b) : Inv X pins σ H' s' := by
  obtain ⟨h', g', d', t', o'⟩ := s'
  have e : o' = s.os := ho
  subst e
  exact I.call (g' := g') (t' := t') (d' := d') u hok hg hch
end

/-- an exception: its class, its own dict's address (where it has one), the abstract heap behind it -/
abbrev XK := Value → Option Addr → Hp → Prop
abbrev St := List (Option V)
abbrev VK := V → Hp → Prop
/-- an expression's reading; a test's; an argument list's -/
abbrev TE := St → Hp → VK → Prop
abbrev TT := St → Hp → (Bool → Hp → Prop) → Prop
abbrev TA := St → Hp → (List V → Hp → Prop) → Prop
/-- what is wanted behind a statement -/
structure Ends where
  nx : St → Hp → Prop
  rt : VK
  bk : St → Hp → Prop := fun _ _ => False
  ct : St → Hp → Prop := fun _ _ => False
abbrev TS := Ends → St → Hp → Prop

def EP (X : Cx) (pins : List (Addr × Obj)) (σ : St) (Q : VK) (u : Value) (s' : Shared) : Prop := ∃ v H', Inv X pins σ H' s' ∧ RelV v u ∧ Q v H'
def TP (X : Cx) (pins : List (Addr × Obj)) (σ : St) (Q : Bool → Hp → Prop) (b : Bool) (s' : Shared) : Prop := ∃ H', Inv X pins σ H' s' ∧ Q b H'
def AP (X : Cx) (pins : List (Addr × Obj)) (σ : St) (Q : List V → Hp → Prop) (us : List Value) (s' : Shared) : Prop := ∃ vs H', Inv X pins σ H' s' ∧ Vals vs us ∧ Q vs H'
def SP (X : Cx) (pins : List (Addr × Obj)) (D : Ends) (f : Flow) (s' : Shared) : Prop :=
  match f with
  | .next => ∃ σ' H', Inv X pins σ' H' s' ∧ D.nx σ' H'
  | .brk => ∃ σ' H', Inv X pins σ' H' s' ∧ D.bk σ' H'
  | .cont => ∃ σ' H', Inv X pins σ' H' s' ∧ D.ct σ' H'
  | .ret u => ∃ v σ' H', Inv X pins σ' H' s' ∧ RelV v u ∧ D.rt v H'

def PE (X : Cx) (e : Expr) (t : TE) : Prop :=
  ∀ (pins : List (Addr × Obj)) (s : Shared) (σ : St) (H : Hp) (Q : VK), Inv X pins σ H s → t σ H Q → wpAny (model X.prog X.w) X.A (eval e X.env) (EP X pins σ Q) X.xe s
def PT (X : Cx) (e : Expr) (t : TT) : Prop :=
  ∀ (pins : List (Addr × Obj)) (s : Shared) (σ : St) (H : Hp) (Q : Bool → Hp → Prop), Inv X pins σ H s → t σ H Q → wpAny (model X.prog X.w) X.A (isTrue e X.env (eval e X.env)) (TP X pins σ Q) X.xe s
/-- a test whatever its 'whole' is (and, or) -/
def PW (X : Cx) (e : Expr) (t : TT) : Prop :=
  ∀ (whole : Sem Value) (pins : List (Addr × Obj)) (s : Shared) (σ : St) (H : Hp) (Q : Bool → Hp → Prop), Inv X pins σ H s → t σ H Q → wpAny (model X.prog X.w) X.A (isTrue e X.env whole) (TP X pins σ Q) X.xe s
theorem PW.pt {X : Cx} {e : Expr} {t : TT} (h : PW X e t) : PT X e t := h _
/-- an argument list (no star), from the left -/
def PA (X : Cx) (es : List Expr) (t : TA) : Prop :=
  ∀ (pos : Pos) (pins : List (Addr × Obj)) (s : Shared) (σ : St) (H : Hp) (Q : List V → Hp → Prop), Inv X pins σ H s → t σ H Q → wpAny (model X.prog X.w) X.A (spliced (backTo pos (starEach es X.env))) (AP X pins σ Q) X.xe s
def PS (X : Cx) (st : Stmt) (t : TS) : Prop :=
  ∀ (pins : List (Addr × Obj)) (s : Shared) (σ : St) (H : Hp) (D : Ends), Inv X pins σ H s → t D σ H → wpAny (model X.prog X.w) X.A (exec st X.env) (SP X pins D) X.xe s
def PSs (X : Cx) (st : List Stmt) (t : TS) : Prop :=
  ∀ (pins : List (Addr × Obj)) (s : Shared) (σ : St) (H : Hp) (D : Ends), Inv X pins σ H s → t D σ H → wpAny (model X.prog X.w) X.A (execs st X.env) (SP X pins D) X.xe s
/-- weaken the end -/
theorem thn {α : Type} {t : Sem α} {Q Q' : α → Shared → Prop} {M : Model} {A : Around} {E : Value → Shared → Prop} {s : Shared} (h : wpAny M A t Q E s) (hQ : ∀ a s, Q a s → Q' a s) : wpAny M A t Q' E s := wpAny_mono h hQ fun _ _ x => x
end L2

namespace L2
open PySem PySem.Spec PyProof.Rows
section
variable {X : Cx}

/-- two expressions in a row -/
theorem bin {a b : Expr} {ta tb : TE} (ha : PE X a ta) (hb : PE X b tb) {pins : List (Addr × Obj)} {s : Shared} {σ : St} {H : Hp} {R : V → V → Hp → Prop} (I : Inv X pins σ H s) (h : ta σ H fun x H1 => tb σ H1 fun y H2 => R x y H2)
    {α : Type} {Q : α → Shared → Prop} {f : Value → Value → Sem α}
    (hf : ∀ v u s2 x y H2, Inv X pins σ H2 s2 → RelV x v → RelV y u → R x y H2 → wpAny (model X.prog X.w) X.A (f v u) Q X.xe s2) :
    wpAny (model X.prog X.w) X.A (eval a X.env) (fun v s₁ => wpAny (model X.prog X.w) X.A (eval b X.env) (fun u s₂ => wpAny (model X.prog X.w) X.A (f v u) Q X.xe s₂) X.xe s₁) X.xe s := by
  refine thn (ha pins s σ H _ I h) fun v s1 ⟨x, H1, I1, r1, q1⟩ => ?_
  refine thn (hb pins s1 σ H1 _ I1 q1) fun u s2 ⟨y, H2, I2, r2, q2⟩ => ?_
  exact hf v u s2 x y H2 I2 r1 r2 q2

def tVar (i : Nat) : TE := fun σ H Q => ∃ v, σ[i]? = some (some v) ∧ Q v H
def tC (v : V) : TE := fun _ H Q => Q v H
theorem pe_var {i : Nat} {x : Str} {pos : Pos} (hN : X.N[i]? = some x) (hv : Vis X.env.scope x) (hd : (x == ("__debug__" : Str)) = false := by decide) (hcd : (x == ("__classdict__" : Str)) = false := by decide) : PE X (.Name x pos) (tVar i) := by
  intro pins s σ H Q I h
  obtain ⟨v, e, h⟩ := h
  obtain ⟨m, hn, hl⟩ := I.loc
  obtain ⟨u, r, l⟩ := hl i x v hN e hv
  have fin : EP X pins σ Q u s := ⟨v, H, I, r, h⟩
  rcases l with ⟨hk, hm⟩ | ⟨hk, c, hc, hcell⟩
  · exact wpAny_Name (wpAny_loadName_local I.ok.kind hk hn hm fin) hd
  · rcases hk with hk | hk
    · exact wpAny_Name (wpAny_loadName_cell I.ok.kind hk hc hcell fin) hd
    · exact wpAny_Name (wpAny_loadName_free I.ok.kind hk hc hcell fin hcd) hd
theorem pe_int {i j pos} : PE X (.Constant (.int i) j pos) (tC (.int i)) := fun _ _ _ H _ I h => wpAny_Constant_int ⟨.int i, H, I.tok _, ⟨_, rfl⟩, h⟩
theorem pe_bl {b j pos} : PE X (.Constant (.bool b) j pos) (tC (.bl b)) := fun _ _ _ H _ I h => Constant_bool ⟨.bl b, H, I, rfl, h⟩
theorem pe_non {j pos} : PE X (.Constant .none j pos) (tC .non) := fun _ _ _ H _ I h => Constant_none ⟨.non, H, I, rfl, h⟩
theorem pe_str {x j pos} : PE X (.Constant (.str x) j pos) (tC (.str x)) := fun _ _ _ H _ I h => Calls.Constant_str ⟨.str x, H, I.tok _, ⟨_, rfl⟩, h⟩

/-- a global name of the def -/
def Gl (X : Cx) (x : Str) : Prop := X.env.kindOf x = some .globalImplicit
theorem ld_glob {E : Value → Shared → Prop} {pins : List (Addr × Obj)} {s : Shared} {σ : St} {H : Hp} {x : Str} {u : Value} {pos : Pos} {Q : Value → Shared → Prop} (I : Inv X pins σ H s) (hg : Gl X x) (hm : X.mg x = some u) (h : Q u s)
    (hd : (x == ("__debug__" : Str)) = false := by decide) : wpAny (model X.prog X.w) X.A (eval (.Name x pos) X.env) Q E s :=
  Calls.Name_function_global I.ok.kind hg (Calls.loadGlobal_global (by rw [I.ok.glob]; exact I.mod.glob.keeps I.bk) hm h) hd
theorem ld_blt {E : Value → Shared → Prop} {pins : List (Addr × Obj)} {s : Shared} {σ : St} {H : Hp} {x : Str} {u : Value} {pos : Pos} {Q : Value → Shared → Prop} (I : Inv X pins σ H s) (hg : Gl X x) (hm : X.mg x = none) (hv : bootBuiltins x = some u) (h : Q u s)
    (hn : x ≠ "__name__" := by decide) (hd : (x == ("__debug__" : Str)) = false := by decide) : wpAny (model X.prog X.w) X.A (eval (.Name x pos) X.env) Q E s := by
  obtain ⟨mb, h1, h2⟩ := I.mod.blt
  exact Calls.Name_function_global I.ok.kind hg (Calls.loadGlobal_builtin (by rw [I.ok.glob]; exact I.mod.glob.keeps I.bk) hm (by rw [I.ok.blt]; exact h1.keeps I.bk) ((h2 x hn).trans hv) h) hd
/-- a module's constant, a class, a function, as a value -/
theorem pe_glob {x : Str} {v : V} {u : Value} {pos : Pos} (hg : Gl X x) (hm : X.mg x = some u) (r : RelV v u) (hd : (x == ("__debug__" : Str)) = false := by decide) : PE X (.Name x pos) (tC v) :=
  fun _ _ _ H _ I h => ld_glob I hg hm ⟨v, H, I, r, h⟩ hd
theorem pe_bltn {x : Str} {v : V} {u : Value} {pos : Pos} (hg : Gl X x) (hm : X.mg x = none) (hv : bootBuiltins x = some u) (r : RelV v u) (hn : x ≠ "__name__" := by decide) (hd : (x == ("__debug__" : Str)) = false := by decide) : PE X (.Name x pos) (tC v) :=
  fun _ _ _ H _ I h => ld_blt I hg hm hv ⟨v, H, I, r, h⟩ hn hd

variable {a b : Expr} {ta tb : TE} {pos : Pos}
def PC (X : Cx) (op : CmpOp) (a b : Expr) (t : TE) : Prop :=
  ∀ (pins : List (Addr × Obj)) (s : Shared) (σ : St) (H : Hp) (Q : VK), Inv X pins σ H s → t σ H Q →
    wpAny (model X.prog X.w) X.A (eval a X.env) (fun v s₁ => wpAny (model X.prog X.w) X.A (eval b X.env) (fun u s₂ => wpAny (model X.prog X.w) X.A (compareOp op v u) (EP X pins σ Q) X.xe s₂) X.xe s₁) X.xe s
theorem nobehind (b : Expr) {op : CmpOp} (h : op ≠ .In) (h2 : op ≠ .NotIn) : behindInMarks op b = false := by
  have e1 : (op == CmpOp.In) = false := by cases op <;> first | rfl | exact absurd rfl h
  have e2 : (op == CmpOp.NotIn) = false := by cases op <;> first | rfl | exact absurd rfl h2
  cases b <;> simp [behindInMarks, e1, e2]
/-- is None -/
def tIsN (ta : TE) : TE := fun σ H Q => ta σ H fun x H1 => Q (.bl (decide (x = .non))) H1
def tNotN (ta : TE) : TE := fun σ H Q => ta σ H fun x H1 => Q (.bl (!decide (x = .non))) H1
theorem RelV.none_iff {x : V} {v : Value} (r : RelV x v) : (v == Value.none) = decide (x = .non) := by
  cases x with
  | non => cases r; rfl
  | bl _ => cases r; rfl
  | int _ => obtain ⟨t, rfl⟩ := r; rfl
  | str _ => obtain ⟨t, rfl⟩ := r; rfl
  | byt _ => obtain ⟨t, rfl⟩ := r; rfl
  | flt _ => obtain ⟨t, rfl⟩ := r; rfl
  | ref _ => cases r; rfl
  | ty _ => cases r; rfl
theorem pc_isN {j pos'} (ha : PE X a ta) : PC X .Is a (.Constant .none j pos') (tIsN ta) := by
  intro pins s σ H Q I h
  refine thn (ha pins s σ H _ I h) fun v s1 ⟨x, H1, I1, r1, q1⟩ => ?_
  exact Constant_none (is_none_gen ⟨.bl _, H1, I1, by rw [r1.none_iff]; rfl, q1⟩)
theorem pc_notN {j pos'} (ha : PE X a ta) : PC X .IsNot a (.Constant .none j pos') (tNotN ta) := by
  intro pins s σ H Q I h
  refine thn (ha pins s σ H _ I h) fun v s1 ⟨x, H1, I1, r1, q1⟩ => ?_
  exact Constant_none (isnot_none_gen ⟨.bl _, H1, I1, by rw [r1.none_iff]; rfl, q1⟩)
/-- a comparison as a value, as a test -/
def tB (t : TE) : TT := fun σ H Q => t σ H fun x H1 => ∃ c, x = .bl c ∧ Q c H1
theorem pt_cmp {op : CmpOp} {t : TE} (h : PC X op a b t) (h1 : behindInMarks op b = false := by first | exact nobehind _ (by decide) (by decide) | rfl) : PT X (.Compare a [op] [b] pos) (tB t) := by
  intro pins s σ H Q I hw
  refine wpAny_isTrue_Compare1 (thn (h pins s σ H _ I hw) fun v s1 h1 => thn h1 fun u s2 h2 => thn h2 fun c s3 ⟨x, H1, I1, r1, q1⟩ => ?_) h1
  obtain ⟨d, rfl, q⟩ := q1
  cases r1
  exact wpAny_truthy_bool ⟨H1, I1, q⟩
/-- an expression whose value is a bool, as a test -/
theorem pt_val {e : Expr} {t : TE} (h : PE X e t) (he : ∀ whole, isTrue e X.env whole = (do let v ← whole; standAt e.pos; holding [v] (truthy v)) := by intro _; rfl) : PT X e (tB t) := by
  intro pins s σ H Q I hw
  refine isTrue_plain (thn (h pins s σ H _ I hw) fun v s1 ⟨x, H1, I1, r1, q1⟩ => ?_) (he _)
  obtain ⟨d, rfl, q⟩ := q1
  cases r1
  exact wpAny_truthy_bool ⟨H1, I1, q⟩

variable {tA tB' : TT} {rest : List Expr}
def tAnd (t u : TT) : TT := fun σ H Q => t σ H fun c H1 => if c = true then u σ H1 Q else Q false H1
def tOr (t u : TT) : TT := fun σ H Q => t σ H fun c H1 => if c = true then Q true H1 else u σ H1 Q
def tNot (t : TT) : TT := fun σ H Q => t σ H fun c H1 => Q (!c) H1
theorem pw_and1 (ha : PT X a tA) : PW X (.BoolOp .And [a] pos) tA := by
  intro wh pins s σ H Q I h
  refine isTrue_and (thn (ha pins s σ H Q I h) fun c s1 e => ?_)
  cases c with
  | true => exact isTrue_and_nil e
  | false => exact e
theorem pw_or1 (ha : PT X a tA) : PW X (.BoolOp .Or [a] pos) tA := by
  intro wh pins s σ H Q I h
  refine isTrue_or (thn (ha pins s σ H Q I h) fun c s1 e => ?_)
  cases c with
  | false => exact isTrue_or_nil e
  | true => exact e
theorem pw_and (ha : PT X a tA) (hb : PW X (.BoolOp .And (b :: rest) pos) tB') : PW X (.BoolOp .And (a :: b :: rest) pos) (tAnd tA tB') := by
  intro wh pins s σ H Q I h
  refine isTrue_and (thn (ha pins s σ H _ I h) fun c s1 ⟨H1, I1, q1⟩ => ?_)
  cases c with
  | true => exact hb wh pins s1 σ H1 Q I1 q1
  | false => exact ⟨H1, I1, q1⟩
theorem pw_or (ha : PT X a tA) (hb : PW X (.BoolOp .Or (b :: rest) pos) tB') : PW X (.BoolOp .Or (a :: b :: rest) pos) (tOr tA tB') := by
  intro wh pins s σ H Q I h
  refine isTrue_or (thn (ha pins s σ H _ I h) fun c s1 ⟨H1, I1, q1⟩ => ?_)
  cases c with
  | true => exact ⟨H1, I1, q1⟩
  | false => exact hb wh pins s1 σ H1 Q I1 q1
theorem pt_not (ha : PT X a tA) : PT X (.UnaryOp .Not a pos) (tNot tA) := by
  intro pins s σ H Q I h
  exact isTrue_not (ha pins s σ H (fun c H1 => Q (!c) H1) I h)
/-- .. as values (bools) -/
def tAndV (ta tb : TE) : TE := fun σ H Q => ta σ H fun x H1 => ∃ c, x = .bl c ∧ if c = true then tb σ H1 Q else Q (.bl false) H1
def tNotV (ta : TE) : TE := fun σ H Q => ta σ H fun x H1 => ∃ c, x = .bl c ∧ Q (.bl (!c)) H1
theorem pe_one {op} {t : TE} (h : PE X a t) : PE X (.BoolOp op [a] pos) t := fun pins s σ H Q I hw => BoolOp_one (h pins s σ H Q I hw)
theorem pe_and (ha : PE X a ta) (hb : PE X (.BoolOp .And (b :: rest) pos) tb) : PE X (.BoolOp .And (a :: b :: rest) pos) (tAndV ta tb) := by
  intro pins s σ H Q I h
  refine BoolOp_and (thn (ha pins s σ H _ I h) fun v s1 ⟨x, H1, I1, r1, q1⟩ => ?_)
  obtain ⟨c, rfl, q1⟩ := q1
  cases r1
  refine wpAny_truthy_bool ?_
  cases c with
  | true => exact hb pins s1 σ H1 Q I1 q1
  | false => exact ⟨.bl false, H1, I1, rfl, q1⟩
theorem pe_not (ha : PE X a ta) : PE X (.UnaryOp .Not a pos) (tNotV ta) := by
  intro pins s σ H Q I h
  refine UnaryOp_ (thn (ha pins s σ H _ I h) fun v s1 ⟨x, H1, I1, r1, q1⟩ => ?_)
  obtain ⟨c, rfl, q1⟩ := q1
  cases r1
  exact not_of (wpAny_truthy_bool ⟨.bl (!c), H1, I1, rfl, q1⟩)
/-- a if t else b -/
def tIf (t : TT) (ta tb : TE) : TE := fun σ H Q => t σ H fun c H1 => if c = true then ta σ H1 Q else tb σ H1 Q
theorem pe_ifExp {c : Expr} (hc : PT X c tA) (ha : PE X a ta) (hb : PE X b tb) : PE X (.IfExp c a b pos) (tIf tA ta tb) := by
  intro pins s σ H Q I h
  refine wpAny_IfExp (thn (hc pins s σ H _ I h) fun d s1 ⟨H1, I1, q1⟩ => ?_)
  cases d with
  | true => exact ha pins s1 σ H1 Q I1 q1
  | false => exact hb pins s1 σ H1 Q I1 q1
end
end L2

namespace L2
open PySem PySem.Spec PyProof.Rows

def SqL (K : PySem.W.Frag) (H : Hp) (a : Addr) (xs : List V) : Prop :=
  Rd H a (.lst xs) ∨
    ∃ (o : Obj) (its : Array Value) (n : Nat), K.lookup a = some o ∧ o.cls = .type "list" ∧ o.dict = none ∧ o.data = .seq its n ∧ its.size ≤ sizeLine ∧ Vals xs its.toList
def SqT (K : PySem.W.Frag) (H : Hp) (a : Addr) (xs : List V) : Prop :=
  Rd H a (.tup xs) ∨
    ∃ (o : Obj) (its : Array Value) (n : Nat), K.lookup a = some o ∧ o.cls = .type "tuple" ∧ o.data = .seq its n ∧ its.size ≤ sizeLine ∧ Vals xs its.toList
def absV : Value → Option V
  | .none => some .non
  | .bool b => some (.bl b)
  | .int i _ => some (.int i)
  | .str x _ => some (.str x)
  | .bytes b _ => some (.byt b)
  | .float b _ => some (.flt b)
  | .ref a => some (.ref a)
  | .type n => some (.ty n)
  | _ => none
theorem RelV.abs {x : V} {u : Value} (r : RelV x u) : absV u = some x := by
  cases x with
  | non => cases r; rfl
  | bl _ => cases r; rfl
  | int _ => obtain ⟨t, rfl⟩ := r; rfl
  | str _ => obtain ⟨t, rfl⟩ := r; rfl
  | byt _ => obtain ⟨t, rfl⟩ := r; rfl
  | flt _ => obtain ⟨t, rfl⟩ := r; rfl
  | ref _ => cases r; rfl
  | ty _ => cases r; rfl
theorem RelV.inj {x y : V} {u : Value} (r : RelV x u) (q : RelV y u) : x = y := Option.some.inj (r.abs.symm.trans q.abs)
theorem Vals.inj : ∀ {xs ys : List V} {us : List Value}, Vals xs us → Vals ys us → xs = ys
  | _, _, _, .nil, .nil => rfl
  | _, _, _, .cons r t, .cons r' t' => by rw [r.inj r', Vals.inj t t']
section
variable {X : Cx} {pins : List (Addr × Obj)} {σ : St} {H : Hp} {s : Shared} {a : Addr} {xs ys : List V}
theorem SqL.of {K : PySem.W.Frag} (h : H a = some (.lst xs)) : SqL K H a xs := .inl (.inl h)
theorem SqT.of {K : PySem.W.Frag} (h : H a = some (.tup xs)) : SqT K H a xs := .inl (.inl h)
theorem Inv.list (I : Inv X pins σ H s) (h : SqL X.K H a xs) : ∃ its : List Value, Vals xs its ∧ PlainL s.heap a its.toArray ∧ xs.length ≤ sizeLine := by
  rcases h with h | ⟨o, its, n, hk, hc, hd, hs, hz, r⟩
  · obtain ⟨z, its, n, r, e⟩ := h.ok I.hok
    exact ⟨its, r, ⟨_, n, e, rfl, rfl, rfl⟩, z⟩
  · refine ⟨its.toList, r, ⟨o, n, I.kIn a o hk, hc, hd, by simpa using hs⟩, ?_⟩
    have e := r.length
    simp only [Array.length_toList] at e
    omega
theorem Inv.tuple (I : Inv X pins σ H s) (h : SqT X.K H a xs) : ∃ its : List Value, Vals xs its ∧ IsTup s.heap a its.toArray ∧ xs.length ≤ sizeLine := by
  rcases h with h | ⟨o, its, n, hk, hc, hs, hz, r⟩
  · obtain ⟨z, its, r, p⟩ := h.ok I.hok
    exact ⟨its, r, p, z⟩
  · refine ⟨its.toList, r, ⟨o, I.kIn a o hk, hc, n, by simpa using hs⟩, ?_⟩
    have e := r.length
    simp only [Array.length_toList] at e
    omega
theorem Inv.list_inj (I : Inv X pins σ H s) (h : SqL X.K H a xs) (h' : SqL X.K H a ys) : xs = ys := by
  obtain ⟨its, r, ⟨o, n, e, _, _, d⟩, _⟩ := I.list h
  obtain ⟨its', r', ⟨o', n', e', _, _, d'⟩, _⟩ := I.list h'
  rw [e] at e'; cases e'
  rw [d] at d'
  injection d' with d1 _
  have : its = its' := by simpa using congrArg Array.toList d1
  subst this
  exact r.inj r'
theorem Inv.tuple_inj (I : Inv X pins σ H s) (h : SqT X.K H a xs) (h' : SqT X.K H a ys) : xs = ys := by
  obtain ⟨its, r, ⟨o, e, _, n, d⟩, _⟩ := I.tuple h
  obtain ⟨its', r', ⟨o', e', _, n', d'⟩, _⟩ := I.tuple h'
  rw [e] at e'; cases e'
  rw [d] at d'
  injection d' with d1 _
  have : its = its' := by simpa using congrArg Array.toList d1
  subst this
  exact r.inj r'
end

abbrev Cx.wish (X : Cx) (E : Value → Shared → Prop) : Cx := { X with xe := E }
/-- no exception leaves -/
abbrev Cx.nox (X : Cx) : Cx := X.wish fun _ _ => False
theorem Cx.Ok.wish {X : Cx} (ok : X.Ok) (E : Value → Shared → Prop) : (X.wish E).Ok :=
  ⟨ok.mod, ok.kind, ok.glob, ok.blt, ok.above, ok.inj, ok.has, ok.cab, ok.hd, ok.frames, ok.stk, ok.exf, ok.bs, ok.bsz, ok.noex, ok.exfs, ok.funs, ok.frf⟩
theorem Cx.Ok.unwish {X : Cx} {E : Value → Shared → Prop} (ok : (X.wish E).Ok) : X.Ok :=
  ⟨ok.mod, ok.kind, ok.glob, ok.blt, ok.above, ok.inj, ok.has, ok.cab, ok.hd, ok.frames, ok.stk, ok.exf, ok.bs, ok.bsz, ok.noex, ok.exfs, ok.funs, ok.frf⟩
section
variable {X : Cx} {pins : List (Addr × Obj)} {σ : St} {H : Hp} {s : Shared} {E : Value → Shared → Prop}
theorem Inv.wish (I : Inv X pins σ H s) (E : Value → Shared → Prop) : Inv (X.wish E) pins σ H s := ⟨I.ok.wish E, I.os, I.bare, I.base, I.loc, I.cell, I.free, I.freeC, I.pin, I.hok, I.len⟩
theorem Inv.unwish (I : Inv (X.wish E) pins σ H s) : Inv X pins σ H s := ⟨I.ok.unwish, I.os, I.bare, I.base, I.loc, I.cell, I.free, I.freeC, I.pin, I.hok, I.len⟩
theorem SP.unwish {D : Ends} {f : Flow} {s' : Shared} (h : SP (X.wish E) pins D f s') : SP X pins D f s' := by
  cases f with
  | next => obtain ⟨σ', H', I, q⟩ := h; exact ⟨σ', H', I.unwish, q⟩
  | brk => obtain ⟨σ', H', I, q⟩ := h; exact ⟨σ', H', I.unwish, q⟩
  | cont => obtain ⟨σ', H', I, q⟩ := h; exact ⟨σ', H', I.unwish, q⟩
  | ret u => obtain ⟨v, σ', H', I, r, q⟩ := h; exact ⟨v, σ', H', I.unwish, r, q⟩
theorem PSs.nox {st : List Stmt} {t : TS} (h : PSs X.nox st t) : PSs X st t := fun pins s σ H D I hw =>
  wpAny_mono (h pins s σ H D (I.wish _) hw) (fun _ _ q => q.unwish) fun _ _ z => False.elim z
end

section
variable {X : Cx} {st : Stmt} {rest : List Stmt} {t u : TS} {e : Expr} {te : TE} {pos : Pos}
def tNext : TS := fun D σ H => D.nx σ H
def tSeq (t u : TS) : TS := fun D σ H => t { D with nx := u D } σ H
theorem pss_nil : PSs X [] tNext := fun _ _ σ H _ I h => wpAny_execs_nil ⟨σ, H, I, h⟩
theorem pss_cons (h1 : PS X st t) (h2 : PSs X rest u) : PSs X (st :: rest) (tSeq t u) := by
  intro pins s σ H D I h
  refine wpAny_execs_cons (thn (h1 pins s σ H { D with nx := u D } I h) fun f s1 q => ?_)
  cases f with
  | next =>
    obtain ⟨σ', H', I', q⟩ := q
    exact h2 pins s1 σ' H' D I' q
  | ret v => exact q
  | brk => exact q
  | cont => exact q
theorem pss_one (h1 : PS X st t) : PSs X [st] t := by
  intro pins s σ H D I h
  refine wpAny_execs_cons (thn (h1 pins s σ H D I h) fun f s1 q => ?_)
  cases f with
  | next => exact wpAny_execs_nil q
  | ret v => exact q
  | brk => exact q
  | cont => exact q
/-- in a def's body nothing is shown -/
theorem Inv.quiet {pins : List (Addr × Obj)} {σ : St} {H : Hp} {s : Shared} (I : Inv X pins σ H s) : interactive X.env = false := by simp [interactive, I.ok.kind]
/-- an expression whose value is dropped -/
def tDrop (te : TE) : TS := fun D σ H => te σ H fun _ H1 => D.nx σ H1
theorem ps_expr (he : PE X e te) (hs : swapsWith e none pos.line X.env = pure false := by rfl) : PS X (.Expr e pos) (tDrop te) := by
  intro pins s σ H D I h
  exact wpAny_Expr_any (thn (he pins s σ H _ I h) fun v s1 ⟨x, H1, I1, r1, q1⟩ => ⟨σ, H1, I1, q1⟩) I.quiet hs
def tRet (te : TE) : TS := fun D σ H => te σ H D.rt
theorem ps_ret (he : PE X e te) : PS X (.Return (some e) pos) (tRet te) := by
  intro pins s σ H D I h
  exact wpAny_Return_some (thn (he pins s σ H _ I h) fun v s1 ⟨x, H1, I1, r1, q1⟩ => ⟨x, σ, H1, I1, r1, q1⟩)
def tRetN : TS := fun D _ H => D.rt .non H
theorem ps_retN : PS X (.Return none pos) tRetN := fun _ _ σ H _ I h => wpAny_Return_none ⟨.non, σ, H, I, rfl, h⟩
def tIfS (c : TT) (t u : TS) : TS := fun D σ H => c σ H fun b H1 => if b = true then t D σ H1 else u D σ H1
theorem ps_if {c : Expr} {a b : List Stmt} {tc : TT} (hc : PT X c tc) (ha : PSs X a t) (hb : PSs X b u) : PS X (.If c a b pos) (tIfS tc t u) := by
  intro pins s σ H D I h
  refine wpAny_If (thn (hc pins s σ H _ I h) fun d s1 ⟨H1, I1, q1⟩ => ?_)
  cases d with
  | true => exact ha pins s1 σ H1 D I1 q1
  | false => exact hb pins s1 σ H1 D I1 q1
/-- code that the proof never comes to -/
def tNever : TS := fun _ _ _ => False
theorem ps_never : PS X st tNever := fun _ _ _ _ _ _ h => h.elim
end

abbrev TG := V → St → Hp → (St → Hp → Prop) → Prop
abbrev TGs := List V → St → Hp → (St → Hp → Prop) → Prop
def PG (X : Cx) (target : Expr) (t : TG) : Prop :=
  ∀ (pins : List (Addr × Obj)) (s : Shared) (σ : St) (H : Hp) (v : V) (u : Value) (Q : St → Hp → Prop), Inv X pins σ H s → RelV v u → t v σ H Q →
    wpAny (model X.prog X.w) X.A (assign target X.env u) (fun _ s' => ∃ σ' H', Inv X pins σ' H' s' ∧ Q σ' H') X.xe s
/-- several targets, one after another -/
def PGs (X : Cx) (ts : List Expr) (t : TGs) : Prop :=
  ∀ (pins : List (Addr × Obj)) (s : Shared) (σ : St) (H : Hp) (vs : List V) (us : List Value) (Q : St → Hp → Prop), Inv X pins σ H s → Vals vs us → t vs σ H Q →
    wpAny (model X.prog X.w) X.A (assignInOrder ((assignEach ts X.env).map (·.2)) us) (fun _ s' => ∃ σ' H', Inv X pins σ' H' s' ∧ Q σ' H') X.xe s
/-- o[i] = v, by values -/
abbrev TSet := V → V → V → Hp → (Hp → Prop) → Prop
def PSet (X : Cx) (t : TSet) : Prop :=
  ∀ (pins : List (Addr × Obj)) (s : Shared) (σ : St) (H : Hp) (o i v : V) (ov iv u : Value) (Q : Hp → Prop), Inv X pins σ H s → RelV o ov → RelV i iv → RelV v u → t o i v H Q →
    wpAny (model X.prog X.w) X.A (setItem ov iv u) (fun _ s' => ∃ H', Inv X pins σ H' s' ∧ Q H') X.xe s
section
variable {X : Cx} {pos : Pos}
def gName (i : Nat) : TG := fun v σ H Q => Q (σ.set i (some v)) H
theorem pg_name {i : Nat} {x : Str} (hN : X.N.Nodup) (hi : X.N[i]? = some x) (hx : Loc X.env.scope x) (hf : X.fn x = true ∨ X.env.scope.names.lookup x = some .local := by first | exact .inl rfl | exact .inr rfl | assumption) : PG X (.Name x pos) (gName i) := by
  intro pins s σ H v u Q I r h
  exact wpAny_assign_Name (store_ok I hN hi hx r (fun s' I' => ⟨_, H, I', h⟩) hf)
def gNil : TGs := fun vs σ H Q => vs = [] ∧ Q σ H
def gCons (t : TG) (u : TGs) : TGs := fun vs σ H Q => ∃ v r, vs = v :: r ∧ t v σ H fun σ' H' => u r σ' H' Q
theorem pgs_nil : PGs X [] gNil := by
  intro pins s σ H vs us Q I r h
  obtain ⟨e, h⟩ := h
  subst e
  cases r
  exact assignInOrder_nil ⟨σ, H, I, h⟩
theorem pgs_cons {e : Expr} {es : List Expr} {t : TG} {u : TGs} (h1 : PG X e t) (h2 : PGs X es u)
    (hs : (assignEach (e :: es) X.env).map (·.2) = assign e X.env :: (assignEach es X.env).map (·.2) := by rfl) : PGs X (e :: es) (gCons t u) := by
  intro pins s σ H vs us Q I r h
  obtain ⟨v, vr, e1, h⟩ := h
  subst e1
  cases r with
  | cons r rr =>
    rw [hs]
    refine assignInOrder_cons (thn (h1 pins s σ H _ _ _ I r h) fun _ s1 ⟨σ1, H1, I1, q1⟩ => ?_)
    exact h2 pins s1 σ1 H1 _ _ Q I1 rr q1
/-- (a, b, ..) = a tuple of that length -/
def gTup (K : PySem.W.Frag) (n : Nat) (t : TGs) : TG := fun v σ H Q => ∃ a xs, v = .ref a ∧ SqT K H a xs ∧ xs.length = n ∧ t xs σ H Q
theorem pg_tup {es : List Expr} {k : Nat} {t : TGs} {n : Nat} (hc : X.calm = true) (h : PGs X es t)
    (hn : (assignEach es X.env).length = n := by rfl) (hst : (assignEach es X.env).findIdx? (·.1) = none := by rfl) : PG X (.Tuple es k pos) (gTup X.K n t) := by
  intro pins s σ H v u Q I r hw
  obtain ⟨a, xs, e1, hq, hl, hw⟩ := hw
  subst e1
  cases r
  obtain ⟨its, rv, ht, hz⟩ := I.tuple hq
  refine assign_Tuple_tuple (I.ok.hd hc) ht (by simp [hn, ← hl, rv.length]) hst fun h' hx => ?_
  have I1 : Inv X pins σ H { s with heap := h' } := I.kept (t' := s.toks) fun b o e => hx b o (Nat.ne_of_lt (Heap.lt_size e)) e
  exact h pins _ σ H xs _ Q I1 (by simpa using rv) hw
/-- o[i] = .. -/
def gSub (to ti : TE) (t : TSet) : TG := fun v σ H Q => to σ H fun o H1 => ti σ H1 fun i H2 => t o i v H2 fun H3 => Q σ H3
theorem pg_sub {o i : Expr} {to ti : TE} {t : TSet} (ho : PE X o to) (hi : PE X i ti) (hs : PSet X t)
    (ha : ∀ v, assign (.Subscript o i pos) X.env v = (do
      let ov ← holding [v] (eval o X.env)
      let iv ← holding [v, ov] (eval i X.env)
      standAt pos
      holding [v, ov, iv] (setItem ov iv v)
      release [v, ov, iv] []) := by intro _; rfl) : PG X (.Subscript o i pos) (gSub to ti t) := by
  intro pins s σ H v u Q I r h
  rw [ha]
  refine wpAny_bind (wpAny_holding (thn (ho pins s σ H _ I h) fun ov s1 ⟨x, H1, I1, r1, q1⟩ => ?_))
  refine wpAny_bind (wpAny_holding (thn (hi pins s1 σ H1 _ I1 q1) fun iv s2 ⟨y, H2, I2, r2, q2⟩ => ?_))
  refine wpAny_bind (wpAny_standAt (wpAny_bind (wpAny_holding (thn (hs pins s2 σ H2 x y v ov iv u _ I2 r1 r2 r q2) fun _ s3 ⟨H3, I3, q3⟩ => ?_))))
  exact wpAny_release ⟨σ, H3, I3, q3⟩
/-- target = value -/
def tAsg (te : TE) (g : TG) : TS := fun D σ H => te σ H fun x H1 => g x σ H1 D.nx
theorem ps_asg {tg e : Expr} {te : TE} {g : TG} (he : PE X e te) (hg : PG X tg g) (hs : swapsWithSole [tg] e pos.line X.env = pure false := by rfl) (hw : swappedStores [tg] e X.env = pure none := by rfl)
    (h1 : (assignEach [tg] X.env).map (·.2) = [assign tg X.env] := by rfl) : PS X (.Assign [tg] e pos) (tAsg te g) := by
  intro pins s σ H D I h
  refine wpAny_Assign_stores (thn (he pins s σ H _ I h) fun v s1 ⟨x, H1, I1, r1, q1⟩ => ?_) hs hw
  rw [h1]
  exact thn (hg pins s1 σ H1 x v _ I1 r1 q1) fun _ s2 q => q
/-- name = value -/
theorem ps_set {i : Nat} {x : Str} {e : Expr} {te : TE} {pos' : Pos} (hN : X.N.Nodup) (hi : X.N[i]? = some x) (hx : Loc X.env.scope x) (he : PE X e te) (hs : swapsWith e (some (.Name x pos')) pos.line X.env = pure false := by rfl) (hf : X.fn x = true ∨ X.env.scope.names.lookup x = some .local := by first | exact .inl rfl | exact .inr rfl | assumption) :
    PS X (.Assign [.Name x pos'] e pos) (tAsg te (gName i)) := by
  intro pins s σ H D I h
  refine wpAny_Assign_Name (thn (he pins s σ H _ I h) fun v s1 ⟨y, H1, I1, r1, q1⟩ => ?_) hs
  exact store_ok I1 hN hi hx r1 (fun s2 I2 => ⟨_, H1, I2, q1⟩) hf
end

section
variable {X : Cx} {pos : Pos}
end

/-- at turn i: it yields x (the heap may grow), or it stops -/
structure It where
  go : Nat → Hp → Prop
  yld : Nat → Hp → V → Hp → Prop
  stop : Nat → Hp → Prop
/-- the iterator's own objects may turn: they are not the frame's, not pinned, younger than the entry (or a comprehension's own) -/
def FpOk (X : Cx) (pins : List (Addr × Obj)) (H : Hp) (b : Addr) : Prop :=
  H b = none ∧ b ≠ X.env.locals ∧ b ∉ X.fs ∧ (b ∈ X.ex ∨ X.s₀.heap.objs.size ≤ b) ∧ (∀ x c, X.env.cells.lookup x = some c → c ≠ b) ∧ ∀ p ∈ X.pn ++ pins, p.1 ≠ b
theorem Inv.fpOk {X : Cx} {pins : List (Addr × Obj)} {σ : St} {H H' : Hp} {s : Shared} {b : Addr} (I : Inv X pins σ H s) (hb : s.heap.objs.size ≤ b) (hn : H' b = none) : FpOk X pins H' b := by
  refine ⟨hn, Nat.ne_of_gt (Nat.lt_of_lt_of_le I.lt hb), I.nofs hb, .inr (Nat.le_trans I.sz hb), fun x c e z => ?_, fun p hp z => ?_⟩
  · obtain ⟨v, q⟩ := I.cell x c e
    exact absurd (Nat.lt_of_lt_of_le q.lt (by rw [z]; exact hb)) (Nat.lt_irrefl _)
  · exact absurd (Nat.lt_of_lt_of_le (Heap.lt_size (I.pin p hp).1) (by rw [z]; exact hb)) (Nat.lt_irrefl _)
structure Turn (P : Program) (w : World) (K : PySem.W.Frag) (tg : Expr) (J : It) (fp : List Addr) (it : Addr) (tn : Nat → Heap → Prop) : Prop where
  mem : it ∈ fp
  obj : ∀ i h, tn i h → ∀ b ∈ fp, ∃ o, h.get? b = some o ∧ ∀ v, o.data ≠ .cell v
  keep : ∀ i h h', tn i h → (∀ b ∈ fp, ∀ o, h.get? b = some o → h'.get? b = some o) → tn i h'
  item : ∀ (X : Cx), X.prog = P → X.w = w → X.K = K → X.calm = true → ∀ (i : Nat) (pins : List (Addr × Obj)) (s : Shared) (σ : St) (H : Hp) (E : Value → Shared → Prop), Inv X pins σ H s → (∀ b ∈ fp, FpOk X pins H b) → tn i s.heap → J.go i H →
    wpAny (model P w) X.A (pyNext (.ref it)) (fun r s1 => ∃ u, r = some u ∧
      wpAny (model P w) X.A (letOwnedTupleGo tg (.ref it) u) (fun _ s2 => ∃ x H', Inv X pins σ H' s2 ∧ RelV x u ∧ J.yld i H x H' ∧ tn (i + 1) s2.heap ∧ ∀ b ∈ fp, H' b = none) E s1) E s
  done : ∀ (X : Cx), X.prog = P → X.w = w → X.K = K → X.calm = true → ∀ (i : Nat) (pins : List (Addr × Obj)) (s : Shared) (σ : St) (H : Hp) (E : Value → Shared → Prop), Inv X pins σ H s → (∀ b ∈ fp, FpOk X pins H b) → tn i s.heap → J.stop i H →
    wpAny (model P w) X.A (pyNext (.ref it)) (fun r s1 => r = none ∧ Inv X pins σ H s1) E s
  self : ∀ (A : Around) (i : Nat) (s : Shared) (Q : Value → Shared → Prop) (E : Value → Shared → Prop), tn i s.heap → Q (.ref it) s → wpAny (model P w) A (pyIter (.ref it)) Q E s
abbrev TI := St → Hp → (It → Hp → Prop) → Prop
/-- an iterator has come -/
def PIE (X : Cx) (pins : List (Addr × Obj)) (σ : St) (tg : Expr) (R : It → Hp → Prop) (itv : Value) (s2 : Shared) : Prop :=
  ∃ (it : Addr) (fp : List Addr) (tn : Nat → Heap → Prop) (J : It) (H' : Hp), itv = .ref it ∧ Inv X pins σ H' s2 ∧ Turn X.prog X.w X.K tg J fp it tn ∧ tn 0 s2.heap ∧ (∀ b ∈ fp, FpOk X pins H' b) ∧ R J H'
def PI (X : Cx) (tg iter : Expr) (wi : TI) : Prop :=
  ∀ (pins : List (Addr × Obj)) (s : Shared) (σ : St) (H : Hp) (R : It → Hp → Prop), Inv X pins σ H s → wi σ H R →
    wpAny (model X.prog X.w) X.A (eval iter X.env) (fun v s1 => wpAny (model X.prog X.w) X.A (pyIter v) (PIE X pins σ tg R) X.xe s1) X.xe s

/-- the step ahead of the store is nothing for an iterator that keeps no tuple -/
theorem go_of {M : Model} {A : Around} {E : Value → Shared → Prop} {s : Shared} {tg : Expr} {it : Addr} {u : Value} {o : Obj} {n : String} {vs : Array Value} {Q : Unit → Shared → Prop} (ho : s.heap.get? it = some o) (hc : o.cls = .type n) (hd : o.data = .fields vs)
    (hn : ["enumerate", "zip", "dict_itemiterator", "dict_reverseitemiterator", "odict_iterator", "itertools.zip_longest", "itertools.pairwise"].contains n = false) (hQ : Q () s) : wpAny M A (letOwnedTupleGo tg (.ref it) u) Q E s := by
  unfold letOwnedTupleGo
  cases tg <;> first
    | exact wpAny_pure hQ
    | (cases u <;> first
        | exact wpAny_pure hQ
        | (refine wpAny_bind (wpAny_load ho ?_)
           rw [hc, hd]
           show wpAny M A (if (["enumerate", "zip", "dict_itemiterator", "dict_reverseitemiterator", "odict_iterator", "itertools.zip_longest", "itertools.pairwise"].contains n && vs[0]? == some (rawInt _)) = true then _ else _) Q E s
           rw [if_neg (by intro h; rw [hn, Bool.false_and] at h; cases h)]
           exact wpAny_pure hQ))

/-- the list at a, as it stands at each turn (a loop may append to it) -/
def Itl (K : PySem.W.Frag) (a : Addr) : It :=
  ⟨fun i H => ∃ xs x, SqL K H a xs ∧ xs[i]? = some x, fun i H x H' => H' = H ∧ ∀ xs, SqL K H a xs → xs[i]? = some x, fun i H => ∃ xs, SqL K H a xs ∧ xs.length ≤ i⟩
/-- lo, lo + 1, .. (n of them) -/
def Itr (lo : Int) (n : Nat) : It := ⟨fun i _ => i < n, fun i H x H' => H' = H ∧ x = .int (lo + i), fun i _ => n ≤ i⟩
theorem turn_list {P : Program} {w : World} {K : PySem.W.Frag} {tg : Expr} (a it : Addr) : Turn P w K tg (Itl K a) [it] it (fun i h => h.IsListIter it a i) where
  mem := by simp
  obj := fun i h st b hb => by
    have e : b = it := by simpa using hb
    subst e
    obtain ⟨o, e, c, d⟩ := st
    exact ⟨o, e, fun v z => by rw [d] at z; cases z⟩
  keep := fun i h h' st k => st.at fun o e => k it (by simp) o e
  item := by
    intro X hP hw hK hc i pins s σ H E I hf st hg
    subst hP hw hK
    obtain ⟨xs, x, hq, hx⟩ := hg
    obtain ⟨its, rv, p, hz⟩ := I.list hq
    obtain ⟨u, hu, ru⟩ := rv.get hx
    obtain ⟨f0, f1, f2, f3, f4, f5⟩ := hf it (by simp)
    refine wpAny_pyNext_list_item st p.isList (x := u) (by simpa using hu) fun h' st' sb => ?_
    have I1 : Inv X pins σ H { s with heap := h' } := I.turned (t' := s.toks) (fun b o hb e => (sb.2 b hb).trans e) f0 f1 f3 f4 f5
    obtain ⟨o, e, c, d⟩ := id st'
    exact ⟨u, rfl, go_of (s := { s with heap := h' }) e c d (by decide) ⟨x, H, I1, ru, ⟨rfl, fun ys hy => by rw [I.list_inj hy hq]; exact hx⟩, st', fun b hb => (hf b hb).1⟩⟩
  done := by
    intro X hP hw hK hc i pins s σ H E I hf st hg
    subst hP hw hK
    obtain ⟨xs, hq, hx⟩ := hg
    obtain ⟨its, rv, p, hz⟩ := I.list hq
    obtain ⟨f0, f1, f2, f3, f4, f5⟩ := hf it (by simp)
    have hl := rv.length
    exact wpAny_pyNext_list_end (I.ok.hd hc) st p.isList (by simp; omega) fun h' eb => ⟨rfl, I.turned (t' := s.toks) (fun b o hb e => eb b o hb e) f0 f1 f3 f4 f5⟩
  self := fun _ _ _ _ _ st h => wpAny_pyIter_listiter st h
theorem turn_range {P : Program} {w : World} {K : PySem.W.Frag} {tg : Expr} (it : Addr) (lo : Int) (n : Nat) : Turn P w K tg (Itr lo n) [it] it (fun i h => IsRangeIter h it (lo + (i : Nat) * 1) ((n : Int) - (i : Nat)) 1) where
  mem := by simp
  obj := fun i h st b hb => by
    have e : b = it := by simpa using hb
    subst e
    exact ⟨_, st, fun v z => by
      have z' : Data.fields _ = Data.cell v := z
      cases z'⟩
  keep := fun i h h' st k => k it (by simp) _ st
  item := by
    intro X hP hw hK hc i pins s σ H E I hf st hg
    subst hP hw hK
    obtain ⟨f0, f1, f2, f3, f4, f5⟩ := hf it (by simp)
    have W := Walks.range (prog := X.prog) (w := X.w) (I.ok.hd hc) it lo 1 n
    refine W.item i s _ _ hg st fun v h' tk hv st' kk => ?_
    obtain ⟨t, rfl⟩ := hv
    have I1 : Inv X pins σ H { s with heap := h', toks := tk } := I.turned (fun b o hb e => kk b o (by simpa using hb) e) f0 f1 f3 f4 f5
    refine ⟨_, rfl, go_of (s := { s with heap := h', toks := tk }) (n := "range_iterator") st' rfl rfl (by decide) ⟨.int (lo + i), H, I1, ⟨t, ?_⟩, ⟨rfl, rfl⟩, st', fun b hb => (hf b hb).1⟩⟩
    rw [Int.mul_one]
  done := by
    intro X hP hw hK hc i pins s σ H E I hf st hg
    subst hP hw hK
    obtain ⟨f0, f1, f2, f3, f4, f5⟩ := hf it (by simp)
    exact wpAny_pyNext_range_end (I.ok.hd hc) st (by have : n ≤ i := hg; omega) fun h' eb => ⟨rfl, I.turned (t' := s.toks) (fun b o hb e => eb b o hb e) f0 f1 f3 f4 f5⟩
  self := fun _ _ _ _ _ st h => wpAny_pyIter_rangeiter st h
end L2

namespace L2
open PySem PySem.Spec PyProof.Rows
section
variable {X : Cx} {tg : Expr}
def iList (K : PySem.W.Frag) (tl : TE) : TI := fun σ H R => tl σ H fun x H1 => ∃ a, x = .ref a ∧ (∃ xs, SqL K H1 a xs) ∧ R (Itl K a) H1
theorem pi_list {l : Expr} {tl : TE} (hl : PE X l tl) : PI X tg l (iList X.K tl) := by
  intro pins s σ H R I h
  refine thn (hl pins s σ H _ I h) fun v s1 ⟨x, H1, I1, r1, q1⟩ => ?_
  obtain ⟨a, e, ⟨xs, hq⟩, q⟩ := q1
  subst e
  cases r1
  obtain ⟨its, rv, p, hz⟩ := I1.list hq
  refine wpAny_pyIter_list p.isList ?_
  refine ⟨s1.heap.objs.size, [s1.heap.objs.size], _, _, H1, rfl, I1.kept (t' := s1.toks) fun b o e => Heap.get?_push_of_some _ e, turn_list a _, ⟨_, Heap.get?_push_size _ rfl, rfl, rfl⟩, fun b hb => ?_, q⟩
  have e : b = s1.heap.objs.size := by simpa using hb
  subst e
  exact I1.fpOk (Nat.le_refl _) (I1.hok.fresh (Nat.le_refl _))
/-- a range object just made, walked -/
theorem range_it {pins : List (Addr × Obj)} {σ : St} {H : Hp} {s : Shared} {R : It → Hp → Prop} {E : Value → Shared → Prop} {lo hi : Int} {t u v : Tok} {tk : Nat} (I : Inv X pins σ H s) (h1 : -(2 ^ 62) ≤ lo) (h2 : lo < 2 ^ 62) (h3 : -(2 ^ 62) ≤ hi) (h4 : hi < 2 ^ 62)
    (q : R (Itr lo (hi - lo).toNat) H) : wpAny (model X.prog X.w) X.A (pyIter (.ref s.heap.objs.size)) (PIE X pins σ tg R) E { s with heap := s.heap.push { cls := .type "range", data := .fields #[.int lo t, .int hi u, .int 1 v] }, toks := tk } := by
  refine wpAny_pyIter_range (IsRange.new ..) (small_one h1 h2 h3 h4) ?_
  have I1 : Inv X pins σ H { s with heap := s.heap.push { cls := .type "range", data := .fields #[.int lo t, .int hi u, .int 1 v] }, toks := tk } := I.kept fun b o e => Heap.get?_push_of_some _ e
  refine ⟨(s.heap.push { cls := .type "range", data := .fields #[.int lo t, .int hi u, .int 1 v] }).objs.size, [(s.heap.push { cls := .type "range", data := .fields #[.int lo t, .int hi u, .int 1 v] }).objs.size], _, _, H, rfl,
    I1.kept (t' := tk) fun b o e => Heap.get?_push_of_some _ e, turn_range _ lo (hi - lo).toNat, ?_, fun b hb => ?_, q⟩
  · have e1 : lo + ((0 : Nat) : Int) * 1 = lo := by simp
    have e2 : (((hi - lo).toNat : Nat) : Int) - ((0 : Nat) : Int) = Builtin.Range.rangeSize lo hi 1 := by rw [rangeSize_one]; split <;> omega
    show IsRangeIter _ _ (lo + ((0 : Nat) : Int) * 1) ((((hi - lo).toNat : Nat) : Int) - ((0 : Nat) : Int)) 1
    rw [e1, e2]
    exact Heap.get?_push_size _ rfl
  · have e : b = (s.heap.push { cls := .type "range", data := .fields #[.int lo t, .int hi u, .int 1 v] }).objs.size := by simpa using hb
    subst e
    exact I1.fpOk (Nat.le_refl _) (I1.hok.fresh (Nat.le_refl _))
def iRng1 (ta : TA) : TI := fun σ H R => ta σ H fun vs H1 => ∃ j : Int, vs = [.int j] ∧ -(2 ^ 62) ≤ j ∧ j < 2 ^ 62 ∧ R (Itr 0 j.toNat) H1
theorem pi_range1 {a : Expr} {ta : TA} {p pos : Pos} (hg : Gl X "range") (hm : X.mg "range" = none) (ha : PA X [a] ta) (hs : starEach [a] X.env = [(false, eval a X.env)] := by rfl) : PI X tg (.Call (.Name "range" p) [a] [] pos) (iRng1 ta) := by
  intro pins s σ H R I h
  refine Call_ (ld_blt I hg hm boot_range (PyProof.Rows.callWith_type1 (thn (ha pos pins s σ H _ I h) fun us s1 ⟨vs, H1, I1, r1, q1⟩ => ?_) hs rfl))
  obtain ⟨j, e, q1, q2, q⟩ := q1
  subst e
  cases r1 with
  | cons r rr =>
    cases rr
    obtain ⟨t, rfl⟩ := r
    exact call_range_1 (range_it I1 (by omega) (by omega) q1 q2 (by simpa using q))
/-- W: the invariant by the turn and a measure; N: what the body is to reach -/
def tFor (wi : TI) (g : TG) (tb : TS) : TS := fun D σ H => wi σ H fun J H1 => ∃ W : Nat → Nat → St → Hp → Prop, (∃ m, W 0 m σ H1) ∧ ∀ i m σ H, W i m σ H →
  (J.stop i H ∧ D.nx σ H) ∨ (J.go i H ∧ ∃ N : St → Hp → Prop, (∀ σ' H', N σ' H' → ∃ m', m' < m ∧ W (i + 1) m' σ' H') ∧ ∀ x H', J.yld i H x H' → g x σ H' fun σ2 H2 => tb { D with nx := N, ct := N, bk := D.nx } σ2 H2)
/-- the records at fp as they stand -/
def pinsAt (fp : List Addr) (h : Heap) : List (Addr × Obj) := fp.filterMap fun b => (h.get? b).map fun o => (b, o)
theorem mem_pinsAt {fp : List Addr} {h : Heap} {b : Addr} {o : Obj} (hb : b ∈ fp) (e : h.get? b = some o) : (b, o) ∈ pinsAt fp h := List.mem_filterMap.mpr ⟨b, hb, by rw [e]; rfl⟩
theorem of_pinsAt {fp : List Addr} {h : Heap} {p : Addr × Obj} (hp : p ∈ pinsAt fp h) : p.1 ∈ fp ∧ h.get? p.1 = some p.2 := by
  obtain ⟨b, hb, e⟩ := List.mem_filterMap.mp hp
  cases q : h.get? b with
  | none => rw [q] at e; cases e
  | some o =>
    rw [q] at e
    have e' : (b, o) = p := Option.some.inj e
    subst e'
    exact ⟨hb, q⟩
theorem Inv.pinned {pins : List (Addr × Obj)} {σ : St} {H : Hp} {s : Shared} {fp : List Addr} (I : Inv X pins σ H s) (hf : ∀ b ∈ fp, FpOk X pins H b) (ho : ∀ b ∈ fp, ∃ o, s.heap.get? b = some o ∧ ∀ v, o.data ≠ .cell v) : Inv X (pins ++ pinsAt fp s.heap) σ H s :=
  I.pins_of fun p hp => (List.mem_append.mp hp).elim (fun z => I.pin p (List.mem_append_right _ z)) fun z => by
    obtain ⟨hb, e⟩ := of_pinsAt z
    obtain ⟨f0, f1, f2, _⟩ := hf p.1 hb
    obtain ⟨o, e', d⟩ := ho p.1 hb
    rw [e] at e'; cases e'
    exact ⟨e, f0, f1, f2, d⟩
theorem Inv.unpinned {pins pl : List (Addr × Obj)} {σ : St} {H : Hp} {s : Shared} (I : Inv X (pins ++ pl) σ H s) : Inv X pins σ H s := I.pins_of fun p hp => I.pin p (List.mem_append_right _ (List.mem_append_left _ hp))
theorem ps_for {iter : Expr} {body : List Stmt} {wi : TI} {g : TG} {tb : TS} {pos : Pos} (hp : PassesOwn (model X.prog X.w) X.A X.env X.xe) (hc : X.calm = true) (hi : PI X tg iter wi) (hg : PG X tg g) (hb : PSs X body tb)
    (hs : ∀ x, foldedSetIterable iter X.env x = pure x := by intro _; rfl) : PS X (.For tg iter body [] pos) (tFor wi g tb) := by
  intro pins s σ H D I h
  refine wpAny_For (thn (hi pins s σ H _ I h) fun v s1 h1 => thn h1 fun itv s2 h2 => ?_) hs
  obtain ⟨it, fp, tn, J, H2, e, I2, T, st2, f2, W, ⟨m0, w0⟩, turn⟩ := h2
  subst e
  -- what stays true of the iterator's objects through the loop
  have stat : ∀ {H' : Hp}, (∀ b ∈ fp, H' b = none) → ∀ b ∈ fp, FpOk X pins H' b := fun hn b hb => ⟨hn b hb, (f2 b hb).2⟩
  refine codeAny_forLoop_any (fun n s' => ∃ i σ' H', Inv X pins σ' H' s' ∧ tn i s'.heap ∧ (∀ b ∈ fp, H' b = none) ∧ W i n σ' H') ?_ m0 ⟨0, σ, H2, I2, st2, fun b hb => (f2 b hb).1, w0⟩
  rintro n s3 ⟨i, σ3, H3, I3, st3, fr3, w3⟩
  rcases turn i n σ3 H3 w3 with ⟨stop, qn⟩ | ⟨go, N, hN, step⟩
  · refine wpAny_passesOwn hp (thn (T.done X rfl rfl rfl hc i pins s3 σ3 H3 X.xe I3 (stat fr3) st3 stop) fun r s4 ⟨hr, I4⟩ => ?_)
    subst hr
    exact wpAny_execs_nil ⟨σ3, H3, I4, qn⟩
  · refine wpAny_passesOwn hp (thn (T.item X rfl rfl rfl hc i pins s3 σ3 H3 X.xe I3 (stat fr3) st3 go) fun r s4 ⟨u, hr, h4⟩ => ?_)
    subst hr
    refine wpAny_passesOwn hp (thn h4 fun _ s5 ⟨x, H5, I5, r5, y5, st5, fr5⟩ => ?_)
    have I5' := I5.pinned (stat fr5) (T.obj _ _ st5)
    refine wpAny_passesOwn hp (thn (hg _ s5 σ3 H5 x u _ I5' r5 (step x H5 y5)) fun _ s6 ⟨σ6, H6, I6, q6⟩ => ?_)
    refine wpAny_passesOwn hp (thn (hb _ s6 σ6 H6 _ I6 q6) fun f s7 q7 => ?_)
    have again : ∀ {σ7 : St} {H7 : Hp}, Inv X (pins ++ pinsAt fp s5.heap) σ7 H7 s7 → N σ7 H7 → ∃ m, m < n ∧ ∃ i σ' H', Inv X pins σ' H' s7 ∧ tn i s7.heap ∧ (∀ b ∈ fp, H' b = none) ∧ W i m σ' H' := fun {σ7 H7} I7 n7 => by
      obtain ⟨m', hm, w7⟩ := hN σ7 H7 n7
      refine ⟨m', hm, i + 1, σ7, H7, I7.unpinned, T.keep _ _ _ st5 fun b hb o e => (I7.pin (b, o) (List.mem_append_right _ (List.mem_append_right _ (mem_pinsAt hb e)))).1, fun b hb => ?_, w7⟩
      obtain ⟨o, e, d⟩ := T.obj _ _ st5 b hb
      exact (I7.pin (b, o) (List.mem_append_right _ (List.mem_append_right _ (mem_pinsAt hb e)))).2.1
    cases f with
    | next => obtain ⟨σ7, H7, I7, n7⟩ := q7; exact again I7 n7
    | cont => obtain ⟨σ7, H7, I7, n7⟩ := q7; exact again I7 n7
    | brk => obtain ⟨σ7, H7, I7, q7⟩ := q7; exact ⟨σ7, H7, I7.unpinned, q7⟩
    | ret v => obtain ⟨x7, σ7, H7, I7, r7, q7⟩ := q7; exact ⟨x7, σ7, H7, I7.unpinned, r7, q7⟩
end

/-- over a list that the body leaves as it is -/
theorem for_list {K : PySem.W.Frag} {a : Addr} {xs : List V} {g : TG} {tb : TS} {D : Ends} {σ : St} {H : Hp} (Pv : Nat → St → Hp → Prop) (h0 : Pv 0 σ H) (hl : ∀ i σ H, i ≤ xs.length → Pv i σ H → SqL K H a xs)
    (hs : ∀ i x σ H, xs[i]? = some x → Pv i σ H → g x σ H fun σ2 H2 => tb { D with nx := Pv (i + 1), ct := Pv (i + 1), bk := D.nx } σ2 H2) (hd : ∀ σ H, Pv xs.length σ H → D.nx σ H) :
    ∃ W : Nat → Nat → St → Hp → Prop, (∃ m, W 0 m σ H) ∧ ∀ i m σ H, W i m σ H →
      ((Itl K a).stop i H ∧ D.nx σ H) ∨ ((Itl K a).go i H ∧ ∃ N : St → Hp → Prop, (∀ σ' H', N σ' H' → ∃ m', m' < m ∧ W (i + 1) m' σ' H') ∧ ∀ x H', (Itl K a).yld i H x H' → g x σ H' fun σ2 H2 => tb { D with nx := N, ct := N, bk := D.nx } σ2 H2) := by
  refine ⟨fun i m σ H => m = xs.length - i ∧ i ≤ xs.length ∧ Pv i σ H, ⟨xs.length, by simp, Nat.zero_le _, h0⟩, ?_⟩
  rintro i m σ H ⟨rfl, hi, p⟩
  have q := hl i σ H hi p
  by_cases hlt : i < xs.length
  · refine .inr ⟨⟨xs, xs[i], q, by simp [hlt]⟩, Pv (i + 1), fun σ' H' p' => ⟨xs.length - (i + 1), by omega, rfl, hlt, p'⟩, fun x H' y => ?_⟩
    obtain ⟨e, y⟩ := y
    subst e
    exact hs i x σ _ (y xs q) p
  · have e : i = xs.length := by omega
    subst e
    exact .inl ⟨⟨xs, q, Nat.le_refl _⟩, hd σ H p⟩
theorem for_range {lo : Int} {n : Nat} {g : TG} {tb : TS} {D : Ends} {σ : St} {H : Hp} (Pv : Nat → St → Hp → Prop) (h0 : Pv 0 σ H)
    (hs : ∀ i σ H, i < n → Pv i σ H → g (.int (lo + i)) σ H fun σ2 H2 => tb { D with nx := Pv (i + 1), ct := Pv (i + 1), bk := D.nx } σ2 H2) (hd : ∀ σ H, Pv n σ H → D.nx σ H) :
    ∃ W : Nat → Nat → St → Hp → Prop, (∃ m, W 0 m σ H) ∧ ∀ i m σ H, W i m σ H →
      ((Itr lo n).stop i H ∧ D.nx σ H) ∨ ((Itr lo n).go i H ∧ ∃ N : St → Hp → Prop, (∀ σ' H', N σ' H' → ∃ m', m' < m ∧ W (i + 1) m' σ' H') ∧ ∀ x H', (Itr lo n).yld i H x H' → g x σ H' fun σ2 H2 => tb { D with nx := N, ct := N, bk := D.nx } σ2 H2) := by
  refine ⟨fun i m σ H => m = n - i ∧ i ≤ n ∧ Pv i σ H, ⟨n, by simp, Nat.zero_le _, h0⟩, ?_⟩
  rintro i m σ H ⟨rfl, hi, p⟩
  by_cases hlt : i < n
  · refine .inr ⟨hlt, Pv (i + 1), fun σ' H' p' => ⟨n - (i + 1), by omega, rfl, hlt, p'⟩, fun x H' y => ?_⟩
    obtain ⟨e, y⟩ := y
    subst e y
    exact hs i σ _ hlt p
  · have e : i = n := by omega
    subst e
    exact .inl ⟨Nat.le_refl _, hd σ H p⟩
end L2

namespace L2
open PySem PySem.Spec PyProof.Rows

abbrev R2 := V → V → Hp → VK → Prop
/-- a two-place operation on values: f is binaryOp op, inplaceOp op or compareOp op -/
def OpR (X : Cx) (f : Value → Value → Sem Value) (r : R2) : Prop :=
  ∀ (pins : List (Addr × Obj)) (s : Shared) (σ : St) (H : Hp) (x y : V) (v u : Value) (Q : VK), Inv X pins σ H s → RelV x v → RelV y u → r x y H Q →
    wpAny (model X.prog X.w) X.A (f v u) (EP X pins σ Q) X.xe s
/-- a one-place operation -/
def UnR (X : Cx) (f : Value → Sem Value) (r : V → Hp → VK → Prop) : Prop :=
  ∀ (pins : List (Addr × Obj)) (s : Shared) (σ : St) (H : Hp) (x : V) (v : Value) (Q : VK), Inv X pins σ H s → RelV x v → r x H Q →
    wpAny (model X.prog X.w) X.A (f v) (EP X pins σ Q) X.xe s
/-- a call of a value that is known (a builtin, a type) with values -/
def CallR (X : Cx) (f : Value) (r : List V → Hp → VK → Prop) : Prop :=
  ∀ (pins : List (Addr × Obj)) (s : Shared) (σ : St) (H : Hp) (xs : List V) (us : List Value) (Q : VK), Inv X pins σ H s → Vals xs us → r xs H Q →
    wpAny (model X.prog X.w) X.A (call f us) (EP X pins σ Q) X.xe s
def tOp (r : R2) (ta tb : TE) : TE := fun σ H Q => ta σ H fun x H1 => tb σ H1 fun y H2 => r x y H2 Q
def tUn (r : V → Hp → VK → Prop) (ta : TE) : TE := fun σ H Q => ta σ H fun x H1 => r x H1 Q
/-- ints in, under C, and a value out -/
def rI (C : Int → Int → Prop) (g : Int → Int → V) : R2 := fun x y H Q => ∃ i j, x = .int i ∧ y = .int j ∧ C i j ∧ Q (g i j) H
def rI0 (g : Int → Int → V) : R2 := fun x y H Q => ∃ i j, x = .int i ∧ y = .int j ∧ Q (g i j) H
def rU (g : Int → V) : V → Hp → VK → Prop := fun x H Q => ∃ i, x = .int i ∧ Q (g i) H

section
variable {X : Cx} {a b c : Expr} {ta tb tc : TE} {pos : Pos}

theorem binT (ha : PE X a ta) (hb : PE X b tb) {pins : List (Addr × Obj)} {s : Shared} {σ : St} {H : Hp} {R : V → V → Hp → Prop} (I : Inv X pins σ H s)
    (h : ta σ H fun x H1 => tb σ H1 fun y H2 => R x y H2) {Q : Value → Shared → Prop} {f : Value → Value → Sem Value}
    (hf : ∀ v u s2 x y H2, Inv X pins σ H2 s2 → RelV x v → RelV y u → R x y H2 → wpAny (model X.prog X.w) X.A (f v u) Q X.xe s2) :
    wpAny (model X.prog X.w) X.A (eval a X.env) (fun v s₁ => wpAny (model X.prog X.w) X.A (eval b X.env) (fun u s₂ => wpAny (model X.prog X.w) X.A (f v u) Q X.xe s₂) X.xe s₁) X.xe s := by
  refine thn (ha pins s σ H _ I h) fun v s1 ⟨x, H1, I1, r1, q1⟩ => ?_
  refine thn (hb pins s1 σ H1 _ I1 q1) fun u s2 ⟨y, H2, I2, r2, q2⟩ => ?_
  exact hf v u s2 x y H2 I2 r1 r2 q2

theorem pe_op {op : Operator} {r : R2} (ho : OpR X (binaryOp op) r) (ha : PE X a ta) (hb : PE X b tb) : PE X (.BinOp a op b pos) (tOp r ta tb) := by
  intro pins s σ H Q I h
  exact wpAny_BinOp (binT ha hb I h fun v u s2 x y H2 I2 rx ry q => ho pins s2 σ H2 x y v u Q I2 rx ry q)
theorem pe_un {op : UnaryOp} {r : V → Hp → VK → Prop} (ho : UnR X (unaryOp op) r) (ha : PE X a ta) : PE X (.UnaryOp op a pos) (tUn r ta) := by
  intro pins s σ H Q I h
  exact UnaryOp_ (thn (ha pins s σ H _ I h) fun v s1 ⟨x, H1, I1, r1, q1⟩ => ho pins s1 σ H1 x v Q I1 r1 q1)
theorem opI {f : Value → Value → Sem Value} {C : Int → Int → Prop} {g : Int → Int → Int}
    (rule : ∀ (i j : Int) (t u : Tok) (s : Shared) (Q : Value → Shared → Prop) (E : Value → Shared → Prop), C i j → Q (.int (g i j) s.toks) { s with toks := s.toks + 1 } → wpAny (model X.prog X.w) X.A (f (.int i t) (.int j u)) Q E s) :
    OpR X f (rI C fun i j => .int (g i j)) := by
  intro pins s σ H x y v u Q I rx ry h
  obtain ⟨i, j, rfl, rfl, hc, q⟩ := h
  obtain ⟨t, rfl⟩ := rx
  obtain ⟨t', rfl⟩ := ry
  exact rule i j t t' s _ _ hc ⟨.int (g i j), H, I.tok _, ⟨_, rfl⟩, q⟩
theorem opI0 {f : Value → Value → Sem Value} {g : Int → Int → Int}
    (rule : ∀ (i j : Int) (t u : Tok) (s : Shared) (Q : Value → Shared → Prop) (E : Value → Shared → Prop), Q (.int (g i j) s.toks) { s with toks := s.toks + 1 } → wpAny (model X.prog X.w) X.A (f (.int i t) (.int j u)) Q E s) :
    OpR X f (rI0 fun i j => .int (g i j)) := by
  intro pins s σ H x y v u Q I rx ry h
  obtain ⟨i, j, rfl, rfl, q⟩ := h
  obtain ⟨t, rfl⟩ := rx
  obtain ⟨t', rfl⟩ := ry
  exact rule i j t t' s _ _ ⟨.int (g i j), H, I.tok _, ⟨_, rfl⟩, q⟩
theorem opB0 {f : Value → Value → Sem Value} {g : Int → Int → Bool}
    (rule : ∀ (i j : Int) (t u : Tok) (s : Shared) (Q : Value → Shared → Prop) (E : Value → Shared → Prop), Q (.bool (g i j)) s → wpAny (model X.prog X.w) X.A (f (.int i t) (.int j u)) Q E s) :
    OpR X f (rI0 fun i j => .bl (g i j)) := by
  intro pins s σ H x y v u Q I rx ry h
  obtain ⟨i, j, rfl, rfl, q⟩ := h
  obtain ⟨t, rfl⟩ := rx
  obtain ⟨t', rfl⟩ := ry
  exact rule i j t t' s _ _ ⟨.bl (g i j), H, I, rfl, q⟩

def CDiv (i j : Int) : Prop := 0 < j ∧ j < 1073741824
def CPow (i j : Int) : Prop := 0 ≤ j ∧ j ≤ 1000000 ∧ i.natAbs < 2 ^ 64
def CMul (i j : Int) : Prop := (-(2 ^ 64) < i ∧ i < 2 ^ 64) ∨ (-(2 ^ 64) < j ∧ j < 2 ^ 64)
theorem CMul.ok {i j : Int} (h : CMul i j) : IntMulOk i j := by
  rcases h with ⟨h1, h2⟩ | ⟨h1, h2⟩
  · exact .of_left (intBits_le_64 h1 h2)
  · exact .of_right (intBits_le_64 h1 h2)
theorem op_add : OpR X (binaryOp .Add) (rI0 fun i j => .int (i + j)) := opI0 fun _ _ _ _ _ _ _ q => add_int q
theorem op_sub : OpR X (binaryOp .Sub) (rI0 fun i j => .int (i - j)) := opI0 fun _ _ _ _ _ _ _ q => sub_int q
theorem op_mul : OpR X (binaryOp .Mult) (rI CMul fun i j => .int (i * j)) := opI fun _ _ _ _ _ _ _ hc q => mul_int q hc.ok
/-- // by a positive divisor -/
theorem op_fdiv : OpR X (binaryOp .FloorDiv) (rI CDiv fun i j => .int (i / j)) := opI fun i j _ _ _ _ _ hc q => by
  have h1 : (0 : Int) < j := hc.1
  have h2 : j < 1073741824 := hc.2
  exact floordiv_int (by omega) (by rw [Int.fdiv_eq_ediv_of_nonneg i (by omega)]; exact q) (.inl (PyProof.noPylong_small (by omega)))
/-- % by a positive divisor of any size -/
theorem op_mod : OpR X (binaryOp .Mod) (rI (fun _ j => 0 < j) fun i j => .int (i % j)) := opI fun i j _ _ _ _ _ hc q => by
  have h1 : (0 : Int) < j := hc
  exact mod_int' (by omega) (by rw [Int.fmod_eq_emod_of_nonneg i (by omega)]; exact q)
theorem op_pow : OpR X (binaryOp .Pow) (rI CPow fun i j => .int (i ^ j.toNat)) := opI fun _ _ _ _ _ _ _ hc q => pow_int_small hc.1 hc.2.1 hc.2.2 q
theorem unI {f : Value → Sem Value} {g : Int → Int}
    (rule : ∀ (i : Int) (t : Tok) (s : Shared) (Q : Value → Shared → Prop) (E : Value → Shared → Prop), Q (.int (g i) s.toks) { s with toks := s.toks + 1 } → wpAny (model X.prog X.w) X.A (f (.int i t)) Q E s) :
    UnR X f (rU fun i => .int (g i)) := by
  intro pins s σ H x v Q I rx h
  obtain ⟨i, rfl, q⟩ := h
  obtain ⟨t, rfl⟩ := rx
  exact rule i t s _ _ ⟨.int (g i), H, I.tok _, ⟨_, rfl⟩, q⟩
theorem un_neg : UnR X (unaryOp .USub) (rU fun i => .int (-i)) := unI fun _ _ _ _ _ q => neg_int q
end

/-- the scalars that == tells apart as data does -/
def scal : V → V → Bool
  | .non, .non => true | .non, .int _ => true | .int _, .non => true | .non, .bl _ => true | .bl _, .non => true | .non, .str _ => true | .str _, .non => true
  | .int _, .int _ => true | .bl _, .bl _ => true | .str _, .str _ => true | .byt _, .byt _ => true
  | .int _, .str _ => true | .str _, .int _ => true | .bl _, .str _ => true | .str _, .bl _ => true
  | _, _ => false
def rEq : R2 := fun x y H Q => scal x y = true ∧ Q (.bl (decide (x = y))) H
def rNe : R2 := fun x y H Q => scal x y = true ∧ Q (.bl (!decide (x = y))) H

theorem dec_int {i j : Int} : decide (V.int i = V.int j) = (i == j) := by
  rw [Bool.eq_iff_iff]
  simp
theorem dec_bl {i j : Bool} : decide (V.bl i = V.bl j) = (i == j) := by
  rw [Bool.eq_iff_iff]
  simp
theorem dec_str {i j : Str} : decide (V.str i = V.str j) = (i == j) := by
  rw [Bool.eq_iff_iff]
  simp
theorem dec_byt {i j : Array UInt8} : decide (V.byt i = V.byt j) = (i.toList == j.toList) := by
  rw [Bool.eq_iff_iff]
  cases i
  cases j
  simp

section
variable {X : Cx} {a b c : Expr} {ta tb tc : TE} {pos : Pos}
theorem fin_bl {pins : List (Addr × Obj)} {σ : St} {H : Hp} {s : Shared} {Q : VK} {k k' : Bool} (I : Inv X pins σ H s) (q : Q (.bl k) H) (e : k = k') : EP X pins σ Q (.bool k') s := by
  subst e
  exact ⟨.bl k, H, I, rfl, q⟩
theorem op_eq : OpR X (compareOp .Eq) rEq := by
  intro pins s σ H x y v u Q I rx ry h
  obtain ⟨hs, q⟩ := h
  cases x with
  | non =>
    cases rx
    cases y with
    | non => cases ry; exact PySem.EqNone.eq_none_none (fin_bl I q (by simp))
    | bl j => cases ry; exact PySem.EqNone.eq_none_bool (fin_bl I q (by simp))
    | int j => obtain ⟨t', rfl⟩ := ry; exact PySem.EqNone.eq_none_int (fin_bl I q (by simp))
    | str j => obtain ⟨t', rfl⟩ := ry; exact PySem.EqNone.eq_none_str (fin_bl I q (by simp))
    | _ => exact absurd (show false = true from hs) Bool.false_ne_true
  | bl i =>
    cases rx
    cases y with
    | non => cases ry; exact PySem.EqNone.eq_bool_none (fin_bl I q (by simp))
    | bl j => cases ry; exact eq_bool (fin_bl I q dec_bl)
    | str j => obtain ⟨t', rfl⟩ := ry; exact PySem.EqMixed.eq_bool_str (fin_bl I q (by simp))
    | _ => exact absurd (show false = true from hs) Bool.false_ne_true
  | int i =>
    obtain ⟨t, rfl⟩ := rx
    cases y with
    | non => cases ry; exact PySem.EqNone.eq_int_none (fin_bl I q (by simp))
    | int j => obtain ⟨t', rfl⟩ := ry; exact eq_int (fin_bl I q dec_int)
    | str j => obtain ⟨t', rfl⟩ := ry; exact PySem.EqMixed.eq_int_str (fin_bl I q (by simp))
    | _ => exact absurd (show false = true from hs) Bool.false_ne_true
  | str i =>
    obtain ⟨t, rfl⟩ := rx
    cases y with
    | non => cases ry; exact PySem.EqNone.eq_str_none (fin_bl I q (by simp))
    | bl j => cases ry; exact PySem.EqMixed.eq_str_bool (fin_bl I q (by simp))
    | int j => obtain ⟨t', rfl⟩ := ry; exact PySem.EqMixed.eq_str_int (fin_bl I q (by simp))
    | str j => obtain ⟨t', rfl⟩ := ry; exact eq_str (fin_bl I q dec_str)
    | _ => exact absurd (show false = true from hs) Bool.false_ne_true
  | byt i =>
    obtain ⟨t, rfl⟩ := rx
    cases y with
    | byt j => obtain ⟨t', rfl⟩ := ry; exact PySem.W.eq_bytes (fin_bl I q dec_byt)
    | _ => exact absurd (show false = true from hs) Bool.false_ne_true
  | _ => cases y <;> exact absurd (show false = true from hs) Bool.false_ne_true
theorem op_ne : OpR X (compareOp .NotEq) rNe := by
  intro pins s σ H x y v u Q I rx ry h
  obtain ⟨hs, q⟩ := h
  cases x with
  | non =>
    cases rx
    cases y with
    | non => cases ry; exact PySem.EqNone.ne_none_none (fin_bl I q (by simp))
    | bl j => cases ry; exact PySem.EqNone.ne_none_bool (fin_bl I q (by simp))
    | int j => obtain ⟨t', rfl⟩ := ry; exact PySem.EqNone.ne_none_int (fin_bl I q (by simp))
    | str j => obtain ⟨t', rfl⟩ := ry; exact PySem.EqNone.ne_none_str (fin_bl I q (by simp))
    | _ => exact absurd (show false = true from hs) Bool.false_ne_true
  | bl i =>
    cases rx
    cases y with
    | non => cases ry; exact PySem.EqNone.ne_bool_none (fin_bl I q (by simp))
    | bl j => cases ry; exact ne_bool (fin_bl I q (congrArg not dec_bl))
    | str j => obtain ⟨t', rfl⟩ := ry; exact PySem.EqMixed.ne_bool_str (fin_bl I q (by simp))
    | _ => exact absurd (show false = true from hs) Bool.false_ne_true
  | int i =>
    obtain ⟨t, rfl⟩ := rx
    cases y with
    | non => cases ry; exact PySem.EqNone.ne_int_none (fin_bl I q (by simp))
    | int j => obtain ⟨t', rfl⟩ := ry; exact ne_int (fin_bl I q (congrArg not dec_int))
    | str j => obtain ⟨t', rfl⟩ := ry; exact PySem.EqMixed.ne_int_str (fin_bl I q (by simp))
    | _ => exact absurd (show false = true from hs) Bool.false_ne_true
  | str i =>
    obtain ⟨t, rfl⟩ := rx
    cases y with
    | non => cases ry; exact PySem.EqNone.ne_str_none (fin_bl I q (by simp))
    | bl j => cases ry; exact PySem.EqMixed.ne_str_bool (fin_bl I q (by simp))
    | int j => obtain ⟨t', rfl⟩ := ry; exact PySem.EqMixed.ne_str_int (fin_bl I q (by simp))
    | str j => obtain ⟨t', rfl⟩ := ry; exact ne_str (fin_bl I q (congrArg not dec_str))
    | _ => exact absurd (show false = true from hs) Bool.false_ne_true
  | byt i =>
    obtain ⟨t, rfl⟩ := rx
    cases y with
    | byt j => obtain ⟨t', rfl⟩ := ry; exact PySem.W.ne_bytes (fin_bl I q (congrArg not dec_byt))
    | _ => exact absurd (show false = true from hs) Bool.false_ne_true
  | _ => cases y <;> exact absurd (show false = true from hs) Bool.false_ne_true

theorem op_lt : OpR X (compareOp .Lt) (rI0 fun i j => .bl (decide (i < j))) := opB0 fun _ _ _ _ _ _ _ q => lt_int q
theorem op_le : OpR X (compareOp .LtE) (rI0 fun i j => .bl (decide (i ≤ j))) := opB0 fun _ _ _ _ _ _ _ q => le_int q
theorem op_gt : OpR X (compareOp .Gt) (rI0 fun i j => .bl (decide (j < i))) := opB0 fun _ _ _ _ _ _ _ q => gt_int q
theorem op_ge : OpR X (compareOp .GtE) (rI0 fun i j => .bl (decide (j ≤ i))) := opB0 fun _ _ _ _ _ _ _ q => ge_int q
theorem nomark (b : Expr) {op : CmpOp} (h : op ≠ .In := by decide) (h2 : op ≠ .NotIn := by decide) : behindInMarks op b = false := by
  have e1 : (op == CmpOp.In) = false := by cases op <;> first | rfl | exact absurd rfl h
  have e2 : (op == CmpOp.NotIn) = false := by cases op <;> first | rfl | exact absurd rfl h2
  cases b <;> simp [behindInMarks, e1, e2]
/-- a comparison as a value; hm: nomark b, or (for in, not in) by with_unfolding_all rfl -/
theorem pe_cmpR {op : CmpOp} {r : R2} (ho : OpR X (compareOp op) r) (ha : PE X a ta) (hb : PE X b tb) (hm : behindInMarks op b = false) : PE X (.Compare a [op] [b] pos) (tOp r ta tb) := by
  intro pins s σ H Q I h
  exact wpAny_Compare1 (binT ha hb I h fun v u s2 x y H2 I2 rx ry q => ho pins s2 σ H2 x y v u Q I2 rx ry q) hm
/-- a reading of a value as a test -/
def tTest (t : TE) : TT := fun σ H Q => t σ H fun x H' => ∃ k, x = .bl k ∧ Q k H'
theorem pt_cmpR {op : CmpOp} {r : R2} (ho : OpR X (compareOp op) r) (ha : PE X a ta) (hb : PE X b tb) (hm : behindInMarks op b = false) : PT X (.Compare a [op] [b] pos) (tTest (tOp r ta tb)) := by
  intro pins s σ H Q I h
  refine wpAny_isTrue_Compare1 (thn (ha pins s σ H _ I h) fun v s1 ⟨x, H1, I1, r1, q1⟩ => thn (hb pins s1 σ H1 _ I1 q1) fun u s2 ⟨y, H2, I2, r2, q2⟩ =>
    thn (ho pins s2 σ H2 x y v u _ I2 r1 r2 q2) fun c s3 ⟨z, H3, I3, r3, k, e, q3⟩ => ?_) hm
  subst e
  cases r3
  exact wpAny_truthy_bool ⟨H3, I3, q3⟩
theorem line63 : (sizeLine : Nat) < 2 ^ 63 := by rw [sizeLine_eq]; decide
theorem vals1 {x : V} {us : List Value} (r : Vals [x] us) : ∃ u, us = [u] ∧ RelV x u := by
  cases r with
  | cons r1 r2 => cases r2; exact ⟨_, rfl, r1⟩
theorem vals2 {x y : V} {us : List Value} (r : Vals [x, y] us) : ∃ u w', us = [u, w'] ∧ RelV x u ∧ RelV y w' := by
  cases r with
  | cons r1 r2 =>
    cases r2 with
    | cons r3 r4 => cases r4; exact ⟨_, _, rfl, r1, r3⟩
theorem call_abs : CallR X (.builtin "abs") (fun xs H Q => ∃ i, xs = [.int i] ∧ Q (.int (if i < 0 then -i else i)) H) := by
  intro pins s σ H xs us Q I r h
  obtain ⟨i, rfl, q⟩ := h
  obtain ⟨u, rfl, t, rfl⟩ := vals1 r
  exact call_abs_int fun u tk => ⟨.int (if i < 0 then -i else i), H, I.tok _, ⟨_, rfl⟩, q⟩
theorem call_max2 (hc : X.calm = true) : CallR X (.builtin "max") (fun xs H Q => ∃ i j, xs = [.int i, .int j] ∧ Q (.int (if j > i then j else i)) H) := by
  intro pins s σ H xs us Q I r h
  obtain ⟨i, j, rfl, q⟩ := h
  obtain ⟨u, w', rfl, ⟨t, rfl⟩, ⟨t', rfl⟩⟩ := vals2 r
  refine max_two_ints (I.ok.hd hc) fun h' tk k => ⟨_, H, I.kept k, ?_, q⟩
  by_cases hj : j > i
  · rw [if_pos hj, if_pos hj]; exact ⟨_, rfl⟩
  · rw [if_neg hj, if_neg hj]; exact ⟨_, rfl⟩
theorem call_min2 (hc : X.calm = true) : CallR X (.builtin "min") (fun xs H Q => ∃ i j, xs = [.int i, .int j] ∧ Q (.int (if j < i then j else i)) H) := by
  intro pins s σ H xs us Q I r h
  obtain ⟨i, j, rfl, q⟩ := h
  obtain ⟨u, w', rfl, ⟨t, rfl⟩, ⟨t', rfl⟩⟩ := vals2 r
  refine min_two_ints (I.ok.hd hc) fun h' tk k => ⟨_, H, I.kept k, ?_, q⟩
  by_cases hj : j < i
  · rw [if_pos hj, if_pos hj]; exact ⟨_, rfl⟩
  · rw [if_neg hj, if_neg hj]; exact ⟨_, rfl⟩
end
end L2

namespace L2
open PySem PySem.Spec PyProof.Rows

structure ObjM (h : Heap) (x dx C : Addr) (mA : Str → Option Value) : Prop where
  obj : h.get? x = some (PySem.W.instObj C dx)
  ns : h.Ns1 dx mA
  ne : dx ≠ x

theorem lookIn_ns {h : Heap} {dx : Addr} {mA : Str → Option Value} (n : h.Ns1 dx mA) : ∃ od, h.get? dx = some od ∧ ∀ name, PySem.W.lookIn name od = some (mA name) := by
  obtain ⟨o, es, ep, ho, hd, hk, _, hm⟩ := n
  refine ⟨o, ho, fun name => ?_⟩
  have e := hm name
  unfold nsFind findBy at e
  rw [← Array.find?_toList] at e
  unfold PySem.W.lookIn
  rw [hd]
  dsimp only
  split
  · rename_i y q
    rw [q] at e
    exact congrArg some e
  · rename_i q
    rw [q] at e
    have a : es.toList.any (·.refKey) = false := by
      rw [List.any_eq_false]
      intro y hy
      obtain ⟨z, t, hkey⟩ := hk y (Array.mem_toList_iff.mp hy)
      simp [DictEntry.refKey, hkey]
    have a' : ¬ es.toList.any (·.refKey) = true := by rw [a]; exact Bool.false_ne_true
    rw [if_neg a']
    exact congrArg some e

theorem ObjM.look {h : Heap} {x dx C : Addr} {mA : Str → Option Value} (I : ObjM h x dx C mA) : ∃ od, PySem.W.InstAt h x (PySem.W.instObj C dx) C (some od) ∧ ∀ name, PySem.W.lookIn name od = some (mA name) :=
  let ⟨od, ho, hl⟩ := lookIn_ns I.ns
  ⟨od, ⟨I.obj, rfl, rfl, ho⟩, hl⟩

section
variable {prog : Program} {w : World} {A : Around} {E : Value → Shared → Prop} {s : Shared} {K : PySem.W.Frag} {x dx C f : Addr} {mA : Str → Option Value} {name : Str} {v : Value}

theorem get_map {expr : Bool} {Q : Value → Shared → Prop} (X : K.In s.heap) (I : ObjM s.heap x dx C mA) (hg : PySem.W.plainGet K C name = true) (hh : PySem.W.hasDictIn K C = true)
    (ha : PySem.W.findIn K (.ref C) name = some none) (hv : mA name = some v) (hv' : PySem.W.handedIn v = true) (h : Q v { s with toks := s.toks + 1 }) :
    wpAny (model prog w) A (getAttr (.ref x) name expr) Q E s := by
  obtain ⟨od, J, hl⟩ := I.look
  exact PySem.W.get_value X J (PySem.W.plainGet_of hg).1 (PySem.W.findObj_own hh ha rfl (by rw [hl, hv])) hv' h

theorem get_meth {pl : Sem Bool} {Q : Value × List Value → Shared → Prop} (X : K.In s.heap) (I : ObjM s.heap x dx C mA) (hg : PySem.W.plainGet K C name = true)
    (hf : PySem.W.findIn K (.ref C) name = some (some (.ref f))) (ht : PySem.W.isFn K (.ref f) = true) (hv : mA name = none) (h : Q (.ref f, [.ref x]) s) :
    wpAny (model prog w) A (getMethod (.ref x) name pl) Q E s := by
  obtain ⟨od, J, hl⟩ := I.look
  exact PySem.W.method_fn X J (PySem.W.plainGet_of hg).1 (PySem.W.plainGet_of hg).2 hf (beq_iff_eq.mp ht) (by show (PySem.W.lookIn name od).map (·.isSome) = some false; rw [hl, hv]; rfl) h

theorem set_map {ns : List Str} {Q : Unit → Shared → Prop} (X : K.In s.heap) (I : ObjM s.heap x dx C mA)
    (hs : PySem.W.findIn K (.ref C) "__setattr__" = some (some (.builtin "object.__setattr__"))) (hp : PySem.W.plainOver K C = true) (ht : PySem.W.takerIn K C name = some none) (hh : PySem.W.hasDictIn K C = true)
    (hw : PySem.Within mA ns) (hsz : ns.length ≤ sizeLine)
    (h : ∀ h', ObjM h' x dx C (fun y => if y = name then some v else mA y) → Heap.SameBut dx s.heap h' → Q () { s with heap := h', toks := s.toks + 2 }) :
    wpAny (model prog w) A (setAttr (.ref x) name v) Q E s := by
  obtain ⟨od, J, hl⟩ := I.look
  refine PySem.W.set_plain X J hs (PySem.W.osa_open (s := { s with toks := s.toks + 1 }) (r := none) X J hp ht fun b => ?_)
  obtain ⟨cd, hc, hd'⟩ := PySem.W.any_some hh
  have hx : s.heap.get? x = some ⟨.ref C, some dx, .plain, #[]⟩ := I.obj
  refine wpAny_bind (wpAny_pure (wpAny_bind (wpAny_bind (wpAny_loadPart hx (wpAny_bind (PySem.W.Looks.here (s := { s with toks := s.toks + 1 }) (PySem.W.looks_clsIn X hc) ?_))))))
  rw [hd']
  refine wpAny_pure (a := some dx) (wpAny_bind (wpAny_pure (wpAny_bind ?_)))
  refine wpAny_nsSet1 (s := { s with toks := s.toks + 1 }) I.ns fun h' hn2 hs2 => ?_
  obtain ⟨oD, esD, epD, hoD, hdD, hcD⟩ := hn2.count (PySem.Within.cons name v hw)
  refine wpAny_bind (wpAny_lookBehind hoD (by rw [hdD]; exact pastItsLine_dict (Nat.le_trans hcD (by rw [List.length_cons]; omega))) ?_)
  exact wpAny_pure (h _ ⟨(hs2.2 _ (Ne.symm I.ne)).trans I.obj, hn2, I.ne⟩ hs2)

/-- C(..): the dict at the heap's end, the instance behind it; then its __init__ -/
theorem make_map {R : Result → Shared → Prop} {vs : List Value} {kw : List (Str × Value)} (X : K.In s.heap) (hm : PySem.W.makesIn K C = true)
    (hi : PySem.W.findIn K (.ref C) "__init__" = some (some (.ref f))) (hf : PySem.W.typeIn K (.ref f) = some (.type "function"))
    (h : codeAny (model prog w) (A.under (.builtin "type.__call__" ⟨.ref C :: vs, kw⟩)) (.call (.ref f) ⟨.ref (s.heap.objs.size + 1) :: vs, kw⟩) (PySem.W.InitBack (s.heap.objs.size + 1) R)
      { s with heap := (s.heap.push PySem.W.emptyDict).push (PySem.W.instObj C s.heap.objs.size) }) :
    codeAny (model prog w) A (.call (.ref C) ⟨vs, kw⟩) R s := by
  obtain ⟨hh, g, d, t, os⟩ := s
  exact PySem.W.make_core (PySem.W.makes_of X hm) (PySem.W.looks_findIn X hi) (fun self => PySem.W.bind_fn X self hf) (.inl rfl) h
end

def putF (f : Str) (v : V) : List (Str × V) → List (Str × V)
  | [] => [(f, v)]
  | (g, x) :: r => if g = f then (g, v) :: r else (g, x) :: putF f v r
theorem lookup_putF (f g : Str) (v : V) : ∀ fs : List (Str × V), (putF f v fs).lookup g = if g = f then some v else fs.lookup g
  | [] => by
    show List.lookup g [(f, v)] = _
    by_cases h : g = f
    · have hb : (g == f) = true := beq_iff_eq.mpr h
      simp only [List.lookup, hb, if_pos h]
    · have hb : (g == f) = false := beq_eq_false_iff_ne.mpr h
      simp only [List.lookup, hb, if_neg h]
  | (k, x) :: r => by
    have ih := lookup_putF f g v r
    rw [show putF f v ((k, x) :: r) = (if k = f then (k, v) :: r else (k, x) :: putF f v r) from rfl]
    by_cases hk : k = f
    · rw [if_pos hk]
      by_cases h : g = k
      · have hb : (g == k) = true := beq_iff_eq.mpr h
        simp only [List.lookup, hb, if_pos (h.trans hk)]
      · have hb : (g == k) = false := beq_eq_false_iff_ne.mpr h
        simp only [List.lookup, hb, if_neg (fun e : g = f => h (e.trans hk.symm))]
    · rw [if_neg hk]
      by_cases h : g = k
      · have hb : (g == k) = true := beq_iff_eq.mpr h
        simp only [List.lookup, hb, if_neg (fun e : g = f => hk (h.symm.trans e))]
      · have hb : (g == k) = false := beq_eq_false_iff_ne.mpr h
        simp only [List.lookup, hb]
        exact ih
theorem keys_putF (f : Str) (v : V) : ∀ fs : List (Str × V), f ∈ (putF f v fs).map (·.1) ∧ ∀ g, g ∈ fs.map (·.1) → g ∈ (putF f v fs).map (·.1)
  | [] => ⟨by simp [putF], fun g h => by simp at h⟩
  | (k, x) :: r => by
    obtain ⟨i1, i2⟩ := keys_putF f v r
    rw [show putF f v ((k, x) :: r) = (if k = f then (k, v) :: r else (k, x) :: putF f v r) from rfl]
    by_cases hk : k = f
    · rw [if_pos hk]
      subst hk
      exact ⟨by simp, fun g h => by simpa using h⟩
    · rw [if_neg hk]
      refine ⟨?_, fun g h => ?_⟩
      · rw [List.map_cons]
        exact List.mem_cons_of_mem _ i1
      · rw [List.map_cons] at h ⊢
        rcases List.mem_cons.mp h with e | e
        · exact List.mem_cons.mpr (.inl e)
        · exact List.mem_cons_of_mem _ (i2 g e)
theorem length_putF (f : Str) (v : V) : ∀ fs : List (Str × V), (putF f v fs).length ≤ fs.length + 1
  | [] => by simp [putF]
  | (k, x) :: r => by
    have ih := length_putF f v r
    rw [show putF f v ((k, x) :: r) = (if k = f then (k, v) :: r else (k, x) :: putF f v r) from rfl]
    by_cases hk : k = f
    · rw [if_pos hk, List.length_cons, List.length_cons]; omega
    · rw [if_neg hk, List.length_cons, List.length_cons]; omega

theorem RelO.some_of {v : V} {o : Option Value} (r : RelO (some v) o) : ∃ u, o = some u ∧ RelV v u := by
  cases o with
  | none => exact (show False from r).elim
  | some u => exact ⟨u, rfl, r⟩
theorem RelO.none_of {o : Option Value} (r : RelO none o) : o = none := by
  cases o with
  | none => rfl
  | some u => exact (show False from r).elim
theorem handed_of {v : V} {u : Value} (r : RelV v u) : PySem.W.handedIn u = true := by
  cases v with
  | non => cases (show u = Value.none from r); rfl
  | bl b => cases (show u = Value.bool b from r); rfl
  | int i => obtain ⟨t, e⟩ := (show ∃ t, u = Value.int i t from r); cases e; rfl
  | str x => obtain ⟨t, e⟩ := (show ∃ t, u = Value.str x t from r); cases e; rfl
  | byt b => obtain ⟨t, e⟩ := (show ∃ t, u = Value.bytes b t from r); cases e; rfl
  | flt b => obtain ⟨t, e⟩ := (show ∃ t, u = Value.float b t from r); cases e; rfl
  | ref a => cases (show u = Value.ref a from r); rfl
  | ty n => cases (show u = Value.type n from r); rfl

section
variable {P : Program} {w : World} {H H' : Hp} {h h' : Heap} {a C dx : Addr} {fs fs' : List (Str × V)}
theorem ins_get (hok : HOk P w H h) (e : H a = some (.ins C dx fs)) : ∃ mA, ObjM h a dx C mA ∧ (∀ f, RelO (fs.lookup f) (mA f)) ∧ PySem.Within mA (fs.map (·.1)) ∧ fs.length ≤ 1000 ∧ H dx = some (.own a) := by
  obtain ⟨d, z, ne, ob, mA, n, r, q⟩ := (show ObjOk P w H h a (.ins C dx fs) from hok a _ e)
  exact ⟨mA, ⟨ob, n, ne⟩, r, q, z, d⟩
end

structure Cls (K : PySem.W.Frag) (C : Addr) : Prop where
  pg : PySem.W.plainGet K C Str.empty = true
  hd : PySem.W.hasDictIn K C = true
  po : PySem.W.plainOver K C = true
  sa : PySem.W.findIn K (.ref C) "__setattr__" = some (some (.builtin "object.__setattr__"))
theorem Cls.get {K : PySem.W.Frag} {C : Addr} (c : Cls K C) (f : Str) : PySem.W.plainGet K C f = true := c.pg
/-- no class of it has the name -/
def NoAttr (K : PySem.W.Frag) (C : Addr) (f : Str) : Prop := PySem.W.findIn K (.ref C) f = some none
theorem NoAttr.taker {K : PySem.W.Frag} {C : Addr} {f : Str} (n : NoAttr K C f) : PySem.W.takerIn K C f = some none := by
  unfold PySem.W.takerIn
  rw [show PySem.W.findIn K (.ref C) f = some none from n]
  rfl
/-- a method: a plain def of the class or of one above it -/
structure Meth (K : PySem.W.Frag) (C : Addr) (m : Str) (f : Addr) : Prop where
  at_ : PySem.W.findIn K (.ref C) m = some (some (.ref f))
  fn : PySem.W.isFn K (.ref f) = true
  kp : PySem.W.keepIn K (.ref f) = true

section
variable {X : Cx} {pins : List (Addr × Obj)} {σ : St} {H : Hp} {s : Shared} {a C dx : Addr} {fs : List (Str × V)} {f : Str} {v : V} {A : Around} {E : Value → Shared → Prop}

theorem getattr_ok {b : Bool} {Q : Value → Shared → Prop} (I : Inv X pins σ H s) (e : H a = some (.ins C dx fs)) (c : Cls X.K C) (n : NoAttr X.K C f) (l : fs.lookup f = some v)
    (h : ∀ u s', Inv X pins σ H s' → RelV v u → Q u s') : wpAny (model X.prog X.w) A (getAttr (.ref a) f b) Q E s := by
  obtain ⟨mA, O, r, _, _, _⟩ := ins_get I.hok e
  obtain ⟨u, hu, ru⟩ := RelO.some_of (v := v) (o := mA f) (by rw [← l]; exact r f)
  exact get_map I.kIn O (c.get f) c.hd n hu (handed_of ru) (h u _ (I.tok _) ru)

theorem getmeth_ok {m : Str} {g : Addr} {pl : Sem Bool} {Q : Value × List Value → Shared → Prop} (I : Inv X pins σ H s) (e : H a = some (.ins C dx fs)) (c : Cls X.K C) (k : Meth X.K C m g) (l : fs.lookup m = none)
    (h : Q (.ref g, [.ref a]) s) : wpAny (model X.prog X.w) A (getMethod (.ref a) m pl) Q E s := by
  obtain ⟨mA, O, r, _, _, _⟩ := ins_get I.hok e
  have hn : mA m = none := RelO.none_of (by rw [← l]; exact r m)
  exact get_meth I.kIn O (c.get m) k.at_ k.fn hn h

theorem setattr_ok {y : V} {u : Value} {Q : Unit → Shared → Prop} (I : Inv X pins σ H s) (e : H a = some (.ins C dx fs)) (c : Cls X.K C) (n : NoAttr X.K C f) (hl : fs.length < 1000) (ry : RelV y u)
    (h : ∀ s', Inv X pins σ (upd H a (.ins C dx (putF f y fs))) s' → Q () s') : wpAny (model X.prog X.w) A (setAttr (.ref a) f u) Q E s := by
  obtain ⟨mA, O, r, wi, _, ho⟩ := ins_get I.hok e
  have hz : (fs.map (·.1)).length ≤ sizeLine := by rw [List.length_map, sizeLine_eq]; omega
  refine set_map I.kIn O c.sa c.po n.taker c.hd wi hz fun h' O' sb => h _ ?_
  have hd : ∃ o, h'.get? dx = some o := let ⟨o, _, _, e', _⟩ := O'.ns; ⟨o, e'⟩
  refine I.write (x := a) (e := dx) (by rw [e]; exact True.intro) (.inr ho) (fun b q hb z => (sb.2 b hb).trans z) hd ?_
  refine ⟨by rw [upd_ne O.ne]; exact ho, ?_, O.ne, O'.obj, _, O'.ns, fun g => ?_, fun g hg => ?_⟩
  · have := length_putF f y fs; omega
  · show RelO ((putF f y fs).lookup g) (if g = f then some u else mA g)
    rw [lookup_putF]
    by_cases q : g = f
    · rw [if_pos q, if_pos q]; exact ry
    · rw [if_neg q, if_neg q]; exact r g
  · by_cases q : g = f
    · rw [q]; exact (keys_putF f y fs).1
    · refine (keys_putF f y fs).2 g (wi g fun z => hg ?_)
      show (if g = f then some u else mA g) = none
      rw [if_neg q]; exact z

/-- a new instance, tracked, without attributes -/
theorem Inv.made (I : Inv X pins σ H s) : Inv X pins σ (upd (upd H s.heap.objs.size (.own (s.heap.objs.size + 1))) (s.heap.objs.size + 1) (.ins C s.heap.objs.size []))
    { s with heap := (s.heap.push PySem.W.emptyDict).push (PySem.W.instObj C s.heap.objs.size) } := by
  have e1 : (s.heap.push PySem.W.emptyDict).get? s.heap.objs.size = some PySem.W.emptyDict := Heap.get?_push_size s.heap rfl
  have e2 : ((s.heap.push PySem.W.emptyDict).push (PySem.W.instObj C s.heap.objs.size)).get? (s.heap.objs.size + 1) = some (PySem.W.instObj C s.heap.objs.size) := by
    have := Heap.get?_push_size (s.heap.push PySem.W.emptyDict) (o := PySem.W.instObj C s.heap.objs.size) rfl
    rwa [Heap.size_push] at this
  have e3 : (s.heap.push PySem.W.emptyDict).Ns s.heap.objs.size (fun _ => none) := ⟨PySem.W.emptyDict, #[], _, e1, rfl, (fun e he => absurd he (by simp)), fun _ => rfl⟩
  have I1 := I.laid (a := s.heap.objs.size) (o := .own (s.heap.objs.size + 1)) (h' := s.heap.push PySem.W.emptyDict) (t' := s.toks) (fun b u q => Heap.get?_push_of_some _ q) (Nat.le_refl _) ⟨_, e1⟩
  refine I1.laid (a := s.heap.objs.size + 1) (o := .ins C s.heap.objs.size []) (t' := s.toks) (fun b u q => Heap.get?_push_of_some _ q) (Nat.le_of_eq (Heap.size_push _ _)) ?_
  have ne : s.heap.objs.size ≠ s.heap.objs.size + 1 := Nat.ne_of_lt (Nat.lt_succ_self _)
  refine ⟨by rw [upd_ne ne, upd_same], Nat.zero_le _, ne, e2, fun _ => none, (Heap.Ns1.of_empty e3).at fun o q => Heap.get?_push_of_some _ q, fun _ => True.intro, fun y hy => absurd rfl hy⟩

/-- e.f where nothing but the object is asked: through attributeBase (super) and the last hold -/
theorem attr_of {prog : Program} {w : World} {env : Env} {e : Expr} {f : Str} {pos : Pos} {s : Shared} {Q : Value → Shared → Prop} (hb : attributeBase e f env (eval e env) = eval e env)
    (h : wpAny (model prog w) A (eval e env) (fun o s₁ => wpAny (model prog w) A (getAttr o f true) Q E s₁) E s) : wpAny (model prog w) A (eval (.Attribute e f pos) env) Q E s :=
  Attribute_any_ h (by rw [arm_eval_Attribute, hb])
end

/-- e.f, an attribute of the instance -/
def tFld (K : PySem.W.Frag) (ta : TE) (f : Str) : TE := fun σ H Q => ta σ H fun x H1 => ∃ a C dx fs v, x = .ref a ∧ H1 a = some (.ins C dx fs) ∧ Cls K C ∧ NoAttr K C f ∧ fs.lookup f = some v ∧ Q v H1
/-- e.f = value -/
def sFld (K : PySem.W.Frag) (ta tv : TE) (f : Str) : TS := fun D σ H => tv σ H fun y H1 => ta σ H1 fun x H2 => ∃ a C dx fs, x = .ref a ∧ H2 a = some (.ins C dx fs) ∧ Cls K C ∧ NoAttr K C f ∧ fs.length < 1000 ∧
  D.nx σ (upd H2 a (.ins C dx (putF f y fs)))
section
variable {X : Cx} {o e value : Expr} {f : Str} {pos pos' tpos : Pos} {ta tv : TE}
theorem pe_fld (he : PE X e ta) (hb : attributeBase e f X.env (eval e X.env) = eval e X.env) : PE X (.Attribute e f pos) (tFld X.K ta f) := by
  intro pins s σ H Q I h
  refine attr_of hb (thn (he pins s σ H _ I h) fun u s1 ⟨x, H1, I1, rx, a, C, dx, fs, v, ex, ea, c, n, l, q⟩ => ?_)
  subst ex
  obtain rfl : u = Value.ref a := rx
  exact getattr_ok I1 ea c n l fun u' s2 I2 ru => ⟨v, H1, I2, ru, q⟩
theorem ps_fld (ha : PE X o ta) (hv : PE X value tv) (hs : swapsWith value (some (.Attribute o f pos')) pos.line X.env = pure false) : PS X (.Assign [.Attribute o f pos'] value pos) (sFld X.K ta tv f) := by
  intro pins s σ H D I h
  refine plainObj_wpAny_Assign_Attribute (thn (hv pins s σ H _ I h) fun u s1 ⟨y, H1, I1, ry, q⟩ => thn (ha pins s1 σ H1 _ I1 q) fun ov s2 ⟨x, H2, I2, rx, a, C, dx, fs, ex, ea, c, n, l, q2⟩ => ?_) hs
  subst ex
  obtain rfl : ov = Value.ref a := rx
  exact setattr_ok I2 ea c n l ry fun s3 I3 => ⟨σ, _, I3, q2⟩
/-- what is between an instance and its method: the tree of a method call -/
theorem methcall_of {pl : Sem Bool} {m : Str} {apos : Pos} {args : List Expr} {pins : List (Addr × Obj)} {s : Shared} {σ : St} {H : Hp} {Q : Value → Shared → Prop} {te : TE} (he : PE X e te) (I : Inv X pins σ H s)
    (h : te σ H fun x H1 => ∃ a C dx fs g, x = .ref a ∧ H1 a = some (.ins C dx fs) ∧ Cls X.K C ∧ Meth X.K C m g ∧ fs.lookup m = none ∧
      ∀ s1, Inv X pins σ H1 s1 → wpAny (model X.prog X.w) X.A (callWith pos (.ref g) [.ref a] (backTo pos (starEach args X.env)) (backToKw pos (keywordEach [] X.env))) Q X.xe s1)
    (ht : eval (.Call (.Attribute e m apos) args [] pos) X.env = (do
      let ov ← eval e X.env
      standAt apos.atName
      let (f, first) ← holding [ov] (getMethod ov m pl)
      callWith pos f first (backTo pos (starEach args X.env)) (backToKw pos (keywordEach [] X.env)))) :
    wpAny (model X.prog X.w) X.A (eval (.Call (.Attribute e m apos) args [] pos) X.env) Q X.xe s := by
  refine PySem.W.methodCall_KW (pl := pl) (thn (he pins s σ H _ I h) fun u s1 ⟨x, H1, I1, rx, a, C, dx, fs, g, ex, ea, c, k, l, q⟩ => ?_) ht
  subst ex
  obtain rfl : u = Value.ref a := rx
  exact getmeth_ok I1 ea c k l (q s1 I1)
end

section
variable {X : Cx} {pins : List (Addr × Obj)} {σ : St} {H : Hp} {s : Shared} {A : Around} {E : Value → Shared → Prop} {Q : Value → Shared → Prop} {c : Value} {b : Bool}
/-- the type of a value, as the fragment's deciders take it; for an instance its class -/
inductive TyOf (K : PySem.W.Frag) (H : Hp) : V → Value → Prop where
  | non : TyOf K H .non (.type "NoneType")
  | bl (x : Bool) : TyOf K H (.bl x) (.type "bool")
  | int (i : Int) : TyOf K H (.int i) (.type "int")
  | str (x : Str) : TyOf K H (.str x) (.type "str")
  | flt (x : UInt64) : TyOf K H (.flt x) (.type "float")
  | lst {a : Addr} {xs : List V} (e : H a = some (.lst xs)) : TyOf K H (.ref a) (.type "list")
  | frz {a : Addr} {o : Obj} {xs : List V} (e : H a = some (.frz o (.lst xs))) : TyOf K H (.ref a) (.type "list")
  | tup {a : Addr} {xs : List V} (e : H a = some (.tup xs)) : TyOf K H (.ref a) (.type "tuple")
  | dK {a : Addr} {kvs : List (Key × V)} (e : H a = some (.dK kvs)) : TyOf K H (.ref a) (.type "dict")
  | dT {a : Addr} {kvs : List (List Key × V)} (e : H a = some (.dT kvs)) : TyOf K H (.ref a) (.type "dict")
  | ins {a C dx : Addr} {fs : List (Str × V)} (e : H a = some (.ins C dx fs)) (cl : Cls K C) (ha : PySem.W.findIn K (.ref C) "__class__" = some (some (.builtin "object.__class__")))
      (hn : PySem.W.specialIn K (.builtin "object.__class__") "__get__" = some (some (.builtin "getset_descriptor.__get__"))) (htk : PySem.W.takesIn K (.builtin "object.__class__") = some true)
      (hm : PySem.W.mroIn K C (.type "object") = some true) : TyOf K H (.ref a) (.ref C)
/-- isinstance(x, c) for one class c, a built-in or an own one: kitOne's answer -/
theorem isinst_ok {x : V} {u t : Value} (I : Inv X pins σ H s) (rx : RelV x u) (ty : TyOf X.K H x t) (e : PySem.W.kitOne X.K t c = some b) (h : ∀ tk, Q (.bool b) { s with toks := tk }) :
    wpAny (model X.prog X.w) A (call (.builtin "isinstance") [u, c]) Q E s := by
  cases ty with
  | non => cases (show u = Value.none from rx); exact PySem.W.kia_one PySem.W.kitx_none I.kIn True.intro e (fun z => nomatch z) h
  | bl y => cases (show u = Value.bool y from rx); exact PySem.W.kia_one PySem.W.kitx_bool I.kIn True.intro e (fun z => nomatch z) h
  | int i => obtain ⟨t, q⟩ := (show ∃ t, u = Value.int i t from rx); cases q; exact PySem.W.kia_one PySem.W.kitx_int I.kIn True.intro e (fun z => nomatch z) h
  | str y => obtain ⟨t, q⟩ := (show ∃ t, u = Value.str y t from rx); cases q; exact PySem.W.kia_one PySem.W.kitx_str I.kIn True.intro e (fun z => nomatch z) h
  | flt y => obtain ⟨t, q⟩ := (show ∃ t, u = Value.float y t from rx); cases q; exact PySem.W.kia_one PySem.W.kitx_float I.kIn True.intro e (fun z => nomatch z) h
  | @lst a xs ea =>
    cases (show u = Value.ref a from rx)
    obtain ⟨_, _, n, _, h1⟩ := (show ObjOk X.prog X.w H s.heap a (.lst xs) from I.hok a _ ea)
    exact PySem.W.kia_one PySem.W.kitx_list I.kIn ⟨_, h1, rfl⟩ e (fun z => nomatch z) h
  | @frz a ob xs ea =>
    cases (show u = Value.ref a from rx)
    obtain ⟨_, _, _, n, _, h1⟩ := (show ObjOk X.prog X.w H s.heap a (.frz ob (.lst xs)) from I.hok a _ ea)
    exact PySem.W.kia_one PySem.W.kitx_list I.kIn ⟨_, h1, rfl⟩ e (fun z => nomatch z) h
  | @tup a xs ea =>
    cases (show u = Value.ref a from rx)
    obtain ⟨_, _, _, p⟩ := (show ObjOk X.prog X.w H s.heap a (.tup xs) from I.hok a _ ea)
    obtain ⟨o, h1, h2, _⟩ := p
    exact PySem.W.kia_one PySem.W.kitx_tuple I.kIn ⟨o, h1, h2⟩ e (fun z => nomatch z) h
  | @dK a kvs ea =>
    cases (show u = Value.ref a from rx)
    obtain ⟨_, _, vs, _, p⟩ := (show ObjOk X.prog X.w H s.heap a (.dK kvs) from I.hok a _ ea)
    obtain ⟨o, es, ep, h1, h2, _⟩ := p
    exact PySem.W.kia_one PySem.W.kitx_dict I.kIn ⟨o, h1, h2.1⟩ e (fun z => nomatch z) h
  | @dT a kvs ea =>
    cases (show u = Value.ref a from rx)
    obtain ⟨_, _, xs, _, o, es, ep, h1, h2, _⟩ := (show ObjOk X.prog X.w H s.heap a (.dT kvs) from I.hok a _ ea)
    exact PySem.W.kia_one PySem.W.kitx_dict I.kIn ⟨o, h1, h2.1⟩ e (fun z => nomatch z) h
  | @ins a C dx fs ea cl ha hn htk hm =>
    cases (show u = Value.ref a from rx)
    obtain ⟨mA, O, _⟩ := ins_get I.hok ea
    obtain ⟨od, J, _⟩ := O.look
    exact PySem.W.kia_one (PySem.W.kitx_own (cl.get _) cl.hd ha hn htk hm) I.kIn J e (fun z => nomatch z) h
end
end L2

namespace L2
open PySem PySem.Spec PyProof.Rows

structure Room (k : Nat) (A : Around) : Prop where
  hd : A.handled = none
  dp : A.depth + 3 * k + 5 < recursionLimit
  un : A.units + 16 * k + 200 < cLine
  gd : A.guards = some []
theorem Room.mono {j k : Nat} {A : Around} (r : Room k A) (h : j ≤ k) : Room j A := ⟨r.hd, by have := r.dp; omega, by have := r.un; omega, r.gd⟩
theorem Room.deeper {k : Nat} {A : Around} (r : Room (k + 1) A) (env : Env) : Room k (A.deeper env) :=
  ⟨r.hd, by have := r.dp; show A.depth + 1 + 3 * k + 5 < _; omega, by have := r.un; show A.units + 3 + 16 * k + 200 < _; omega, r.gd⟩
theorem make_depth {A : Around} {C : Addr} {us : List Value} {kw : List (Str × Value)} : (A.under (.builtin "type.__call__" ⟨.ref C :: us, kw⟩)).depth = A.depth + 1 := by
  first | rfl | simp [Around.under, Code.weight, Code.isCreation, Code.isGuard, Code.isCaller, Code.frames, Code.isFrame, guardIds]
theorem make_units {A : Around} {C : Addr} {us : List Value} {kw : List (Str × Value)} : (A.under (.builtin "type.__call__" ⟨.ref C :: us, kw⟩)).units = A.units + 1 := by
  first | rfl | simp [Around.under, Code.cUnits, Code.frames, Code.isFrame]
theorem make_guards {A : Around} {C : Addr} {us : List Value} {kw : List (Str × Value)} : (A.under (.builtin "type.__call__" ⟨.ref C :: us, kw⟩)).guards = A.guards := by
  first | rfl | (unfold Around.under Code.guards; cases A.guards <;> simp [pushGuards, Code.isGuard, guardIds])
theorem Room.make {k : Nat} {A : Around} (r : Room (k + 1) A) (C : Addr) (us : List Value) (kw : List (Str × Value)) : Room k (A.under (.builtin "type.__call__" ⟨.ref C :: us, kw⟩)) :=
  ⟨r.hd, by have := r.dp; rw [make_depth]; omega, by have := r.un; rw [make_units]; omega, by rw [make_guards]; exact r.gd⟩
theorem Room.depth {k : Nat} {A : Around} (r : Room k A) : A.depth < recursionLimit := by have := r.dp; omega
theorem Room.units {k : Nat} {A : Around} (r : Room k A) : A.units + 64 < cLine := by have := r.un; omega
def tNil : TA := fun _ H Q => Q [] H
def tCons (ta : TE) (tr : TA) : TA := fun σ H Q => ta σ H fun x H1 => tr σ H1 fun xs H2 => Q (x :: xs) H2
section
variable {X : Cx} {e : Expr} {es : List Expr} {te : TE} {t : TA} {pos : Pos}
theorem pa_nil : PA X [] tNil := fun _ _ _ _ H Q I h => Calls.spliced_nil ⟨[], H, I, .nil, h⟩
theorem pa_cons (ha : PE X e te) (hr : PA X es t) (hs : starEach (e :: es) X.env = (false, eval e X.env) :: starEach es X.env := by rfl) : PA X (e :: es) (tCons te t) := by
  intro pos pins s σ H Q I h
  rw [hs]
  show wpAny _ _ (spliced ((false, eval e X.env) :: backTo pos (starEach es X.env))) _ _ s
  refine Calls.spliced_cons (thn (ha pins s σ H _ I h) fun u s1 ⟨x, H1, I1, r1, q1⟩ => ?_)
  exact thn (hr pos pins s1 σ H1 _ I1 q1) fun us s2 ⟨xs, H2, I2, r2, q2⟩ => ⟨x :: xs, H2, I2, .cons r1 r2, q2⟩

/-- a tuple, a list of written items -/
def tTup (t : TA) : TE := fun σ H Q => t σ H fun xs H1 => xs.length ≤ sizeLine ∧ ∀ p, H1 p = none → Q (.ref p) (upd H1 p (.tup xs))
def tLst (t : TA) : TE := fun σ H Q => t σ H fun xs H1 => xs.length ≤ sizeLine ∧ ∀ p, H1 p = none → Q (.ref p) (upd H1 p (.lst xs))
theorem pe_tup {x1} (h : PA X es t) : PE X (.Tuple es x1 pos) (tTup t) := by
  intro pins s σ H Q I hq
  refine wpAny_Tuple_spliced (thn (h pos pins s σ H _ I hq) fun us s1 ⟨xs, H1, I1, r, z, q⟩ => ⟨by rw [← r.length]; exact z, ?_⟩)
  have hf : H1 s1.heap.objs.size = none := I1.hok.fresh (Nat.le_refl _)
  refine ⟨.ref s1.heap.objs.size, upd H1 s1.heap.objs.size (.tup xs), I1.laid (t' := s1.toks) (fun b u e => Heap.get?_push_of_some _ e) (Nat.le_refl _) ?_, rfl, q _ hf⟩
  exact ⟨z, us, r, ⟨_, Heap.get?_push_size _ rfl, rfl, _, rfl⟩⟩
theorem pe_lst (h : PA X es t) : PE X (.List es pos) (tLst t) := by
  intro pins s σ H Q I hq
  refine wpAny_List_spliced (thn (h pos pins s σ H _ I hq) fun us s1 ⟨xs, H1, I1, r, z, q⟩ => ⟨by rw [← r.length]; exact z, ?_⟩)
  have hf : H1 s1.heap.objs.size = none := I1.hok.fresh (Nat.le_refl _)
  refine ⟨.ref s1.heap.objs.size, upd H1 s1.heap.objs.size (.lst xs), I1.laid (t' := s1.toks) (fun b u e => Heap.get?_push_of_some _ e) (Nat.le_refl _) ?_, rfl, q _ hf⟩
  exact ⟨z, us, 0, r, Heap.get?_push_size _ rfl⟩
end

/-- a def's promise: the bound arguments in the parameters' order, the heap, the wanted end, the wanted exception -/
abbrev Sp := List V → Hp → VK → XK → Prop
/-- how an exception lies behind a call (file 08 gives it): the callers' frames, abstract heap and state ahead of the call, the wish, the exception, the state -/
abbrev CXT := List Env → Hp → Shared → XK → Value → Shared → Prop

/-- the state at a call -/
structure Env0 (P : Program) (w : World) (K : PySem.W.Frag) (mg : Str → Option Value) (base : Heap) (A : Around) (outer : List Env) (s : Shared) (H : Hp) : Prop where
  frames : A.frames = some outer
  mod : Mod K mg base
  bs : ∀ b o, base.get? b = some o → s.heap.get? b = some o ∧ H b = none
  bsz : base.objs.size ≤ s.heap.objs.size
  funs : s.heap.FunFrames base outer
  frf : ∀ b ∈ frs outer, H b = none
  hok : HOk P w H s.heap
  bare : AllBare s.gens
/-- a call's end -/
def CE (outer : List Env) (P : Program) (w : World) (H : Hp) (s : Shared) (Q : VK) (u : Value) (s' : Shared) : Prop :=
  ∃ v H', s'.os = s.os ∧ AllBare s'.gens ∧ Un (frs outer) [] H H' s.heap s'.heap ∧ HOk P w H' s'.heap ∧ RelV v u ∧ Q v H'
def CR (CX : CXT) (outer : List Env) (P : Program) (w : World) (H : Hp) (s : Shared) (Q : VK) (E : XK) (r : Result) (s' : Shared) : Prop :=
  match r with
  | .ok (.ret u) => CE outer P w H s Q u s'
  | .ok _ => False
  | .error e => CX outer H s E e s'
structure FnOk (P : Program) (w : World) (K : PySem.W.Frag) (mg : Str → Option Value) (base : Heap) (CX : CXT) (k : Nat) (f : Addr) (fd : FuncData) (ps : List Str) (sp : Sp) : Prop where
  len : ∀ vs H Q E, sp vs H Q E → vs.length = ps.length
  run : ∀ (A : Around) (outer : List Env) (s : Shared) (H : Hp) (args : Args) (us : List Value) (vs : List V) (Q : VK) (E : XK), Room k A → Env0 P w K mg base A outer s H → BindsTo s fd args (ps.zip us) → Vals vs us → sp vs H Q E →
    codeAny (model P w) A (.call (.ref f) args) (CR CX outer P w H s Q E) s
theorem Env0.make {P : Program} {w : World} {K : PySem.W.Frag} {mg : Str → Option Value} {base : Heap} {A : Around} {outer : List Env} {s : Shared} {H : Hp} (e : Env0 P w K mg base A outer s H) (C : Addr) (us : List Value) (kw : List (Str × Value)) :
    Env0 P w K mg base (A.under (.builtin "type.__call__" ⟨.ref C :: us, kw⟩)) outer s H := ⟨by first | exact e.frames | (simpa [Around.under, Code.envs, Code.isFrame, pushEnvs] using e.frames), e.mod, e.bs, e.bsz, e.funs, e.frf, e.hok, e.bare⟩
section
variable {X : Cx} {pins : List (Addr × Obj)} {σ : St} {H : Hp} {s s' : Shared}
/-- from a body: what a callee wants -/
theorem Inv.env0 (I : Inv X pins σ H s) : Env0 X.prog X.w X.K X.mg X.base X.A X.stack s H :=
  ⟨I.ok.frames, I.ok.mod, I.bs, Nat.le_trans I.ok.bsz I.sz, I.stack, I.stkFree, I.hok, I.bare⟩
/-- behind a call -/
theorem Inv.after {Q : VK} {u : Value} (I : Inv X pins σ H s) (h : CE X.stack X.prog X.w H s Q u s') : EP X pins σ Q u s' := by
  obtain ⟨v, H', os, bare, un, hok, r, q⟩ := h
  obtain ⟨hh, g, d, t, os'⟩ := s'
  obtain rfl : os' = s.os := os
  exact ⟨v, H', I.call (h' := hh) (g' := g) (d' := d) (t' := t) (ch := []) un hok bare (fun b z => absurd z (by simp)), r, q⟩
end

/-- f(..): the written arguments, then the defaults dvs; E: what is wanted of an exception -/
def tCall (sp : Sp) (dvs : List V) (E : XK) (t : TA) : TE := fun σ H Q => t σ H fun vs H1 => sp (vs ++ dvs) H1 Q E
/-- o.m(..) of an instance of the class at C -/
def tMeth (C : Addr) (m : Str) (sp : Sp) (dvs : List V) (E : XK) (ta : TE) (t : TA) : TE := fun σ H Q => ta σ H fun x H1 => ∃ a dx fs, x = .ref a ∧ H1 a = some (.ins C dx fs) ∧ fs.lookup m = none ∧
  t σ H1 fun vs H2 => sp (x :: (vs ++ dvs)) H2 Q E
/-- C(..): a new instance and its dict, then __init__ -/
def tMake (C : Addr) (sp : Sp) (dvs : List V) (E : XK) (t : TA) : TE := fun σ H Q => t σ H fun vs H1 => ∀ x dx, H1 x = none → H1 dx = none → dx ≠ x →
  sp (.ref x :: (vs ++ dvs)) (upd (upd H1 dx (.own x)) x (.ins C dx [])) (fun v H2 => v = .non ∧ Q (.ref x) H2) E

/-- how the parameters are bound: us the positional arguments, kw the keywords' values by name, ds the defaults that fill up -/
def Binds (K : PySem.W.Frag) (fd : FuncData) (ps : List Str) (ds : List Value) : Prop :=
  ∀ (s : Shared) (us : List Value), K.In s.heap → (us ++ ds).length = ps.length → BindsTo s fd ⟨us, []⟩ (ps.zip (us ++ ds))
/-- every parameter is given -/
theorem Binds.all {K : PySem.W.Frag} {fd : FuncData} {ps : List Str} (h : ∀ us : List Value, us.length = ps.length → bindArgs fd ⟨us, []⟩ = pure (ps.zip us)) : Binds K fd ps [] := fun s us _ hl => by
  rw [List.append_nil] at hl ⊢
  exact .of_eq (h us hl)

/-- an exception of a callee reaches what this body wants of exceptions -/
def Passes (CX : CXT) (X : Cx) (E : XK) : Prop := ∀ (pins : List (Addr × Obj)) (σ : St) (H : Hp) (s : Shared) (e : Value) (s' : Shared), Inv X pins σ H s → CX X.stack H s E e s' → X.xe e s'

section
variable {X : Cx} {CX : CXT} {k : Nat} {f C : Addr} {fd : FuncData} {ps : List Str} {sp : Sp} {dvs : List V} {ds : List Value} {E : XK} {x m : Str} {p pos apos : Pos} {e o : Expr} {es : List Expr} {ta : TE} {t : TA}

/-- the callee runs -/
theorem run_fn {pins : List (Addr × Obj)} {σ : St} {H : Hp} {s : Shared} {Q : VK} {us : List Value} {vs : List V} (F : FnOk X.prog X.w X.K X.mg X.base CX k f fd ps sp) (hr : Room k X.A) (hb : Binds X.K fd ps ds) (hd : Vals dvs ds) (hx : Passes CX X E)
    (I : Inv X pins σ H s) (r : Vals vs us) (h : sp (vs ++ dvs) H Q E) : wpAny (model X.prog X.w) X.A (call (.ref f) us) (EP X pins σ Q) X.xe s := by
  have r2 : Vals (vs ++ dvs) (us ++ ds) := r.append hd
  have hl : (us ++ ds).length = ps.length := by rw [← r2.length]; exact F.len _ _ _ _ h
  refine wpAny_call (codeAny_mono (F.run X.A X.stack s H ⟨us, []⟩ (us ++ ds) (vs ++ dvs) Q E hr I.env0 (hb s us I.kIn hl) r2 h) fun r s' hq => ?_)
  cases r with
  | error e => exact hx pins σ H s e s' I hq
  | ok fl =>
    cases fl with
    | ret u => exact I.after hq
    | next => exact False.elim hq
    | brk => exact False.elim hq
    | cont => exact False.elim hq

theorem pe_call (F : FnOk X.prog X.w X.K X.mg X.base CX k f fd ps sp) (hr : Room k X.A) (hg : Gl X x) (hm : X.mg x = some (.ref f)) (hk : PySem.W.keepIn X.K (.ref f) = true) (hb : Binds X.K fd ps ds) (hd : Vals dvs ds) (hx : Passes CX X E)
    (ha : PA X (e :: es) t) (hdb : (x == ("__debug__" : Str)) = false := by decide) (he : starEach (e :: es) X.env = (false, eval e X.env) :: starEach es X.env := by rfl) (hpl : (backTo pos (starEach es X.env)).any (·.1) = false := by rfl) :
    PE X (.Call (.Name x p) (e :: es) [] pos) (tCall sp dvs E t) := by
  intro pins s σ H Q I h
  refine wpAny_Call_Name_kw (ld_glob I hg hm ?_ hdb)
  refine PySem.W.callWith_K (h₀ := X.base) I.ok.mod.kin hk (thn (ha pos pins s σ H _ I h) fun us s1 ⟨vs, H1, I1, r, q⟩ => ⟨I1.kIn, ?_⟩) he hpl
  exact run_fn F hr hb hd hx I1 r q
/-- o.m(e, ..) -/
theorem pe_meth {pl : Sem Bool} (he : PE X o ta) (c : Cls X.K C) (hm : Meth X.K C m f) (F : FnOk X.prog X.w X.K X.mg X.base CX k f fd ps sp) (hr : Room k X.A) (hb : Binds X.K fd ps ds) (hd : Vals dvs ds) (hx : Passes CX X E) (ha : PA X (e :: es) t)
    (hst : starEach (e :: es) X.env = (false, eval e X.env) :: starEach es X.env := by rfl) (hpl : (backTo pos (starEach es X.env)).any (·.1) = false := by rfl)
    (ht : eval (.Call (.Attribute o m apos) (e :: es) [] pos) X.env = (do
      let ov ← eval o X.env
      standAt apos.atName
      let (f, first) ← holding [ov] (getMethod ov m pl)
      callWith pos f first (backTo pos (starEach (e :: es) X.env)) (backToKw pos (keywordEach [] X.env))) := by rfl) :
    PE X (.Call (.Attribute o m apos) (e :: es) [] pos) (tMeth C m sp dvs E ta t) := by
  intro pins s σ H Q I h
  refine PySem.W.methodCall_KW (pl := pl) (thn (he pins s σ H _ I h) fun u s1 ⟨x, H1, I1, rx, a, dx, fs, ex, ea, l, q⟩ => ?_) ht
  subst ex
  obtain rfl : u = Value.ref a := rx
  refine getmeth_ok I1 ea c hm l ?_
  refine PySem.W.callWith_K (first := [.ref a]) (h₀ := X.base) I.ok.mod.kin hm.kp (thn (ha pos pins s1 σ H1 _ I1 q) fun us s2 ⟨vs, H2, I2, r, q2⟩ => ⟨I2.kIn, ?_⟩) hst hpl
  exact run_fn (us := .ref a :: us) (vs := .ref a :: vs) F hr hb hd hx I2 (.cons rfl r) q2
/-- o.m() -/
theorem pe_meth0 {pl : Sem Bool} (he : PE X o ta) (c : Cls X.K C) (hm : Meth X.K C m f) (F : FnOk X.prog X.w X.K X.mg X.base CX k f fd ps sp) (hr : Room k X.A) (hb : Binds X.K fd ps ds) (hd : Vals dvs ds) (hx : Passes CX X E)
    (ht : eval (.Call (.Attribute o m apos) [] [] pos) X.env = (do
      let ov ← eval o X.env
      standAt apos.atName
      let (f, first) ← holding [ov] (getMethod ov m pl)
      callWith pos f first (backTo pos (starEach [] X.env)) (backToKw pos (keywordEach [] X.env))) := by rfl) :
    PE X (.Call (.Attribute o m apos) [] [] pos) (tMeth C m sp dvs E ta tNil) := by
  intro pins s σ H Q I h
  refine PySem.W.methodCall_KW (pl := pl) (thn (he pins s σ H _ I h) fun u s1 ⟨x, H1, I1, rx, a, dx, fs, ex, ea, l, q⟩ => ?_) ht
  subst ex
  obtain rfl : u = Value.ref a := rx
  refine getmeth_ok I1 ea c hm l ?_
  exact PySem.W.callWith_K0 (first := [.ref a]) I1.kIn hm.kp (run_fn (us := [.ref a]) (vs := [.ref a]) F hr hb hd hx I1 (.cons rfl .nil) q)

/-- what a class must have to be made -/
structure Mk (K : PySem.W.Frag) (C f : Addr) : Prop where
  makes : PySem.W.makesIn K C = true
  init : PySem.W.findIn K (.ref C) "__init__" = some (some (.ref f))
  fn : PySem.W.isFn K (.ref f) = true
  kp : PySem.W.keepIn K (.ref C) = true

theorem run_make {pins : List (Addr × Obj)} {σ : St} {H : Hp} {s : Shared} {Q : VK} {us : List Value} {vs : List V} (M : Mk X.K C f) (F : FnOk X.prog X.w X.K X.mg X.base CX k f fd ps sp) (hr : Room (k + 1) X.A) (hb : Binds X.K fd ps ds) (hd : Vals dvs ds)
    (hx : Passes CX X E) (I : Inv X pins σ H s) (r : Vals vs us)
    (h : ∀ x dx, H x = none → H dx = none → dx ≠ x → sp (.ref x :: (vs ++ dvs)) (upd (upd H dx (.own x)) x (.ins C dx [])) (fun v H2 => v = .non ∧ Q (.ref x) H2) E) :
    wpAny (model X.prog X.w) X.A (call (.ref C) us) (EP X pins σ Q) X.xe s := by
  have hq := h (s.heap.objs.size + 1) s.heap.objs.size (I.hok.fresh (Nat.le_succ _)) (I.hok.fresh (Nat.le_refl _)) (Nat.ne_of_lt (Nat.lt_succ_self _))
  have I2 := Inv.made (C := C) I
  have r2 : Vals (V.ref (s.heap.objs.size + 1) :: (vs ++ dvs)) (Value.ref (s.heap.objs.size + 1) :: (us ++ ds)) := .cons rfl (r.append hd)
  have hl : (Value.ref (s.heap.objs.size + 1) :: us ++ ds).length = ps.length := by
    have e := r2.length
    rw [F.len _ _ _ _ hq] at e
    exact e.symm
  refine wpAny_call (make_map (f := f) I.kIn M.makes M.init (beq_iff_eq.mp M.fn) (codeAny_mono (F.run _ X.stack _ _ ⟨Value.ref (s.heap.objs.size + 1) :: us, []⟩ (Value.ref (s.heap.objs.size + 1) :: (us ++ ds)) _ _ E (hr.make C us [])
    (I2.env0.make C us []) (hb _ (Value.ref (s.heap.objs.size + 1) :: us) I2.kIn hl) r2 hq) fun r s' hq' => ?_))
  cases r with
  | error e => exact hx pins σ _ _ e s' I2 hq'
  | ok fl =>
    cases fl with
    | ret u =>
      obtain ⟨v, H', I3, rv, ev, q3⟩ := I2.after hq'
      subst ev
      exact ⟨rv, ⟨V.ref (s.heap.objs.size + 1), H', I3, rfl, q3⟩⟩
    | next => exact False.elim hq'
    | brk => exact False.elim hq'
    | cont => exact False.elim hq'
theorem pe_make (M : Mk X.K C f) (F : FnOk X.prog X.w X.K X.mg X.base CX k f fd ps sp) (hr : Room (k + 1) X.A) (hg : Gl X x) (hm : X.mg x = some (.ref C)) (hb : Binds X.K fd ps ds) (hd : Vals dvs ds) (hx : Passes CX X E)
    (ha : PA X (e :: es) t) (hdb : (x == ("__debug__" : Str)) = false := by decide) (he : starEach (e :: es) X.env = (false, eval e X.env) :: starEach es X.env := by rfl) (hpl : (backTo pos (starEach es X.env)).any (·.1) = false := by rfl) :
    PE X (.Call (.Name x p) (e :: es) [] pos) (tMake C sp dvs E t) := by
  intro pins s σ H Q I h
  refine wpAny_Call_Name_kw (ld_glob I hg hm ?_ hdb)
  refine PySem.W.callWith_K (h₀ := X.base) I.ok.mod.kin M.kp (thn (ha pos pins s σ H _ I h) fun us s1 ⟨vs, H1, I1, r, q⟩ => ⟨I1.kIn, ?_⟩) he hpl
  exact run_make M F hr hb hd hx I1 r q
end

section
variable {X : Cx} {CX : CXT} {k : Nat} {f C : Addr} {fd : FuncData} {ps ks : List Str} {sp : Sp} {E : XK} {x m : Str} {p pos apos kpos : Pos} {e o : Expr} {es : List Expr} {kws : List Keyword} {te ta : TE} {t tk : TA} {nm : Option Str}
variable {g : List Value → List Value → List Value} {gV : List V → List V → List V}
end

/-- names: the parameters first -/
structure FnScope (N P : List Str) (sc : Scope) : Prop where
  kind : sc.kind = .function
  co : sc.isCoroutine = false
  gen : sc.isGenerator = false
  nd : N.Nodup
  pre : N.take P.length = P
  par : ∀ x ∈ P, sc.names.lookup x = some .local ∨ sc.names.lookup x = some .cell
  nofree : ∀ y ∈ sc.names, y.2 ≠ .free

theorem bindL_out {kindOf : Str → Option NameKind} {x : Str} : ∀ {binds : List (Str × Value)} {m : Str → Option Value}, (∀ v, (x, v) ∉ binds) → bindL kindOf binds m x = m x
  | [], _, _ => rfl
  | (n, v) :: r, m, h => by
    unfold bindL
    rw [bindL_out fun w hw => h w (List.mem_cons_of_mem _ hw)]
    split
    · have : x ≠ n := by rintro rfl; exact h v List.mem_cons_self
      simp [this]
    · rfl
theorem bindC_out {kindOf : Str → Option NameKind} {x : Str} : ∀ {binds : List (Str × Value)} {m : Str → Option Value}, (∀ v, (x, v) ∉ binds) → bindC kindOf binds m x = m x
  | [], _, _ => rfl
  | (n, v) :: r, m, h => by
    unfold bindC
    rw [bindC_out fun w hw => h w (List.mem_cons_of_mem _ hw)]
    split
    · rfl
    · have : x ≠ n := by rintro rfl; exact h v List.mem_cons_self
      simp [this]
theorem bindL_get {kindOf : Str → Option NameKind} {x : Str} {v : Value} : ∀ {P : List Str} {vs : List Value} {i : Nat} {m : Str → Option Value}, P.Nodup → P[i]? = some x → vs[i]? = some v → kindOf x = some .local →
    bindL kindOf (P.zip vs) m x = some v
  | [], _, _, _, _, h, _, _ => by simp at h
  | _ :: _, [], _, _, _, _, h, _ => by simp at h
  | p :: P, w :: vs, 0, m, nd, h1, h2, hk => by
    simp at h1 h2; subst h1; subst h2
    show bindL kindOf ((p, w) :: P.zip vs) m p = _
    unfold bindL
    rw [bindL_out fun v hv => (List.nodup_cons.mp nd).1 (List.of_mem_zip hv).1, if_pos hk]
    simp
  | p :: P, w :: vs, i + 1, m, nd, h1, h2, hk => by
    show bindL kindOf ((p, w) :: P.zip vs) m x = _
    unfold bindL
    exact bindL_get (i := i) (List.nodup_cons.mp nd).2 (by simpa using h1) (by simpa using h2) hk
theorem bindC_get {kindOf : Str → Option NameKind} {x : Str} {v : Value} : ∀ {P : List Str} {vs : List Value} {i : Nat} {m : Str → Option Value}, P.Nodup → P[i]? = some x → vs[i]? = some v → kindOf x ≠ some .local →
    bindC kindOf (P.zip vs) m x = some v
  | [], _, _, _, _, h, _, _ => by simp at h
  | _ :: _, [], _, _, _, _, h, _ => by simp at h
  | p :: P, w :: vs, 0, m, nd, h1, h2, hk => by
    simp at h1 h2; subst h1; subst h2
    show bindC kindOf ((p, w) :: P.zip vs) m p = _
    unfold bindC
    rw [bindC_out fun v hv => (List.nodup_cons.mp nd).1 (List.of_mem_zip hv).1, if_neg hk]
    simp
  | p :: P, w :: vs, i + 1, m, nd, h1, h2, hk => by
    show bindC kindOf ((p, w) :: P.zip vs) m x = _
    unfold bindC
    exact bindC_get (i := i) (List.nodup_cons.mp nd).2 (by simpa using h1) (by simpa using h2) hk

/-- the names' values at the entry -/
def start (N : List Str) (vs : List V) : St := vs.map some ++ List.replicate (N.length - vs.length) none

/-- the context of a def's body, at its entry; an exception leaves the frame, then lies as CX says -/
def cxOf (CX : CXT) (P : Program) (w : World) (K : PySem.W.Frag) (mg : Str → Option Value) (base : Heap) (N : List Str) (qual : Str) (scope : Scope) (f : Addr) (cd : Value) (A : Around) (outer : List Env) (s : Shared) (H : Hp) (E : XK) : Cx where
  prog := P
  w := w
  K := K
  mg := mg
  base := base
  A := A.deeper (envOfC qual scope s.heap.objs.size f cd)
  N := N
  s₀ := s
  H₀ := H
  env := envOfC qual scope s.heap.objs.size f cd
  outer := outer
  stack := envOfC qual scope s.heap.objs.size f cd :: outer
  ex := []
  calm := true
  fn := fun _ => true
  pn := []
  xe := fun e s' => wpAny (model P w) (A.deeper (envOfC qual scope s.heap.objs.size f cd)) (leaving (envOfC qual scope s.heap.objs.size f cd) e) (fun _ s'' => CX outer H s E e s'') (fun e' s'' => CX outer H s E e' s'') s'

theorem cell_has {sc : Scope} {n : Nat} {x : Str} (h : sc.names.lookup x = some .cell) : ∃ c, (cellsFrom n sc.names []).lookup x = some c := by
  have q := PySem.W.cellsFrom_some sc.names n [] (.inl h)
  exact Option.isSome_iff_exists.mp q

theorem inv_start {CX : CXT} {P : Program} {w : World} {K : PySem.W.Frag} {mg : Str → Option Value} {base : Heap} {N ps : List Str} {qual : Str} {scope : Scope} {f : Addr} {cd : Value} {A : Around} {outer : List Env} {s s1 : Shared} {H : Hp} {E : XK} {us : List Value} {vs : List V}
    (S : FnScope N ps scope) (hd : A.handled = none) (e0 : Env0 P w K mg base A outer s H) (hl : vs.length = ps.length) (r : Vals vs us)
    (x : InCallC s s.heap.objs.size (bindL (envOfC qual scope s.heap.objs.size f cd).kindOf (ps.zip us) fun _ => none) (cellsFrom (s.heap.objs.size + 1) scope.names []) (bindC (envOfC qual scope s.heap.objs.size f cd).kindOf (ps.zip us) fun _ => none) s1) :
    Inv (cxOf CX P w K mg base N qual scope f cd A outer s H E) [] (start N vs) H s1 := by
  have hpl : ps.length ≤ N.length := by have := congrArg List.length S.pre; rw [List.length_take] at this; omega
  obtain ⟨h1, tk, rfl, hk⟩ := x.done
  have noA : ∀ b : Addr, b ∉ (cxOf CX P w K mg base N qual scope f cd A outer s H E).ex := fun b z => absurd (show b ∈ ([] : List Addr) from z) (by simp)
  refine ⟨⟨e0.mod, S.kind, rfl, rfl, Nat.le_refl _, fun y z c h1 h2 => ?_, fun y hy => ?_, fun y c _ h => ?_, fun _ => hd, Around.frames_deeper e0.frames, .inr ⟨rfl, rfl⟩, fun b z => absurd z (noA b), e0.bs, e0.bsz, fun b _ _ => noA b, fun b z => absurd z (noA b), e0.funs, e0.frf⟩,
    rfl, e0.bare, Un.kept hk, ⟨_, x.toInCall.ns, fun i y v h1 h2 h3 => ?_⟩, fun y c h => ⟨_, x.cell y c h⟩, e0.hok.fresh (Nat.le_refl _), fun y c h => ?_, fun p hp => absurd (show p ∈ ([] : List (Addr × Obj)) from hp) (by simp), e0.hok.kept hk, ?_⟩
  · exact name_of_addr x.apart (PySem.mem_of_lookup h1) (PySem.mem_of_lookup h2)
  · have hy : scope.names.lookup y = some .cell ∨ scope.names.lookup y = some .free := hy
    rcases hy with hy | hy
    · exact cell_has hy
    · exact absurd rfl (S.nofree _ (PySem.mem_of_lookup hy))
  · exact Nat.le_of_lt (x.above y c (PySem.mem_of_lookup h))
  · have hi : i < vs.length := by
      unfold start at h2
      by_cases hi : i < vs.length
      · exact hi
      · rw [List.getElem?_append_right (by simpa using hi)] at h2
        rw [List.getElem?_replicate] at h2
        split at h2 <;> cases h2
    have ha : vs[i]? = some v := by
      unfold start at h2
      rw [List.getElem?_append_left (by simpa using hi), List.getElem?_map] at h2
      cases e : vs[i]? with
      | none => rw [e] at h2; cases h2
      | some a => rw [e] at h2; cases h2; rfl
    obtain ⟨u, hu, rv⟩ := r.get ha
    have hp : ps[i]? = some y := by
      rw [← S.pre, List.getElem?_take_of_lt (by omega)]; exact h1
    have ndP : ps.Nodup := by rw [← S.pre]; exact S.nd.sublist (List.take_sublist _ _)
    refine ⟨u, rv, ?_⟩
    rcases S.par y (List.mem_of_getElem? hp) with k | k
    · exact .inl ⟨k, bindL_get ndP hp hu k⟩
    · obtain ⟨c, e⟩ := cell_has (n := s.heap.objs.size + 1) k
      refine .inr ⟨.inl k, c, e, ?_⟩
      have q := x.cell y c e
      rw [bindC_get ndP hp hu (by show scope.names.lookup y ≠ _; rw [k]; decide)] at q
      exact q
  · exact e0.hok.fresh (Nat.le_of_lt (x.above y c (PySem.mem_of_lookup h)))
  · unfold start
    show _ = N.length
    rw [List.length_append, List.length_map, List.length_replicate]
    omega

/-- THE RULE: a def (or a method) of the text, by its body. The body's reading t is chosen for each entry; it is run at the parameters' values -/
theorem fn_of {CX : CXT} {P : Program} {w : World} {K : PySem.W.Frag} {mg : Str → Option Value} {base : Heap} {k : Nat} {f : Addr} {name qual : Str} {params : Arguments} {body : List Stmt} {scope : Scope} {dV kV doc pm cdv ct oc : Value} {an od : Option Addr}
    {osl : Array (Option Value)} {N ps : List Str} {sp : Sp} (lk : K.lookup f = some ⟨oc, od, .func (PySem.W.fnOf name qual params body scope dV kV doc pm an cdv ct), osl⟩) (hcd : PySem.W.codeIn K cdv qual = true) (S : FnScope N ps scope)
    (len : ∀ vs H Q E, sp vs H Q E → vs.length = ps.length)
    (hbody : ∀ (A : Around) (outer : List Env) (s : Shared) (H : Hp) (vs : List V) (Q : VK) (E : XK), Room k (A.deeper (envOfC qual scope s.heap.objs.size f cdv)) → sp vs H Q E →
      ∃ t, PSs (cxOf CX P w K mg base N qual scope f cdv A outer s H E) body t ∧ t { nx := fun _ H' => Q .non H', rt := Q } (start N vs) H) :
    FnOk P w K mg base CX (k + 1) f (PySem.W.fnOf name qual params body scope dV kV doc pm an cdv ct) ps sp := by
  refine ⟨len, fun A outer s H args us vs Q E hr e0 hb r hsp => ?_⟩
  have hl := len _ _ _ _ hsp
  have KX : K.In s.heap := e0.mod.kin.keeps fun b o e => (e0.bs b o e).1
  have lim : s.heap.NoLimit := e0.mod.nolimit.keeps fun b o e => (e0.bs b o e).1
  have hkind : ∀ y ∈ ps.zip us, scope.names.lookup y.1 = some .local ∨ (scope.names.lookup y.1 = some .cell ∧ ((cellsFrom (s.heap.objs.size + 1) scope.names []).lookup y.1).isSome = true) := fun ⟨n, v⟩ hy => by
    rcases S.par n (List.of_mem_zip hy).1 with q | q
    · exact .inl q
    · exact .inr ⟨q, PySem.W.cellsFrom_some _ _ _ (.inl q)⟩
  refine codeAny_call_function hr.depth (KX _ _ lk) rfl S.co S.gen rfl (PySem.W.codeRec_of KX hcd) (hb _ _ _ _ ?_)
  refine wpAny_newFunctionEnv_cells S.kind hkind fun env he s1 x => ?_
  subst he
  refine ⟨lim.keeps x.toInCall.keep, codeAny_func ?_⟩
  obtain ⟨t, ht, hq⟩ := hbody A outer s H vs Q E (hr.deeper _) hsp
  have I : Inv (cxOf CX P w K mg base N qual scope f cdv A outer s H E) [] (start N vs) H s1 := inv_start S hr.hd e0 hl r x
  refine wpAny_mono (ht [] s1 (start N vs) H _ I hq) (fun fl s' hs => ?_) fun e s' hs => hs
  have fin : ∀ {σ' : St} {H' : Hp} {v : V} {u : Value}, Inv (cxOf CX P w K mg base N qual scope f cdv A outer s H E) [] σ' H' s' → RelV v u → Q v H' → CE outer P w H s Q u s' :=
    fun {σ' H' v u} J rv q => ⟨v, H', J.os, J.bare, J.base, J.hok, rv, q⟩
  cases fl with
  | ret u =>
    obtain ⟨v, σ', H', J, rv, q⟩ := hs
    exact fin J rv q
  | next =>
    obtain ⟨σ', H', J, q⟩ := hs
    exact fin (v := V.non) (u := Value.none) J rfl q
  | brk =>
    obtain ⟨_, _, _, q⟩ := hs
    exact False.elim q
  | cont =>
    obtain ⟨_, _, _, q⟩ := hs
    exact False.elim q
end L2

namespace L2
open PySem PySem.Spec PyProof.Rows
section
variable {X : Cx} {x : Str} {p pos : Pos} {e : Expr} {es : List Expr} {t : TA} {id T : String} {r : List V → Hp → VK → Prop}

def tCB (r : List V → Hp → VK → Prop) (t : TA) : TE := fun σ H Q => t σ H fun vs H1 => r vs H1 Q
/-- f(e, ..), f a built-in function -/
theorem pe_callB (hc : CallR X (.builtin id) r) (hg : Gl X x) (hm : X.mg x = none) (hv : bootBuiltins x = some (.builtin id)) (ha : PA X (e :: es) t) (hn : x ≠ "__name__" := by decide) (hdb : (x == ("__debug__" : Str)) = false := by decide)
    (he : starEach (e :: es) X.env = (false, eval e X.env) :: starEach es X.env := by rfl) (hpl : (backTo pos (starEach es X.env)).any (·.1) = false := by rfl) : PE X (.Call (.Name x p) (e :: es) [] pos) (tCB r t) := by
  intro pins s σ H Q I h
  refine wpAny_Call_Name_kw (ld_blt I hg hm hv ?_ hn hdb)
  exact PyProof.Rows.callWith_builtin1 (thn (ha pos pins s σ H _ I h) fun us s1 ⟨vs, H1, I1, r1, q1⟩ => hc pins s1 σ H1 vs us Q I1 r1 q1) he hpl
/-- T(e, ..), T a built-in type -/
theorem pe_callTy (hc : CallR X (.type T) r) (hg : Gl X x) (hm : X.mg x = none) (hv : bootBuiltins x = some (.type T)) (ha : PA X (e :: es) t) (hn : x ≠ "__name__" := by decide) (hdb : (x == ("__debug__" : Str)) = false := by decide)
    (he : starEach (e :: es) X.env = (false, eval e X.env) :: starEach es X.env := by rfl) (hpl : (backTo pos (starEach es X.env)).any (·.1) = false := by rfl) : PE X (.Call (.Name x p) (e :: es) [] pos) (tCB r t) := by
  intro pins s σ H Q I h
  refine wpAny_Call_Name_kw (ld_blt I hg hm hv ?_ hn hdb)
  exact PyProof.Rows.callWith_type1 (thn (ha pos pins s σ H _ I h) fun us s1 ⟨vs, H1, I1, r1, q1⟩ => hc pins s1 σ H1 vs us Q I1 r1 q1) he hpl
end
end L2

namespace HT
open PySem PyProof.Rows

section
open PySem.SeqAt
open PySem.AutoSeq1 (wpAny_loadPart')
open PySem.MeetsSeq PySem.MeetsSeq2 PySem.MeetsSeq3

end

section
variable {prog : Program} {w : World} {A : Around} {E : Value → Shared → Prop} {s : Shared}

/-- a slice's bound as a place among n (d where it is left out) -/
def sIx (n d : Nat) : Option Int → Nat
  | none => d
  | some v => if v < 0 then (v + (n : Int)).toNat else min v.toNat n
theorem sIx_none (n d : Nat) : sIx n d none = d := rfl
theorem sIx_nat (n d k : Nat) : sIx n d (some (k : Int)) = min k n := by
  show (if (k : Int) < 0 then ((k : Int) + (n : Int)).toNat else min (k : Int).toNat n) = min k n
  rw [if_neg (by omega), Int.toNat_natCast]
theorem sIx_le (n d : Nat) (hd : d ≤ n) (o : Option Int) : sIx n d o ≤ n := by
  cases o with
  | none => exact hd
  | some v =>
    show (if v < 0 then (v + (n : Int)).toNat else min v.toNat n) ≤ n
    by_cases hv : v < 0
    · rw [if_pos hv]; omega
    · rw [if_neg hv]; exact Nat.min_le_right _ _
theorem clip_eq (v : Int) (n d : Nat) : (if v < 0 then max (v + (n : Int)) 0 else min v (n : Int)) = ((sIx n d (some v) : Nat) : Int) := by
  show (if v < 0 then max (v + (n : Int)) 0 else min v (n : Int)) = (((if v < 0 then (v + (n : Int)).toNat else min v.toNat n) : Nat) : Int)
  by_cases hv : v < 0
  · simp only [if_pos hv]; omega
  · simp only [if_neg hv]; omega
theorem adjust_gen (lo hi : Option Int) (n : Nat) : Builtin.Slice.sliceAdjust lo hi 1 (n : Int) = (((sIx n 0 lo : Nat) : Int), ((sIx n n hi : Nat) : Int)) := by
  have h1 : ¬ ((1 : Int) < 0) := by omega
  unfold Builtin.Slice.sliceAdjust
  simp only [h1, if_false]
  refine Prod.ext ?_ ?_
  · cases lo with
    | none => rfl
    | some v => exact clip_eq v n 0
  · cases hi with
    | none => rfl
    | some v => exact clip_eq v n n
theorem places_gen (i j : Nat) : Builtin.Slice.slicePlaces (i : Int) (j : Int) 1 = j - i := by
  unfold Builtin.Slice.slicePlaces
  have h1 : (1 : Int) > 0 := by omega
  simp only [h1, if_true, Int.ediv_one]
  split <;> omega
theorem slicePart_ {v : Value} {o : Option Int} {Q : Option Int → Shared → Prop} (p : IsPart v o) (h : Q o s) : wpAny (model prog w) A (Builtin.Slice.slicePartIndex v) Q E s := by
  cases p with
  | none => exact slicePart_none h
  | int i t => exact slicePart_int h
theorem sliceApplied_gen {sl : Addr} {vl vu : Value} {lo hi : Option Int} {n : Nat} {Q : Int × Int × Nat → Shared → Prop} (hs : s.heap.IsSliceOf sl vl vu .none) (pl : IsPart vl lo) (pu : IsPart vu hi)
    (h : Q (((sIx n 0 lo : Nat) : Int), 1, sIx n n hi - sIx n 0 lo) s) : wpAny (model prog w) A (Builtin.Slice.sliceApplied (.ref sl) (pure (n : Int))) Q E s := by
  obtain ⟨os, hos, hcs, hds⟩ := id hs
  unfold Builtin.Slice.sliceApplied Builtin.Slice.sliceFields
  refine wpAny_bind (wpAny_bind (wpAny_field hos hds (x := vl) rfl (wpAny_bind (wpAny_field hos hds (x := vu) rfl (wpAny_bind (wpAny_field hos hds (x := .none) rfl (wpAny_pure ?_)))))))
  refine wpAny_bind (slicePart_none ?_)
  show wpAny _ _ (if ((1 : Int) == 0) = true then _ else _) _ _ s
  rw [if_neg (by decide)]
  refine wpAny_bind (slicePart_ pl (wpAny_bind (slicePart_ pu (wpAny_bind (wpAny_pure ?_)))))
  show wpAny _ _ (match Builtin.Slice.sliceAdjust lo hi 1 (n : Int) with | (lo, hi) => pure (lo, (1 : Int), Builtin.Slice.slicePlaces lo hi 1)) _ _ s
  rw [adjust_gen lo hi n]
  show wpAny _ _ (pure (((sIx n 0 lo : Nat) : Int), (1 : Int), Builtin.Slice.slicePlaces ((sIx n 0 lo : Nat) : Int) ((sIx n n hi : Nat) : Int) 1)) _ _ s
  rw [places_gen]
  exact wpAny_pure h
theorem pick_gen (xs : Array Value) (i k : Nat) : ((List.range k).filterMap fun (m : Nat) => xs[((i : Int) + (m : Int) * 1).toNat]?).toArray = ((xs.toList.drop i).take k).toArray := by
  have e : (fun (m : Nat) => xs[((i : Int) + (m : Int) * 1).toNat]?) = fun m => xs[i + m]? := by
    funext m
    have : ((i : Int) + (m : Int) * 1).toNat = i + m := by omega
    rw [this]
  rw [e]
  have := pick_run xs i k
  rw [List.filterMap_map] at this
  have e2 : ((fun x => xs[x]?) ∘ fun x => i + x) = fun m => xs[i + m]? := rfl
  rw [e2] at this
  rw [this]

theorem getItem_tuple_cut {t sl : Addr} {items : Array Value} {vl vu : Value} {lo hi : Option Int} {Q : Value → Shared → Prop} (ht : IsTup s.heap t items) (hs : s.heap.IsSliceOf sl vl vu .none) (pl : IsPart vl lo) (pu : IsPart vu hi)
    (hw : ¬ (sIx items.size 0 lo = 0 ∧ sIx items.size items.size hi = items.size))
    (h : Q (.ref s.heap.objs.size) { s with heap := s.heap.push { cls := .type "tuple", data := .seq ((items.toList.drop (sIx items.size 0 lo)).take (sIx items.size items.size hi - sIx items.size 0 lo)).toArray } })
    (hsz : items.size ≤ sizeLine) : wpAny (model prog w) A (getItem (.ref t) (.ref sl)) Q E s := by
  have htake : sizeOk (.seq ((items.toList.drop (sIx items.size 0 lo)).take (sIx items.size items.size hi - sIx items.size 0 lo)).toArray) := by
    show ((items.toList.drop (sIx items.size 0 lo)).take (sIx items.size items.size hi - sIx items.size 0 lo)).toArray.size ≤ sizeLine
    rw [List.size_toArray, List.length_take, List.length_drop, Array.length_toList]
    omega
  have hj : sIx items.size items.size hi ≤ items.size := sIx_le _ _ (Nat.le_refl _) hi
  obtain ⟨os, hos, hcs, hds⟩ := id hs
  have hTs : s.TypeIs (.ref sl) "slice" := ⟨os, hos, hcs⟩
  unfold getItem
  try with_reducible refine wpAny_holding ?_
  first | refine wpAny_bind (wpAny_pure ?_) | skip
  refine wpAny_bind (wpAny_sequenceKey ht.typeIs (by decide) ?_)
  refine wpAny_bind (wpAny_callSpecial?_slot (name := Str.ofString "__getitem__") ht.typeIs PyProof.Rows.slot_tuple_getitem
    (wpAny_call_entry PyProof.Rows.slot_tuple_getitem ht.typeIs entry_tuple_getitem ?_ (args_tuple_getitem _ _)))
  show wpAny _ _ (Builtin.Tuple.tupleItemsOf (.ref t) >>= _) _ _ s
  refine wpAny_bind (tupleItemsOf_ ht ?_)
  refine wpAny_bind (wpAny_typeOf hTs ?_)
  rw [if_pos (by decide)]
  refine wpAny_bind (sliceApplied_gen hs pl pu ?_)
  have hno : ¬ ((((sIx items.size 0 lo : Nat) : Int) == 0 && (1 : Int) == 1 && (sIx items.size items.size hi - sIx items.size 0 lo) == items.size) = true) := by
    intro q
    rw [Bool.and_eq_true, Bool.and_eq_true] at q
    have q1 : ((sIx items.size 0 lo : Nat) : Int) = 0 := eq_of_beq q.1.1
    have q2 : sIx items.size items.size hi - sIx items.size 0 lo = items.size := eq_of_beq q.2
    exact hw ⟨by omega, by omega⟩
  show wpAny _ _ (if (((sIx items.size 0 lo : Nat) : Int) == 0 && (1 : Int) == 1 && (sIx items.size items.size hi - sIx items.size 0 lo) == items.size) = true then _ else _) _ _ s
  rw [if_neg hno, pick_gen]
  first
    | exact wpAny_bind (m := Builtin.Tuple.tupleExact _) (wpAny_newObj_type (wpAny_pure ⟨_, rfl, wpAny_pure h⟩) htake)
    | exact wpAny_bind (m := Builtin.Tuple.tupleExact _) (wpAny_newObj_type (wpAny_bind (wpAny_pure (wpAny_pure ⟨_, rfl, wpAny_pure h⟩))) htake)
    | exact wpAny_bind (wpAny_bind (m := Builtin.Tuple.tupleExact _) (wpAny_newObj_type (wpAny_pure (wpAny_pure ⟨_, rfl, wpAny_pure h⟩)) htake))
    | exact wpAny_bind (wpAny_bind (m := Builtin.Tuple.tupleExact _) (wpAny_newObj_type (wpAny_pure ⟨_, rfl, wpAny_pure h⟩) htake))
end
end HT

namespace L2
open PySem PySem.Spec PyProof.Rows

abbrev TO := St → Hp → (Option Int → Hp → Prop) → Prop
/-- a slice's part (left out, or an int) -/
def PO (X : Cx) (e : Option Expr) (t : TO) : Prop :=
  ∀ (pins : List (Addr × Obj)) (s : Shared) (σ : St) (H : Hp) (Q : Option Int → Hp → Prop), Inv X pins σ H s → t σ H Q →
    wpAny (model X.prog X.w) X.A (evalPart e X.env) (fun u s' => ∃ o H', Inv X pins σ H' s' ∧ IsPart u o ∧ Q o H') X.xe s
def tNoPart : TO := fun _ H Q => Q none H
def tPart (t : TE) : TO := fun σ H Q => t σ H fun x H1 => ∃ i, x = .int i ∧ Q (some i) H1

theorem intsAre_of {ns : List Int} : ∀ {us : List Value}, Vals (ns.map V.int) us → IntsAre us ns := by
  induction ns with
  | nil => intro us r; rw [List.map_nil] at r; cases r; exact .nil
  | cons n ns ih =>
    intro us r
    rw [List.map_cons] at r
    cases r with
    | cons r1 r2 =>
      obtain ⟨t, e⟩ := r1
      subst e
      exact .cons n t (ih r2)

section
variable {X : Cx} {e : Expr} {te : TE} {lo hi : Option Expr} {tl th : TO} {pos p2 : Pos}

theorem po_none : PO X none tNoPart := by
  intro pins s σ H Q I h
  rw [evalPart_none]
  exact wpAny_pure ⟨none, H, I, .none, h⟩
theorem po_some (h : PE X e te) : PO X (some e) (tPart te) := by
  intro pins s σ H Q I hw
  rw [evalPart_some]
  refine thn (h pins s σ H _ I hw) fun u s1 ⟨x, H1, I1, r1, q1⟩ => ?_
  obtain ⟨i, rfl, q⟩ := q1
  obtain ⟨t, rfl⟩ := r1
  exact ⟨some i, H1, I1, .int i t, q⟩

/-- what a slice of a value is, by values: the slice object stands at sl -/
def SlR (X : Cx) (r : V → Option Int → Option Int → Hp → VK → Prop) : Prop :=
  ∀ (pins : List (Addr × Obj)) (s : Shared) (σ : St) (H : Hp) (x : V) (v vl vu : Value) (lo hi : Option Int) (sl : Addr) (Q : VK), Inv X pins σ H s → RelV x v → s.heap.IsSliceOf sl vl vu .none → IsPart vl lo → IsPart vu hi → r x lo hi H Q →
    ∃ T id, typeLookup (.type T) "__getitem__" = pure (some (.builtin id)) ∧ s.TypeIs v T ∧ wpAny (model X.prog X.w) X.A (getItem v (.ref sl)) (EP X pins σ Q) X.xe s
def tSl (r : V → Option Int → Option Int → Hp → VK → Prop) (te : TE) (tl th : TO) : TE := fun σ H Q => te σ H fun x H1 => tl σ H1 fun l H2 => th σ H2 fun u H3 => r x l u H3 Q
/-- a[lo:hi], any a -/
theorem pe_slice {r : V → Option Int → Option Int → Hp → VK → Prop} (hr : SlR X r) (he : PE X e te) (hl : PO X lo tl) (hu : PO X hi th) : PE X (.Subscript e (.Slice lo hi none p2) pos) (tSl r te tl th) := by
  intro pins s σ H Q I h
  refine Subscript_ (thn (he pins s σ H _ I h) fun v s1 ⟨x, H1, I1, r1, q1⟩ => ?_)
  refine wpAny_Slice (thn (hl pins s1 σ H1 _ I1 q1) fun vl s2 ⟨l, H2, I2, pl, q2⟩ => thn (hu pins s2 σ H2 _ I2 q2) fun vu s3 ⟨u, H3, I3, pu, q3⟩ => ?_)
  rw [evalPart_none]
  refine wpAny_pure ?_
  have I4 : Inv X pins σ H3 { s3 with heap := s3.heap.push { cls := .type "slice", data := .fields #[vl, vu, .none] } } := I3.kept (t' := s3.toks) fun b ob q => Heap.get?_push_of_some _ q
  obtain ⟨T, id, hT, ht, hg⟩ := hr pins { s3 with heap := s3.heap.push { cls := .type "slice", data := .fields #[vl, vu, .none] } } σ H3 x v vl vu l u s3.heap.objs.size Q I4 r1 (Heap.IsSliceOf.new ..) pl pu q3
  show wpAny (model X.prog X.w) X.A (subscriptTail e (.Slice lo hi none p2) v (.ref s3.heap.objs.size)) (EP X pins σ Q) X.xe { s3 with heap := s3.heap.push { cls := .type "slice", data := .fields #[vl, vu, .none] } }
  exact tail_any (ops := [.ref s3.heap.objs.size, v]) ht hT hg (by with_unfolding_all rfl)

/-- the items of xs[lo:hi] -/
def cutV (xs : List V) (lo hi : Option Int) : List V := (xs.drop (HT.sIx xs.length 0 lo)).take (HT.sIx xs.length xs.length hi - HT.sIx xs.length 0 lo)
theorem cutV_length (xs : List V) (lo hi : Option Int) : (cutV xs lo hi).length ≤ xs.length := by
  unfold cutV
  rw [List.length_take, List.length_drop]
  omega
/-- t[lo:hi], not the whole of it (the whole would be t itself) -/
def rSlT (K : PySem.W.Frag) : V → Option Int → Option Int → Hp → VK → Prop := fun x lo hi H Q => ∃ a xs, x = .ref a ∧ SqT K H a xs ∧
  ¬ (HT.sIx xs.length 0 lo = 0 ∧ HT.sIx xs.length xs.length hi = xs.length) ∧ ∀ p, H p = none → Q (.ref p) (upd H p (.tup (cutV xs lo hi)))
theorem sl_tup : SlR X (rSlT X.K) := by
  intro pins s σ H x v vl vu lo hi sl Q I rx hs pl pu h
  obtain ⟨a, xs, rfl, hx, hw, q⟩ := h
  cases rx
  obtain ⟨its, r, ht, hz⟩ := I.tuple hx
  have hlen : its.toArray.size = xs.length := by rw [List.size_toArray]; exact r.length.symm
  refine ⟨"tuple", _, PyProof.Rows.slot_tuple_getitem.lookup, ht.typeIs, ?_⟩
  refine HT.getItem_tuple_cut ht hs pl pu (by rw [hlen]; exact hw) ?_ (by rw [hlen]; exact hz)
  rw [hlen]
  refine ⟨.ref s.heap.objs.size, _, I.laid (t' := s.toks) (o := .tup (cutV xs lo hi)) (fun b ob q => Heap.get?_push_of_some _ q) (Nat.le_refl _) ?_, rfl, q _ (I.hok.fresh (Nat.le_refl _))⟩
  exact ⟨Nat.le_trans (cutV_length xs lo hi) hz, _, (r.drop (HT.sIx xs.length 0 lo)).take (HT.sIx xs.length xs.length hi - HT.sIx xs.length 0 lo), IsTup.new _ _⟩

end
end L2

namespace L2
open PySem PySem.Spec PyProof.Rows

/-- the place that an index of any sign means -/
def ixN (n : Nat) (i : Int) : Option Nat := if 0 ≤ i then (if i < n then some i.toNat else none) else if -(n : Int) ≤ i then some (i + n).toNat else none
def atI {α : Type} (xs : List α) (i : Int) : Option α := (ixN xs.length i).bind fun j => xs[j]?
theorem ixN_seq {n : Nat} {i : Int} {j : Nat} (h : ixN n i = some j) : seqIndex? i n = some j ∧ j < n ∧ -(n : Int) ≤ i ∧ i < n := by
  unfold ixN at h
  by_cases h0 : 0 ≤ i
  · rw [if_pos h0] at h
    by_cases h1 : i < n
    · rw [if_pos h1] at h
      have e : i.toNat = j := Option.some.inj h
      exact ⟨by rw [seqIndex_of h0 h1, e], by omega, by omega, h1⟩
    · rw [if_neg h1] at h; cases h
  · rw [if_neg h0] at h
    by_cases h1 : -(n : Int) ≤ i
    · rw [if_pos h1] at h
      have e : (i + n).toNat = j := Option.some.inj h
      exact ⟨by rw [seqIndex_neg (by omega) h1, e], by omega, h1, by omega⟩
    · rw [if_neg h1] at h; cases h
theorem atI_get {α : Type} {xs : List α} {i : Int} {v : α} (h : atI xs i = some v) : ∃ j, seqIndex? i xs.length = some j ∧ xs[j]? = some v ∧ j < xs.length ∧ -(xs.length : Int) ≤ i ∧ i < xs.length := by
  unfold atI at h
  cases e : ixN xs.length i with
  | none => rw [e] at h; cases h
  | some j =>
    rw [e] at h
    obtain ⟨h1, h2, h3, h4⟩ := ixN_seq e
    exact ⟨j, h1, h, h2, h3, h4⟩
theorem atI_nat {α : Type} {xs : List α} {j : Nat} {v : α} (h : xs[j]? = some v) : atI xs (j : Int) = some v := by
  have hj : j < xs.length := (List.getElem?_eq_some_iff.mp h).1
  have e : ixN xs.length (j : Int) = some j := by
    unfold ixN
    rw [if_pos (by omega), if_pos (by omega)]; simp
  unfold atI; rw [e]; exact h
theorem atI_last {α : Type} (xs : List α) (v : α) : atI (xs ++ [v]) (-1) = some v := by
  have hl : (xs ++ [v]).length = xs.length + 1 := by simp
  have e : ixN (xs ++ [v]).length (-1) = some xs.length := by
    unfold ixN
    rw [hl, if_neg (by decide), if_pos (by omega)]
    congr 1
    omega
  unfold atI
  rw [e]
  show (xs ++ [v])[xs.length]? = some v
  simp

/-- what stands as an index of a plain subscript -/
def PlainIx (b : Expr) : Prop := ∀ o i, subscripted b false o i = operate [o, i] (getItem o i)
/-- a subscript by values -/
def IxR (X : Cx) (r : R2) : Prop :=
  ∀ (value slice : Expr) (pins : List (Addr × Obj)) (s : Shared) (σ : St) (H : Hp) (x y : V) (v u : Value) (Q : VK), Inv X pins σ H s → RelV x v → RelV y u → r x y H Q →
    subscripted slice false v u = operate [v, u] (getItem v u) → wpAny (model X.prog X.w) X.A (subscriptTail value slice v u) (EP X pins σ Q) X.xe s
/-- a call of a builtin's method by values: the receiver, the arguments -/
def MtR (X : Cx) (id : String) (r : V → List V → Hp → VK → Prop) : Prop :=
  ∀ (pins : List (Addr × Obj)) (s : Shared) (σ : St) (H : Hp) (x : V) (xs : List V) (v : Value) (us : List Value) (Q : VK), Inv X pins σ H s → RelV x v → Vals xs us → r x xs H Q →
    wpAny (model X.prog X.w) X.A (call (.builtin id) (v :: us)) (EP X pins σ Q) X.xe s
section
variable {X : Cx} {a b : Expr} {ta tb : TE} {pos : Pos}
theorem IxR.or {r r' : R2} (h : IxR X r) (h' : IxR X r') : IxR X (fun x y H Q => r x y H Q ∨ r' x y H Q) := by
  intro value slice pins s σ H x y v u Q I rx ry q hs
  rcases q with q | q
  · exact h value slice pins s σ H x y v u Q I rx ry q hs
  · exact h' value slice pins s σ H x y v u Q I rx ry q hs
/-- a[b] -/
theorem pe_ix {r : R2} (hr : IxR X r) (ha : PE X a ta) (hb : PE X b tb) (hs : PlainIx b) : PE X (.Subscript a b pos) (tOp r ta tb) := by
  intro pins s σ H Q I h
  exact Subscript_ (binT ha hb I h fun v u s2 x y H2 I2 rx ry q => hr a b pins s2 σ H2 x y v u Q I2 rx ry q (hs _ _))

def rIxL (K : PySem.W.Frag) : R2 := fun x y H Q => ∃ p xs i v, x = .ref p ∧ y = .int i ∧ SqL K H p xs ∧ atI xs i = some v ∧ Q v H
def rIxT (K : PySem.W.Frag) : R2 := fun x y H Q => ∃ p xs i v, x = .ref p ∧ y = .int i ∧ SqT K H p xs ∧ atI xs i = some v ∧ Q v H
def rIxS : R2 := fun x y H Q => ∃ z i c, x = .str z ∧ y = .int i ∧ z.length ≤ sizeLine ∧ atI z.cps.toList i = some c ∧ Q (.str ⟨#[c]⟩) H
theorem ix_list : IxR X (rIxL X.K) := by
  intro value slice pins s σ H x y v u Q I rx ry h hs
  obtain ⟨p, xs, i, z, rfl, rfl, hq, he, q⟩ := h
  cases rx
  obtain ⟨t, rfl⟩ := ry
  obtain ⟨its, r, pl, hz⟩ := I.list hq
  obtain ⟨j, h1, h2, h3, h4, h5⟩ := atI_get he
  obtain ⟨w, ew, rw'⟩ := r.get h2
  have hl := r.length
  have hn := line63
  have fin : EP X pins σ Q w s := ⟨z, H, I, rw', q⟩
  by_cases h0 : 0 ≤ i
  · have hj : i.toNat = j := by
      rw [seqIndex_of h0 h5] at h1
      exact Option.some.inj h1
    exact item_listR pl.isList h0 (by omega) (by rw [hj]; simpa using ew) fin hs
  · have hj : (i + (its.toArray.size : Int)).toNat = j := by
      rw [seqIndex_neg (by omega) h4] at h1
      rw [List.size_toArray, ← hl]
      exact Option.some.inj h1
    exact subscriptTail_builtinR (x := w) pl.isList.typeIs slot_list_getitem.lookup
      (wpAny_getItem_list_neg (Q := fun r s' => r = w ∧ EP X pins σ Q r s') pl.isList (by omega) (by rw [List.size_toArray] <;> omega) (by omega) (by rw [hj]; simpa using ew) ⟨rfl, fin⟩) hs
theorem ix_tup : IxR X (rIxT X.K) := by
  intro value slice pins s σ H x y v u Q I rx ry h hs
  obtain ⟨p, xs, i, z, rfl, rfl, hq, he, q⟩ := h
  cases rx
  obtain ⟨t, rfl⟩ := ry
  obtain ⟨its, r, pl, hz⟩ := I.tuple hq
  obtain ⟨j, h1, h2, h3, h4, h5⟩ := atI_get he
  obtain ⟨w, ew, rw'⟩ := r.get h2
  have hl := r.length
  have hn := line63
  have fin : EP X pins σ Q w s := ⟨z, H, I, rw', q⟩
  exact subscriptTail_builtinR (x := w) pl.typeIs slot_tuple_getitem.lookup
    (getItem_tuple (j := j) (Q := fun r s' => r = w ∧ EP X pins σ Q r s') pl (by omega) (by omega) (by rw [List.size_toArray, ← hl]; exact h1) (by simpa using ew) ⟨rfl, fin⟩) hs
theorem ix_str : IxR X rIxS := by
  intro value slice pins s σ H x y v u Q I rx ry h hs
  obtain ⟨z, i, c, rfl, rfl, hz, he, q⟩ := h
  obtain ⟨t, rfl⟩ := rx
  obtain ⟨t', rfl⟩ := ry
  obtain ⟨j, h1, h2, h3, h4, h5⟩ := atI_get he
  have hl : z.cps.toList.length = z.length := by simp [Str.length]
  rw [hl] at h1 h4 h5
  have hn := line63
  exact tail_any (typeIs_str s z t) slot_str_getitem.lookup (getItem_str (c := c) (by
    have e1 : decide (i < -(2 ^ 63 : Int)) = false := decide_eq_false (by omega)
    have e2 : decide (i ≥ 2 ^ 63) = false := decide_eq_false (by omega)
    rw [e1, e2, Bool.or_false]) (by rw [h1]; simpa using h2) ⟨.str ⟨#[c]⟩, H, I.tok _, ⟨_, rfl⟩, q⟩) hs
/-- list, tuple or str -/
def rIx (K : PySem.W.Frag) : R2 := fun x y H Q => rIxL K x y H Q ∨ rIxT K x y H Q ∨ rIxS x y H Q
theorem ix_seq : IxR X (rIx X.K) := ix_list.or (ix_tup.or ix_str)

/-- the list's object behind a store -/
theorem mapSeq_set (its : List Value) (n j : Nat) (u : Value) : Obj.mapSeq (·.setIfInBounds j u) { cls := .type "list", data := .seq its.toArray n } = { cls := .type "list", data := .seq (its.set j u).toArray n } := by
  simp [Obj.mapSeq]
theorem Inv.lst {pins : List (Addr × Obj)} {σ : St} {H : Hp} {s : Shared} {p : Addr} {xs : List V} (I : Inv X pins σ H s) (h : H p = some (.lst xs)) :
    ∃ (its : List Value) (n : Nat), Vals xs its ∧ s.heap.get? p = some { cls := .type "list", data := .seq its.toArray n } ∧ xs.length ≤ sizeLine := by
  obtain ⟨z, its, n, r, e⟩ := I.hok p _ h
  exact ⟨its, n, r, e, z⟩
/-- the list at p is written by an update of its object -/
theorem Inv.lstUpd {pins : List (Addr × Obj)} {σ : St} {H : Hp} {s : Shared} {p : Addr} {xs ys : List V} {its its' : List Value} {n n' : Nat} {f : Obj → Obj} (I : Inv X pins σ H s) (h : H p = some (.lst xs))
    (ho : s.heap.get? p = some { cls := .type "list", data := .seq its.toArray n }) (hf : f { cls := .type "list", data := .seq its.toArray n } = { cls := .type "list", data := .seq its'.toArray n' }) (r : Vals ys its') (hz : ys.length ≤ sizeLine) (t : Nat) :
    Inv X pins σ (upd H p (.lst ys)) { s with heap := s.heap.update p f, toks := t } := by
  have e : (s.heap.update p f).get? p = some { cls := .type "list", data := .seq its'.toArray n' } := by
    rw [Heap.get?_update_self f ho (by rw [hf] <;> rfl), hf]
  refine I.write (x := p) (e := p) (by rw [h]; trivial) (.inl rfl) (fun b u hb q => (Heap.get?_update_other _ _ (Ne.symm hb)).trans q) ⟨_, e⟩ ?_
  exact ⟨hz, its', n', r, e⟩
def rSetL : V → V → V → Hp → (Hp → Prop) → Prop := fun o i v H Q => ∃ p xs k j, o = .ref p ∧ i = .int k ∧ H p = some (.lst xs) ∧ ixN xs.length k = some j ∧ Q (upd H p (.lst (xs.set j v)))
theorem set_list : PSet X rSetL := by
  intro pins s σ H o i v ov iv u Q I ro ri rv h
  obtain ⟨p, xs, k, j, rfl, rfl, hp, hj, q⟩ := h
  cases ro
  obtain ⟨t, rfl⟩ := ri
  obtain ⟨its, n, r, ho, hz⟩ := I.lst hp
  obtain ⟨h1, h2, h3, h4⟩ := ixN_seq hj
  have hl := r.length
  have hn := line63
  have I' : Inv X pins σ (upd H p (.lst (xs.set j v))) { s with heap := s.heap.update p (Obj.mapSeq (·.setIfInBounds j u)) } :=
    I.lstUpd hp ho (mapSeq_set its n j u) (r.set rv j) (by rw [List.length_set]; exact hz) s.toks
  by_cases h0 : 0 ≤ k
  · have hk : k.toNat = j := by
      rw [seqIndex_of h0 h4] at h1
      exact Option.some.inj h1
    exact PySem.W.ki_setAt ho h0 (by omega) (by rw [List.size_toArray, ← hl]; exact h4) (by rw [hk]; exact ⟨_, I', q⟩)
  · have hk : (k + (its.toArray.size : Int)).toNat = j := by
      rw [seqIndex_neg (by omega) h3] at h1
      rw [List.size_toArray, ← hl]
      exact Option.some.inj h1
    exact PySem.W.ki_setBack ho (by omega) (by rw [List.size_toArray, ← hl]; exact h3) (by omega) (by rw [hk]; exact ⟨_, I', q⟩)

theorem slice_bounds (lo hi : Option Int) (n : Nat) : (sliceBounds lo hi none n).1 = ((HT.sIx n 0 lo : Nat) : Int) ∧ (sliceBounds lo hi none n).2.1 = ((HT.sIx n n hi : Nat) : Int) ∧ (sliceBounds lo hi none n).2.2 = 1 := by
  refine ⟨?_, ?_, rfl⟩
  · cases lo with
    | none => simp [sliceBounds, HT.sIx]
    | some i =>
      simp only [sliceBounds, HT.sIx, Option.getD_none, show (1 : Int) > 0 by decide, if_true]
      by_cases h : i < 0
      · simp only [h, if_true] <;> omega
      · simp only [h, if_false] <;> omega
  · cases hi with
    | none => simp [sliceBounds, HT.sIx]
    | some i =>
      simp only [sliceBounds, HT.sIx, Option.getD_none, show (1 : Int) > 0 by decide, if_true]
      by_cases h : i < 0
      · simp only [h, if_true] <;> omega
      · simp only [h, if_false] <;> omega
theorem slicePick_cut (its : List Value) (lo hi : Option Int) : slicePick its.toArray lo hi none = ((its.drop (HT.sIx its.length 0 lo)).take (HT.sIx its.length its.length hi - HT.sIx its.length 0 lo)).toArray := by
  obtain ⟨h1, h2, h3⟩ := slice_bounds lo hi its.toArray.size
  unfold slicePick
  rw [h1, h2, h3]
  simp only [sliceRange_one, pick_run, List.size_toArray] <;> rfl
/-- xs[lo:hi] of a list: a new list -/
def rSlL (K : PySem.W.Frag) : V → Option Int → Option Int → Hp → VK → Prop := fun x lo hi H Q => ∃ a xs, x = .ref a ∧ SqL K H a xs ∧ ∀ p, H p = none → Q (.ref p) (upd H p (.lst (cutV xs lo hi)))
theorem sl_list : SlR X (rSlL X.K) := by
  intro pins s σ H x v vl vu lo hi sl Q I rx hs pl pu h
  obtain ⟨a, xs, rfl, hx, q⟩ := h
  cases rx
  obtain ⟨its, r, ht, hz⟩ := I.list hx
  have hlen := r.length
  refine ⟨"list", _, slot_list_getitem.lookup, ht.isList.typeIs, ?_⟩
  refine wpAny_getItem_list_slice ht.isList hs pl pu .none (by simp) ?_ (by rw [List.size_toArray] <;> omega)
  rw [slicePick_cut, ← hlen]
  refine ⟨.ref s.heap.objs.size, _, I.laid (t' := s.toks) (o := .lst (cutV xs lo hi)) (fun b ob q => Heap.get?_push_of_some _ q) (Nat.le_refl _) ?_, rfl, q _ (I.hok.fresh (Nat.le_refl _))⟩
  exact ⟨Nat.le_trans (cutV_length xs lo hi) hz, _, 0, (r.drop (HT.sIx xs.length 0 lo)).take (HT.sIx xs.length xs.length hi - HT.sIx xs.length 0 lo), Heap.get?_push_size _ rfl⟩

def flatV : V → Bool
  | .non => true
  | .bl _ => true
  | .int _ => true
  | .str _ => true
  | _ => false
/-- == of flat values -/
def eqV : V → V → Bool
  | .non, .non => true
  | .bl a, .bl b => a == b
  | .bl a, .int b => (if a then 1 else 0) == b
  | .int a, .bl b => a == (if b then 1 else 0)
  | .int a, .int b => a == b
  | .str a, .str b => a == b
  | _, _ => false
theorem eqAt_V {A : Around} {s : Shared} {y x : V} {u v : Value} (ry : RelV y u) (rx : RelV x v) (fy : flatV y = true) (fx : flatV x = true) : SeqAt.EqAt A s u v (eqV y x) := by
  cases y with
  | non =>
    cases ry
    cases x with
    | non => cases rx; exact SeqAt.EqAt.same _
    | bl b => cases rx; exact SeqAt.EqAt.none_bool b
    | int b => obtain ⟨t, rfl⟩ := rx; exact SeqAt.EqAt.none_int b t
    | str b => obtain ⟨t, rfl⟩ := rx; exact SeqAt.EqAt.none_str b t
    | _ => exact absurd (show false = true from fx) Bool.false_ne_true
  | bl a =>
    cases ry
    cases x with
    | non => cases rx; exact SeqAt.EqAt.bool_none a
    | bl b => cases rx; exact SeqAt.EqAt.bool_bool a b
    | int b => obtain ⟨t, rfl⟩ := rx; exact SeqAt.EqAt.bool_int a b t
    | str b => obtain ⟨t, rfl⟩ := rx; exact SeqAt.EqAt.bool_str a b t
    | _ => exact absurd (show false = true from fx) Bool.false_ne_true
  | int a =>
    obtain ⟨t', rfl⟩ := ry
    cases x with
    | non => cases rx; exact SeqAt.EqAt.int_none a t'
    | bl b => cases rx; exact SeqAt.EqAt.int_bool a t' b
    | int b => obtain ⟨t, rfl⟩ := rx; exact SeqAt.EqAt.int_int a t' b t
    | str b => obtain ⟨t, rfl⟩ := rx; exact SeqAt.EqAt.int_str a t' b t
    | _ => exact absurd (show false = true from fx) Bool.false_ne_true
  | str a =>
    obtain ⟨t', rfl⟩ := ry
    cases x with
    | non => cases rx; exact SeqAt.EqAt.str_none a t'
    | bl b => cases rx; exact SeqAt.EqAt.str_bool a t' b
    | int b => obtain ⟨t, rfl⟩ := rx; exact SeqAt.EqAt.str_int a t' b t
    | str b => obtain ⟨t, rfl⟩ := rx; exact SeqAt.EqAt.str_str a t' b t
    | _ => exact absurd (show false = true from fx) Bool.false_ne_true
  | _ => exact absurd (show false = true from fy) Bool.false_ne_true
/-- the items' answers, read off the values (a value's own answer does not lean on its token) -/
def eqU (x : V) (u : Value) : Bool := match u with
  | .none => eqV .non x
  | .bool b => eqV (.bl b) x
  | .int i _ => eqV (.int i) x
  | .str z _ => eqV (.str z) x
  | _ => false
theorem eqU_of {x y : V} {u : Value} (r : RelV y u) (f : flatV y = true) : eqU x u = eqV y x := by
  cases y with
  | non => cases r; rfl
  | bl b => cases r; rfl
  | int i => obtain ⟨t, rfl⟩ := r; rfl
  | str z => obtain ⟨t, rfl⟩ := r; rfl
  | _ => exact absurd (show false = true from f) Bool.false_ne_true
theorem any_eqU {x : V} : ∀ {xs : List V} {us : List Value}, Vals xs us → xs.all flatV = true → us.any (eqU x) = xs.any fun y => eqV y x
  | _, _, .nil, _ => rfl
  | y :: xs, u :: us, .cons r t, f => by
    rw [List.all_cons, Bool.and_eq_true] at f
    rw [List.any_cons, List.any_cons, eqU_of r f.1, any_eqU t f.2]
theorem mem_eqAt {A : Around} {s : Shared} {x : V} {v : Value} (rx : RelV x v) (fx : flatV x = true) : ∀ {xs : List V} {us : List Value}, Vals xs us → xs.all flatV = true → ∀ u ∈ us, SeqAt.EqAt A s u v (eqU x u)
  | _, _, .nil, _ => fun u hu => by cases hu
  | y :: xs, u :: us, .cons r t, f => fun u' hu => by
    rw [List.all_cons, Bool.and_eq_true] at f
    rcases List.mem_cons.mp hu with rfl | hu
    · rw [eqU_of r f.1]; exact eqAt_V r rx f.1 fx
    · exact mem_eqAt rx fx t f.2 u' hu
def inV (x : V) (xs : List V) : Bool := xs.any fun y => eqV y x
/-- x in a list or tuple of flat items -/
def rIn (K : PySem.W.Frag) (neg : Bool) : R2 := fun x y H Q => ∃ p xs, y = .ref p ∧ (SqL K H p xs ∨ SqT K H p xs) ∧ flatV x = true ∧ xs.all flatV = true ∧ Q (.bl (if neg then !inV x xs else inV x xs)) H
theorem op_in_seq : OpR X (compareOp .In) (rIn X.K false) := by
  intro pins s σ H x y v u Q I rx ry h
  obtain ⟨p, xs, rfl, hq, fx, fs, q⟩ := h
  cases ry
  rcases hq with hq | hq
  · obtain ⟨its, r, pl, hz⟩ := I.list hq
    refine SeqAt.in_listAt (eqU x) pl.isList (fun w hw => mem_eqAt rx fx r fs w (by simpa using hw)) ⟨.bl _, H, I, rfl, ?_⟩
    rw [show its.toArray.any (eqU x) = its.any (eqU x) by simp, any_eqU r fs]
    exact q
  · obtain ⟨its, r, pl, hz⟩ := I.tuple hq
    refine SeqAt.in_tupleAt (eqU x) pl (fun w hw => mem_eqAt rx fx r fs w (by simpa using hw)) ⟨.bl _, H, I, rfl, ?_⟩
    rw [show its.toArray.any (eqU x) = its.any (eqU x) by simp, any_eqU r fs]
    exact q
theorem call_len_seq : CallR X (.builtin "len") (fun xs H Q => ∃ p ys, xs = [.ref p] ∧ (SqL X.K H p ys ∨ SqT X.K H p ys) ∧ Q (.int ys.length) H) := by
  intro pins s σ H xs us Q I r h
  obtain ⟨p, ys, rfl, hq, q⟩ := h
  obtain ⟨u, rfl, rx⟩ := vals1 r
  cases rx
  have hn := line63
  rcases hq with hq | hq
  · obtain ⟨its, r', pl, hz⟩ := I.list hq
    have hlen := r'.length
    exact Calls.call_len_list pl.isList (by simp only [List.size_toArray] <;> omega) ⟨.int ys.length, H, I.tok _, ⟨s.toks + 1, by rw [List.size_toArray, hlen]⟩, q⟩
  · obtain ⟨its, r', pl, hz⟩ := I.tuple hq
    have hlen := r'.length
    exact len_tuple pl (by simp only [List.size_toArray] <;> omega) ⟨.int ys.length, H, I.tok _, ⟨s.toks + 1, by rw [List.size_toArray, hlen]⟩, q⟩
theorem call_list_of : CallR X (.type "list") (fun xs H Q => ∃ p ys, xs = [.ref p] ∧ (SqL X.K H p ys ∨ SqT X.K H p ys) ∧ ∀ l, H l = none → Q (.ref l) (upd H l (.lst ys))) := by
  intro pins s σ H xs us Q I r h
  obtain ⟨p, ys, rfl, hq, q⟩ := h
  obtain ⟨u, rfl, rx⟩ := vals1 r
  cases rx
  have fin : ∀ (its : List Value), Vals ys its → ys.length ≤ sizeLine → ∀ (h' : Heap) (c' : Nat), (∀ b o', s.heap.get? b = some o' → h'.get? b = some o') →
      h'.get? s.heap.objs.size = some { cls := .type "list", dict := none, data := .seq its.toArray c', slots := #[] } → EP X pins σ Q (.ref s.heap.objs.size) { s with heap := h' } := fun its r' hz h' c' kp e =>
    ⟨.ref s.heap.objs.size, _, I.laid (t' := s.toks) kp (Nat.le_refl _) (show ObjOk X.prog X.w _ h' _ (.lst ys) from ⟨hz, its, c', r', e⟩), rfl, q _ (I.hok.fresh (Nat.le_refl _))⟩
  rcases hq with hq | hq
  · obtain ⟨its, r', pl, hz⟩ := I.list hq
    have hlen := r'.length
    obtain ⟨o, ho, hc, n, hd⟩ := pl.isList
    exact call_list_seq p (.inl rfl) ho hc hd (fun h' c' kp e => fin its r' hz h' c' kp e) (by simp only [List.size_toArray] <;> omega)
  · obtain ⟨its, r', pl, hz⟩ := I.tuple hq
    have hlen := r'.length
    obtain ⟨o, ho, hc, n, hd⟩ := pl
    exact call_list_seq p (.inr rfl) ho hc hd (fun h' c' kp e => fin its r' hz h' c' kp e) (by simp only [List.size_toArray] <;> omega)
/-- the value is of that builtin type -/
def tyV (K : PySem.W.Frag) (T : String) (x : V) (H : Hp) : Prop := match x with
  | .str _ => T = "str"
  | .int _ => T = "int"
  | .ref p => (T = "list" ∧ ∃ xs, SqL K H p xs) ∨ (T = "tuple" ∧ ∃ o, K.lookup p = some o ∧ o.cls = .type "tuple" ∧ o.dict = none) ∨
      (T = "dict" ∧ ((∃ kvs, H p = some (.dK kvs)) ∨ ∃ kvs, H p = some (.dT kvs))) ∨ (T = "set" ∧ ∃ S n, H p = some (.set S n))
  | _ => False
theorem tyV_is {pins : List (Addr × Obj)} {σ : St} {H : Hp} {s : Shared} {T : String} {x : V} {v : Value} (I : Inv X pins σ H s) (r : RelV x v) (ty : tyV X.K T x H) :
    s.TypeIs v T ∧ ∀ a, v = .ref a → ∃ ob, s.heap.get? a = some ob ∧ ob.dict = none := by
  cases x with
  | str z =>
    obtain ⟨t, rfl⟩ := r
    cases (show T = "str" from ty)
    exact ⟨typeIs_str s z t, fun _ e => nomatch e⟩
  | int i =>
    obtain ⟨t, rfl⟩ := r
    cases (show T = "int" from ty)
    exact ⟨typeIs_int s i t, fun _ e => nomatch e⟩
  | ref p =>
    cases r
    rcases ty with ⟨rfl, xs, hq⟩ | ⟨rfl, o, hk, hc, hd⟩ | ⟨rfl, hk⟩ | ⟨rfl, S, n, hk⟩
    · obtain ⟨its, _, pl, _⟩ := I.list hq
      refine ⟨pl.isList.typeIs, fun a e => ?_⟩
      cases e
      obtain ⟨o, n, e, c, hd, _⟩ := pl
      exact ⟨o, e, hd⟩
    · refine ⟨⟨o, I.kIn p o hk, hc⟩, fun a e => ?_⟩
      cases e
      exact ⟨o, I.kIn _ o hk, hd⟩
    · have z : ∃ o, s.heap.get? p = some o ∧ o.ExactDict := by
        rcases hk with ⟨kvs, hk⟩ | ⟨kvs, hk⟩
        · obtain ⟨_, _, _, _, o, _, _, e, ex, _⟩ := I.hok p _ hk
          exact ⟨o, e, ex⟩
        · obtain ⟨_, _, _, _, o, _, _, e, ex, _⟩ := I.hok p _ hk
          exact ⟨o, e, ex⟩
      obtain ⟨o, e, ex⟩ := z
      refine ⟨⟨o, e, ex.1⟩, fun a e2 => ?_⟩
      cases e2
      exact ⟨o, e, ex.2.1⟩
    · obtain ⟨o, _, _, _, e, ex, _⟩ := I.hok p _ hk
      refine ⟨⟨o, e, ex.1⟩, fun a e2 => ?_⟩
      cases e2
      exact ⟨o, e, ex.2.1⟩
  | _ => exact False.elim ty
def tBM0 (K : PySem.W.Frag) (T : String) (r : V → List V → Hp → VK → Prop) (to : TE) : TE := fun σ H Q => to σ H fun x H1 => tyV K T x H1 ∧ r x [] H1 Q
def tBM (K : PySem.W.Frag) (T : String) (r : V → List V → Hp → VK → Prop) (to : TE) (t : TA) : TE := fun σ H Q => to σ H fun x H1 => tyV K T x H1 ∧ t σ H1 fun xs H2 => r x xs H2 Q
variable {o e : Expr} {es : List Expr} {to : TE} {t : TA} {name : Str} {apos cpos : Pos} {T id : String} {r : V → List V → Hp → VK → Prop}
theorem pe_bm0 (pa : PlainAttrs T) (slot : Slot T name id) (hty : typeOf (.builtin id) = pure (.type "method_descriptor")) (hm : MtR X id r) (ho : PE X o to)
    (hbase : attributeBase o name X.env (eval o X.env) = eval o X.env := by rfl) (hline : (apos.endLine == cpos.line) = true := by rfl) : PE X (.Call (.Attribute o name apos) [] [] cpos) (tBM0 X.K T r to) := by
  intro pins s σ H Q I h
  refine wpAny_Call_method0_late hbase hline (thn (ho pins s σ H _ I h) fun v s1 ⟨x, H1, I1, r1, ty, q1⟩ => ?_)
  obtain ⟨h1, h2⟩ := tyV_is I1 r1 ty
  exact ⟨T, id, pa, slot, hty, h1, h2, Calls.callWith_builtin rfl (PySem.evalArgs_none (hm pins s1 σ H1 x [] v [] Q I1 r1 .nil q1))⟩
theorem pe_bm (pa : PlainAttrs T) (slot : Slot T name id) (hty : typeOf (.builtin id) = pure (.type "method_descriptor")) (hm : MtR X id r) (ho : PE X o to) (ha : PA X (e :: es) t)
    (hbase : attributeBase o name X.env (eval o X.env) = eval o X.env := by rfl)
    (hfew : ((backTo cpos (starEach (e :: es) X.env)).all (fun x => !x.1) && (backToKw cpos (keywordEach [] X.env)).all (fun x => x.1.isSome)
      && decide ((e :: es).length + ([] : List Keyword).length + (if ([] : List Keyword).isEmpty then 0 else 1) < 30)) = true := by rfl)
    (hline : (apos.endLine == cpos.line) = true := by rfl) (hs : starEach (e :: es) X.env = (false, eval e X.env) :: starEach es X.env := by rfl) (hplain : (backTo cpos (starEach es X.env)).any (·.1) = false := by rfl) :
    PE X (.Call (.Attribute o name apos) (e :: es) [] cpos) (tBM X.K T r to t) := by
  intro pins s σ H Q I h
  refine wpAny_Call_method_late hbase hfew hline rfl (thn (ho pins s σ H _ I h) fun v s1 ⟨x, H1, I1, r1, ty, q1⟩ => ?_)
  obtain ⟨h1, h2⟩ := tyV_is I1 r1 ty
  refine ⟨T, id, pa, slot, hty, h1, h2, ?_⟩
  have hA := ha cpos pins s1 σ H1 _ I1 q1
  rw [hs] at hA ⊢
  refine Calls.callWith_builtin (by show (false || (backTo cpos (starEach es X.env)).any (·.1)) = false; rw [hplain] <;> rfl) (Calls.evalArgs_plain ?_)
  exact thn hA fun us s2 ⟨vs, H2, I2, r2, q2⟩ => hm pins s2 σ H2 x vs v us Q I2 r1 r2 q2
/- xs.append(e), list.index on a module's tuple .. are MtR facts of 06m -/
end
end L2

namespace L2
open PySem PySem.Spec PyProof.Rows

def MtM (X : Cx) (id : String) (r : V → List V → Hp → VK → Prop) : Prop :=
  ∀ (pins : List (Addr × Obj)) (s : Shared) (σ : St) (H : Hp) (x : V) (xs : List V) (v : Value) (us : List Value) (Q : VK), Inv X pins σ H s → RelV x v → Vals xs us → r x xs H Q →
    wpAny (model X.prog X.w) X.A (call (.builtin id) (v :: us)) (EP X pins σ Q) X.xe s

theorem Vals.one : ∀ {x : V} {us : List Value}, Vals [x] us → ∃ u, us = [u] ∧ RelV x u
  | _, _, .cons r .nil => ⟨_, rfl, r⟩
theorem Vals.zero : ∀ {us : List Value}, Vals [] us → us = []
  | _, .nil => rfl
theorem Vals.reverse {xs : List V} {us : List Value} (h : Vals xs us) : Vals xs.reverse us.reverse := by
  induction h with
  | nil => exact .nil
  | cons r t ih => rw [List.reverse_cons, List.reverse_cons]; exact Vals.append ih (.cons r .nil)
theorem Vals.rep {xs : List V} {us : List Value} (h : Vals xs us) : ∀ k : Nat, Vals (List.replicate k xs).flatten (List.replicate k us).flatten
  | 0 => .nil
  | k + 1 => by
    rw [List.replicate_succ, List.replicate_succ, List.flatten_cons, List.flatten_cons]
    exact Vals.append h (Vals.rep h k)
theorem erase_last {α : Type} (l : List α) : l.eraseIdx (l.length - 1) = l.dropLast := by
  induction l with
  | nil => rfl
  | cons a r ih =>
    cases r with
    | nil => rfl
    | cons b r =>
      have e : (a :: b :: r).length - 1 = ((b :: r).length - 1) + 1 := by
        have h1 : (a :: b :: r).length = r.length + 2 := rfl
        have h2 : (b :: r).length = r.length + 1 := rfl
        omega
      rw [e, List.eraseIdx_cons_succ, ih]
      all_goals rfl
theorem foldl_rep (its : List Value) : ∀ (k : Nat) (acc : List Value),
    List.foldl (fun x1 x2 => x1 ++ x2) acc.toArray (List.replicate k its.toArray) = (acc ++ (List.replicate k its).flatten).toArray
  | 0, acc => by simp
  | k + 1, acc => by
    have e : acc.toArray ++ its.toArray = (acc ++ its).toArray := by simp
    have e2 : (acc ++ its) ++ (List.replicate k its).flatten = acc ++ (List.replicate (k + 1) its).flatten := by
      rw [List.replicate_succ, List.flatten_cons, List.append_assoc]
    rw [← e2, ← foldl_rep its k (acc ++ its), ← e, List.replicate_succ, List.foldl_cons]

section
variable {X : Cx} {pins : List (Addr × Obj)} {σ : St} {H : Hp} {s : Shared} {l b : Addr} {xs ys zs : List V}

theorem Inv.lset {its its' : List Value} {n : Nat} {f : Array Value → Array Value} {t' : Nat} (I : Inv X pins σ H s) (hH : H l = some (.lst xs))
    (e : s.heap.get? l = some { cls := .type "list", data := .seq its.toArray n }) (hf : f its.toArray = its'.toArray) (hv : Vals ys its') (hz : ys.length ≤ sizeLine) :
    Inv X pins σ (upd H l (.lst ys)) { s with heap := s.heap.update l (Obj.mapSeq f), toks := t' } := by
  have q := PySem.IsL.update e f
  rw [hf] at q
  refine I.write (x := l) (e := l) (by rw [hH]; exact trivial) (.inl rfl) (fun b' u hb hu => (Heap.get?_update_other s.heap (Obj.mapSeq f) (Ne.symm hb)).trans hu) ⟨_, q⟩ ?_
  exact ⟨hz, its', _, hv, q⟩
theorem Inv.lnew {its : List Value} {t' : Nat} (I : Inv X pins σ H s) (hv : Vals ys its) (hz : ys.length ≤ sizeLine) :
    Inv X pins σ (upd H s.heap.objs.size (.lst ys)) { s with heap := s.heap.push { cls := .type "list", data := .seq its.toArray }, toks := t' } :=
  I.laid (fun _ _ q => Heap.get?_push_of_some _ q) (Nat.le_refl _) ⟨hz, its, 0, hv, Heap.get?_push_size _ rfl⟩
theorem Inv.fresh (I : Inv X pins σ H s) : H s.heap.objs.size = none := I.hok.fresh (Nat.le_refl _)
theorem Inv.lstM (I : Inv X pins σ H s) (hH : H l = some (.lst xs)) : xs.length ≤ sizeLine ∧ ∃ (its : List Value) (n : Nat), Vals xs its ∧ xs.length = its.length ∧ s.heap.get? l = some { cls := .type "list", data := .seq its.toArray n } := by
  obtain ⟨z, its, n, r, e⟩ := I.hok l _ hH
  exact ⟨z, its, n, r, r.length, e⟩

theorem notLongL {n : Nat} (h : n ≤ sizeLine) : Builtin.List.listTooLong n = false := by
  unfold Builtin.List.listTooLong
  exact decide_eq_false (by omega)
end

section
variable {X : Cx}

def rAppend : V → List V → Hp → VK → Prop := fun x vs H Q => ∃ l xs y, x = .ref l ∧ vs = [y] ∧ H l = some (.lst xs) ∧ xs.length < sizeLine ∧ Q .non (upd H l (.lst (xs ++ [y])))
theorem mt_append : MtM X "list.append" rAppend := by
  intro pins s σ H x vs v us Q I rx rv h
  obtain ⟨l, xs, y, rfl, rfl, hH, hz, q⟩ := h
  cases rx
  obtain ⟨u, rfl, ru⟩ := rv.one
  obtain ⟨z, its, n, r, hl, e⟩ := I.lstM hH
  refine call_meets F.slot_list_append ⟨_, e, rfl⟩ F.entry_list_append (F.args_list_append_2 _ _) (PySem.list_append l its.toArray n u (by rw [List.size_toArray]; omega)) ⟨e, ?_⟩
  refine ⟨.non, _, I.lset (its' := its ++ [u]) hH e (by simp) (r.append (.cons ru .nil)) ?_, rfl, q⟩
  rw [List.length_append, List.length_singleton]
  omega

def rExtend : V → List V → Hp → VK → Prop := fun x vs H Q => ∃ l b xs zs, x = .ref l ∧ vs = [.ref b] ∧ H l = some (.lst xs) ∧ H b = some (.lst zs) ∧ xs.length + zs.length ≤ sizeLine ∧ Q .non (upd H l (.lst (xs ++ zs)))
theorem mt_extend : MtM X "list.extend" rExtend := by
  intro pins s σ H x vs v us Q I rx rv h
  obtain ⟨l, b, xs, zs, rfl, rfl, hH, hB, hz, q⟩ := h
  cases rx
  obtain ⟨u, rfl, ru⟩ := rv.one
  cases ru
  obtain ⟨z, its, n, r, hl, e⟩ := I.lstM hH
  obtain ⟨z2, its2, n2, r2, hl2, e2⟩ := I.lstM hB
  have hsz : its.toArray.size + its2.toArray.size ≤ sizeLine := by rw [List.size_toArray, List.size_toArray]; omega
  have hlong : ¬ (!its.toArray.isEmpty && Builtin.List.listTooLong (its.toArray.size + its2.toArray.size)) = true := by
    rw [notLongL hsz, Bool.and_false]
    exact Bool.false_ne_true
  refine call_meets F.slot_list_extend ⟨_, e, rfl⟩ F.entry_list_extend (F.args_list_extend_2 _ _)
    (AutoSeq1.list_extend_list_list_0 l its.toArray n b its2.toArray n2 hlong (by rw [List.size_toArray]; omega) (by omega)) ⟨e, e2, ?_⟩
  refine ⟨.non, _, I.lset (its' := its ++ its2) hH e (by simp) (r.append r2) ?_, rfl, q⟩
  rw [List.length_append]
  omega

def rReverse : V → List V → Hp → VK → Prop := fun x vs H Q => ∃ l xs, x = .ref l ∧ vs = [] ∧ H l = some (.lst xs) ∧ Q .non (upd H l (.lst xs.reverse))
theorem mt_reverse : MtM X "list.reverse" rReverse := by
  intro pins s σ H x vs v us Q I rx rv h
  obtain ⟨l, xs, rfl, rfl, hH, q⟩ := h
  cases rx
  have hus := rv.zero
  subst hus
  obtain ⟨z, its, n, r, hl, e⟩ := I.lstM hH
  refine call_meets F.slot_list_reverse ⟨_, e, rfl⟩ F.entry_list_reverse (F.args_list_reverse_1 _) (AutoSeq1.list_reverse_list_0 l its.toArray n (by rw [List.size_toArray]; omega)) ⟨e, ?_⟩
  refine ⟨.non, _, I.lset (its' := its.reverse) hH e (by simp) r.reverse ?_, rfl, q⟩
  rw [List.length_reverse]
  omega

def rClear : V → List V → Hp → VK → Prop := fun x vs H Q => ∃ l xs, x = .ref l ∧ vs = [] ∧ H l = some (.lst xs) ∧ Q .non (upd H l (.lst []))
theorem mt_clear : MtM X "list.clear" rClear := by
  intro pins s σ H x vs v us Q I rx rv h
  obtain ⟨l, xs, rfl, rfl, hH, q⟩ := h
  cases rx
  have hus := rv.zero
  subst hus
  obtain ⟨z, its, n, r, hl, e⟩ := I.lstM hH
  refine call_meets F.slot_list_clear ⟨_, e, rfl⟩ F.entry_list_clear (F.args_list_clear_1 _) (AutoSeq1.list_clear_list_0 l its.toArray n (by rw [List.size_toArray]; omega)) ⟨e, ?_⟩
  exact ⟨.non, _, I.lset (its' := []) (ys := []) hH e rfl .nil (Nat.zero_le _), rfl, q⟩

def rCat : R2 := fun x y H Q => ∃ l b xs zs, x = .ref l ∧ y = .ref b ∧ H l = some (.lst xs) ∧ H b = some (.lst zs) ∧ xs.length + zs.length ≤ sizeLine ∧ ∀ p, H p = none → Q (.ref p) (upd H p (.lst (xs ++ zs)))
theorem op_cat : OpR X (binaryOp .Add) rCat := by
  intro pins s σ H x y v u Q I rx ry h
  obtain ⟨l, b, xs, zs, rfl, rfl, hH, hB, hz, q⟩ := h
  cases rx
  cases ry
  obtain ⟨z, its, n, r, hl, e⟩ := I.lstM hH
  obtain ⟨z2, its2, n2, r2, hl2, e2⟩ := I.lstM hB
  refine PySem.P.add_list e e2 ?_ (by rw [List.size_toArray, List.size_toArray]; omega)
  have ea : its.toArray ++ its2.toArray = (its ++ its2).toArray := by simp
  rw [ea]
  exact ⟨.ref _, _, I.lnew (t' := s.toks) (r.append r2) (by rw [List.length_append]; omega), rfl, q _ I.fresh⟩
/-- a list times an int (a negative one is nothing) -/
def rRep : R2 := fun x y H Q => ∃ l k xs, x = .ref l ∧ y = .int k ∧ H l = some (.lst xs) ∧ -(2 ^ 63) ≤ k ∧ k < 2 ^ 63 ∧ xs.length * k.toNat ≤ sizeLine ∧
  ∀ p, H p = none → Q (.ref p) (upd H p (.lst (List.replicate k.toNat xs).flatten))
theorem len_rep {α : Type} (xs : List α) (k : Nat) : (List.replicate k xs).flatten.length = k * xs.length := by
  induction k with
  | zero => simp
  | succ k ih => rw [List.replicate_succ, List.flatten_cons, List.length_append, ih, Nat.succ_mul, Nat.add_comm]
theorem op_rep : OpR X (binaryOp .Mult) rRep := by
  intro pins s σ H x y v u Q I rx ry h
  obtain ⟨l, k, xs, rfl, rfl, hH, h1, h2, hz, q⟩ := h
  cases rx
  obtain ⟨t, rfl⟩ := ry
  obtain ⟨z, its, n, r, hl, e⟩ := I.lstM hH
  have hlen : its.toArray.size * k.toNat ≤ sizeLine := by rw [List.size_toArray, ← hl]; exact hz
  have hcap : ¬ its.toArray.size * k.toNat > (2 ^ 63 - 1) / 8 := by
    have : (sizeLine : Nat) ≤ (2 ^ 63 - 1) / 8 := by decide
    omega
  have hfit : ¬ (!Builtin.List.listFitsIndex k) = true := by
    rw [fitsIndex_both h1 h2]
    exact Bool.false_ne_true
  have hlong : ¬ Builtin.List.listTooLong (its.toArray.size * k.toNat) = true := by
    rw [notLongL hlen]
    exact Bool.false_ne_true
  have hnew : List.foldl (fun x1 x2 => x1 ++ x2) #[] (List.replicate (if its.toArray.isEmpty = true then 0 else k.toNat) its.toArray) = (List.replicate k.toNat its).flatten.toArray := by
    have f0 : ∀ m : Nat, List.foldl (fun x1 x2 => x1 ++ x2) #[] (List.replicate m its.toArray) = (List.replicate m its).flatten.toArray := fun m => by
      have := foldl_rep its m []
      rw [List.nil_append] at this
      exact this
    rw [f0]
    cases its with
    | nil => simp
    | cons a r' => rw [if_neg (by simp)]
  refine wpAny_binaryOp_repeat_ref (T := "list") (U := "int") (by decide) ⟨_, e, rfl⟩ (fun s' => typeIs_int s' k t) noFill_list_mul F.fills_int_mul F.slot_int_rmul repeat_list F.slot_int_index.lookup
    (call_meets F.slot_int_rmul (typeIs_int s k t) F.entry_int_rmul (F.args_int_rmul_2 _ _) (int___rmul___int_list k t l its.toArray n)
      ⟨e, rfl, ⟨_, e, rfl⟩, call_meets F.slot_list_mul ⟨_, e, rfl⟩ F.entry_list_mul (F.args_list_mul_2 _ _) (AutoListH.list___mul___list_int_3 l its.toArray n k t hfit hcap hlong) ⟨e, ?_⟩⟩)
  rw [hnew]
  exact ⟨.ref _, _, I.lnew (t' := s.toks) (r.rep k.toNat) (by rw [len_rep, Nat.mul_comm]; exact hz), rfl, q _ I.fresh⟩

end

section
variable {prog : Program} {w : World} {A : Around} {E : Value → Shared → Prop} {s : Shared}
end

section
variable {X : Cx}
end
end L2

namespace Att
open PySem PySem.W PySem.Calls PyProof.Rows

theorem ints_of_wellAll {P : Params} {h : Heap} : ∀ (ns : List Int) (vs : List Value), WellAll P h vs (ns.map WData.int) → IntsAre vs ns := by
  intro ns
  induction ns with
  | nil =>
    intro vs w
    rw [List.map_nil] at w
    cases w
    exact .nil
  | cons n ns ih =>
    intro vs w
    rw [List.map_cons] at w
    cases w with
    | cons a b =>
      cases a
      exact .cons _ _ (ih _ b)

theorem script_of {l : OpenLaw} {n : Nat} (hn : l.most = some n) {P : Params} {h : Heap} {args : List WData} {vals : List Value}
    (hpre : l.row.toRowW.claim.pre args = true) (hwl : WellAll P h vals args) :
    ∃ a vs ns, vals = [Value.ref a] ∧ args = [WData.list (ns.map WData.int)] ∧ h.get? a = some { cls := .type "list", data := .seq vs.toArray } ∧ IntsAre vs ns ∧ ns.length ≤ n := by
  have hsh : WShape.hasAll [] args [.list .int] = true := (pre_splitW hpre).1
  have hc : l.pre.holds [] { args := args } = true := (pre_splitW hpre).2
  obtain ⟨d, r, rfl, h1, h2⟩ := hasAllW_cons hsh
  obtain rfl := hasAllW_nil h2
  obtain ⟨xs, rfl, h3⟩ := hasW_list h1
  obtain ⟨ns, rfl⟩ := items_int h3
  have hlen : ns.length ≤ n := by
    unfold OpenLaw.pre at hc
    have h4 : (WTm.not (.lt (.lit (.int (n : Int))) (.len (.arg 0)))).holds [] { args := [.list (ns.map .int)] } = true := by
      have h4 := (holds_andW hc).1
      rw [hn] at h4
      exact h4
    have h5 := condW_of h4 (w_not (w_lt w_lit (w_len_list (w_arg rfl))))
    rw [List.length_map] at h5
    refine Nat.le_of_not_lt fun q => ?_
    have q' : (n : Int) < ((ns.length : Nat) : Int) := by omega
    first
      | (rw [decide_eq_true q'] at h5; exact absurd h5 (by decide))
      | (simp at h5; omega)
  cases hwl with
  | cons w1 w2 =>
    cases w2
    cases w1 with
    | list ho hall => exact ⟨_, _, ns, rfl, rfl, ho, ints_of_wellAll ns _ hall, hlen⟩

theorem post_true (l : OpenLaw) (args : List WData) : l.row.toRowW.claim.post args (.bool true) args = true :=
  postW_of (r := l.row.toRowW) (X := (true == true))
    (show WShape.has [] (.bool true) .bool = true by first | rfl | decide | simp [WShape.has, WShape.arms, WShape.armsAll])
    (show (WTm.eq .res (.lit (.bool true))).value [] { args := args, res := some (.bool true), after := args } = some (.bool (true == true)) from w_eq_bool (w_res rfl) w_lit) rfl

/-- the same from a codeAny of the CALL (for a layer whose function contracts speak of calls) -/
theorem attach_call {l : OpenLaw} {n : Nat} {q : Program} {loose : List Str} {XP : (Str → Option Value) → Heap → Prop} {YP : World → Heap → Prop} {d : DefRec}
    (hn : l.most = some n) (hdf : d.params.defaults = [])
    (call : ∀ (w : World) (s₀ s₁ : Shared) (mg mb : Str → Option Value) (fa : Addr) (o : Obj) (pm cd doc : Value) (a : Addr) (vs : List Value) (ns : List Int),
      Ground q loose [] XP w s₀ mg mb s₁.heap → YP w s₁.heap →
      s₁.heap.get? fa = some o → o.data = .func (docDef d.name d.params d.body d.scope pm cd doc) → s₁.heap.CodeRec cd d.name → mg d.name = some (.ref fa) →
      s₁.heap.get? a = some { cls := .type "list", data := .seq vs.toArray } → IntsAre vs ns → ns.length ≤ n → s₁.gens = #[] →
      codeAny (model l.prog w) callerA (.call (.ref fa) ⟨[.ref a], []⟩) (fun r s' => r = .ok (.ret (.bool true)) ∧ OldK s₁.heap s'.heap ∧ s'.os = s₁.os ∧ AllBare s'.gens) s₁) :
    WalkO q loose XP YP l.row.toRowW d [] (fun f vs => PySem.call f vs) := by
  intro w s₀ s₁ mg mb G Y fa o pm cd doc dV kV ho hd hcd hD hmg hg args vals as hpre hlay hrd hwl hlo
  obtain rfl : dV = .none := Dflts.none hD hdf
  obtain rfl : kV = .none := Dflts.noKw hD
  obtain ⟨a, vs, ns, rfl, rfl, hobj, hints, hlen⟩ := script_of hn hpre hwl
  refine enter_call (codeAny_mono (call w s₀ s₁ mg mb fa o pm cd doc a vs ns G Y ho (fd_plain hd) hcd hmg hobj hints hlen hg) fun r s' hq => ?_)
  obtain ⟨rfl, h2, h3, h4⟩ := hq
  exact ⟨.inl ⟨.bool true, .bool true, [], rfl, fun _ => rfl, .bool true, post_true l _, fun _ => ⟨List.Pairwise.nil, fun _ hm => (nomatch hm)⟩⟩, h2, h3, h4⟩

section
variable {prog : Program} {w : World} {A : Around} {E : Value → Shared → Prop} {s : Shared} {K : Frag}

end
end Att

namespace L2
open PySem PySem.Spec PyProof.Rows

theorem vals_ints : ∀ {vs : List Value} {ns : List Int}, IntsAre vs ns → Vals (ns.map V.int) vs
  | _, _, .nil => .nil
  | _, _, .cons n t h => .cons ⟨t, rfl⟩ (vals_ints h)

/-- nothing is tracked but the script, known to the object (or it is an object of the module) -/
def Only (H : Hp) : Prop := ∀ b, H b = none ∨ ∃ o xs, H b = some (.frz o (.lst xs))

/-- THE HEAD: the law's promise, at the heap behind the top. F, the promise of the law's def, may use that base is part of the heap (so K.In base, base.Ns mainGlobals mg stand in Mod) -/
theorem law_call {P : Program} {w : World} {K : PySem.W.Frag} {mg mb : Str → Option Value} {CX : CXT} {k : Nat} {fa a : Addr} {fd : FuncData} {x : Str} {sp : Sp} {s₁ : Shared} {vs : List Value} {ns : List Int}
    (KX : K.In s₁.heap) (hns : s₁.heap.Ns mainGlobals mg) (hb : s₁.heap.Ns builtinsNs mb) (hbb : ∀ x : Str, x ≠ "__name__" → mb x = bootBuiltins x) (hlim : s₁.heap.NoLimit) (hg : s₁.gens = #[])
    (ha : s₁.heap.get? a = some { cls := .type "list", data := .seq vs.toArray }) (hi : IntsAre vs ns) (hl : ns.length ≤ sizeLine) (hr : Room k callerA)
    (F : ∀ base : Heap, K.In base → base.Ns mainGlobals mg → FnOk P w K mg base CX k fa fd [x] sp) (hbind : ∀ (s : Shared) (u : Value), BindsTo s fd ⟨[u], []⟩ [(x, u)])
    (hsp : ∀ H : Hp, Only H → SqL K H a (ns.map V.int) → sp [.ref a] H (fun v _ => v = .bl true) fun _ _ _ => False)
    (hCX : ∀ H e s', CX [] H s₁ (fun _ _ _ => False) e s' → False) :
    codeAny (model P w) callerA (.call (.ref fa) ⟨[.ref a], []⟩) (fun r s' => r = .ok (.ret (.bool true)) ∧ OldK s₁.heap s'.heap ∧ s'.os = s₁.os ∧ AllBare s'.gens) s₁ := by
  have rv := vals_ints hi
  have lenV := hi.length
  -- from an abstract heap in which nothing but the script may be tracked
  have core : ∀ H : Hp, Only H → SqL K H a (ns.map V.int) → HOk P w H s₁.heap → (∀ b, H b ≠ none → b = a) → (H a ≠ none → K.lookup a = none) →
      codeAny (model P w) callerA (.call (.ref fa) ⟨[.ref a], []⟩) (fun r s' => r = .ok (.ret (.bool true)) ∧ OldK s₁.heap s'.heap ∧ s'.os = s₁.os ∧ AllBare s'.gens) s₁ := by
    intro H hO hS hok hA hK
    have base_of : ∀ {b : Addr} {o : Obj}, s₁.heap.get? b = some o → H b = none → (hidT s₁.heap H).get? b = some o := fun e n => hidT_get e n
    have noA : ∀ {b : Addr} {o : Obj} {es : Array DictEntry} {ep : Nat}, s₁.heap.get? b = some o → o.data = .dict es ep → H b = none := fun {b o es ep} e d => by
      cases q : H b with
      | none => rfl
      | some u =>
        have e' : b = a := hA b (by rw [q]; simp)
        subst e'
        rw [ha] at e; cases e
        have d' : Data.seq vs.toArray _ = Data.dict es ep := d
        cases d'
    have nsK : ∀ {b : Addr} {m : Str → Option Value}, s₁.heap.Ns b m → (hidT s₁.heap H).Ns b m := fun {b m} ⟨o, es, ep, e, d, r⟩ => ⟨o, es, ep, base_of e (noA e d), d, r⟩
    have hKb : K.In (hidT s₁.heap H) := fun b o e => base_of (KX b o e) (by
      cases q : H b with
      | none => rfl
      | some u =>
        have e' : b = a := hA b (by rw [q]; simp)
        subst e'
        rw [hK (by rw [q]; simp)] at e; cases e)
    have hM : Mod K mg (hidT s₁.heap H) := ⟨hKb, nsK hns, ⟨mb, nsK hb, hbb⟩, let ⟨mc, h1, h2⟩ := hlim; ⟨mc, nsK h1, h2⟩⟩
    have e0 : Env0 P w K mg (hidT s₁.heap H) callerA [] s₁ H := ⟨rfl, hM, fun b o e => of_hidT e, Nat.le_of_eq (hidT_size _ _), trivial, fun b hb => absurd (show b ∈ ([] : List Addr) from hb) (by simp), hok, .of_eq hg⟩
    refine codeAny_mono ((F _ hKb (nsK hns)).run callerA [] s₁ H ⟨[.ref a], []⟩ [.ref a] [.ref a] _ _ hr e0 (hbind s₁ (.ref a)) (.cons rfl .nil) (hsp H hO hS)) fun r s' h => ?_
    cases r with
    | error e => exact (hCX H e s' h).elim
    | ok fl =>
      cases fl with
      | next => exact False.elim h
      | brk => exact False.elim h
      | cont => exact False.elim h
      | ret u =>
        obtain ⟨v, H', os, bare, un, hok', r', q⟩ := h
        have q' : v = .bl true := q
        subst q'
        obtain rfl : u = Value.bool true := r'
        refine ⟨rfl, OldK.of_keep fun b o e => ?_, os, bare⟩
        cases q : H b with
        | none => exact un.keep b o e q (by intro z; exact absurd (show b ∈ ([] : List Addr) from z) (by simp)) (by simp)
        | some u =>
          rcases hO b with z | ⟨ob, xs, z⟩
          · rw [q] at z; cases z
          · have z2 := un.frzs b ob _ z
            obtain ⟨e1, _⟩ := hok b _ z
            obtain ⟨e2, _⟩ := hok' b _ z2
            rw [e] at e1; cases e1
            exact e2
  cases hk : K.lookup a with
  | some o =>
    -- the script is one of the module's own objects
    have e := KX a o hk
    rw [ha] at e
    cases e
    refine core (fun _ => none) (fun _ => .inl rfl) (.inr ⟨_, vs.toArray, _, hk, rfl, rfl, rfl, by rw [List.size_toArray, lenV]; exact hl, by simpa using rv⟩) (fun b u z => by have z' : (none : Option HO) = some u := z; cases z') (fun b z => absurd rfl z) fun z => absurd rfl z
  | none =>
    refine core (fun b => if b = a then some (.frz { cls := .type "list", data := .seq vs.toArray } (.lst (ns.map V.int))) else none) (fun b => ?_) (.inl (.inr ⟨{ cls := .type "list", data := .seq vs.toArray }, if_pos rfl⟩)) (fun b u z => ?_) (fun b z => ?_) fun _ => hk
    · by_cases hb : b = a
      · exact .inr ⟨_, _, if_pos hb⟩
      · exact .inl (if_neg hb)
    · by_cases hb : b = a
      · have z' := (if_pos hb).symm.trans z
        cases z'
        subst hb
        exact ⟨ha, by rw [List.length_map]; exact hl, vs, _, rv, ha⟩
      · have z' := (if_neg hb).symm.trans z
        cases z'
    · by_cases hb : b = a
      · exact hb
      · exact absurd (if_neg hb) z
end L2

namespace L2
open PySem PySem.Spec PyProof.Rows

/-- the goal that k_head leaves (case hc), from the law's promise. F gives the function object fd (K's own) once, then the promise over every base -/
theorem walk_of {l : PySem.W.OpenLaw} {n k : Nat} {q : Program} {loose : List Str} {XP : (Str → Option Value) → Heap → Prop} {YP : World → Heap → Prop} {d : DefRec} {K : Params → PySem.W.Frag} {CX : World → CXT} {sp : World → Sp} {x : Str}
    (hn : l.most = some n) (hn2 : n ≤ sizeLine) (hdf : d.params.defaults = []) (hr : Room k callerA)
    (hY : ∀ (w : World) (h : Heap), YP w h → (K w.params).In h)
    (F : ∀ (w : World) (mg : Str → Option Value) (fa : Addr) (h : Heap), (K w.params).In h → h.Ns mainGlobals mg → mg d.name = some (.ref fa) →
      ∃ fd : FuncData, (∀ (s : Shared) (u : Value), BindsTo s fd ⟨[u], []⟩ [(x, u)]) ∧
        ∀ base : Heap, (K w.params).In base → base.Ns mainGlobals mg → FnOk l.prog w (K w.params) mg base (CX w) k fa fd [x] (sp w))
    (hsp : ∀ (w : World) (H : Hp) (a : Addr) (ns : List Int), ns.length ≤ n → Only H → SqL (K w.params) H a (ns.map V.int) → sp w [.ref a] H (fun v _ => v = .bl true) fun _ _ _ => False)
    (hCX : ∀ (w : World) (H : Hp) (s : Shared) (e : Value) (s' : Shared), CX w [] H s (fun _ _ _ => False) e s' → False) :
    PySem.W.WalkO q loose XP YP l.row.toRowW d [] (fun f vs => PySem.call f vs) := by
  refine Att.attach_call hn hdf fun w s₀ s₁ mg mb fa o pm cd doc a vs ns G Y ho hd hcd hmg hobj hints hlen hg => ?_
  have KX := hY w _ Y
  obtain ⟨fd, hb, hF⟩ := F w mg fa _ KX G.T.g hmg
  exact law_call KX G.T.g G.T.b G.T.builtins G.T.nolimit hg hobj hints (Nat.le_trans hlen hn2) hr hF hb (fun H hO hS => hsp w H a ns hlen hO hS) fun H e s' => hCX w H s₁ e s'
end L2


namespace L2
open PySem PySem.Spec PyProof.Rows

/-- the j-th statement of a class's body -/
def inClass (s : Stmt) (j : Nat) : Stmt := match s with
  | .ClassDef _ _ _ body _ _ _ _ _ _ _ => body.getD j (.Pass ⟨0, 0, 0, 0⟩)
  | _ => .Pass ⟨0, 0, 0, 0⟩
def defArgs (s : Stmt) : Arguments := match s with
  | .FunctionDef _ a _ _ _ _ _ _ _ _ => a
  | _ => { posonlyargs := [], args := [], vararg := none, kwonlyargs := [], kw_defaults := [], kwarg := none, defaults := [] }
def defBody (s : Stmt) : List Stmt := match s with
  | .FunctionDef _ _ b _ _ _ _ _ _ _ => b
  | _ => []
def defScope (s : Stmt) : Scope := match s with
  | .FunctionDef _ _ _ _ _ _ sc _ _ _ => sc
  | _ => { kind := .function, names := [], isGenerator := false, isCoroutine := false }

abbrev CX0 : CXT := fun _ _ _ _ _ _ => False
abbrev E0 : XK := fun _ _ _ => False
theorem pass0 {X : Cx} : Passes CX0 X E0 := fun _ _ _ _ _ _ _ h => h.elim

structure Fun (K : PySem.W.Frag) (x qual : Str) (st : Stmt) (f : Addr) (fd : FuncData) : Prop where
  ex : ∃ (oc : Value) (od : Option Addr) (kV doc pm : Value) (an : Option Addr) (cdv ct : Value) (osl : Array (Option Value)),
    fd = PySem.W.fnOf x qual (defArgs st) (defBody st) (defScope st) .none kV doc pm an cdv ct ∧ K.lookup f = some ⟨oc, od, .func fd, osl⟩ ∧ PySem.W.codeIn K cdv qual = true
  kp : PySem.W.keepIn K (.ref f) = true
section
variable {P : Program} {w : World} {K : PySem.W.Frag} {mg : Str → Option Value} {base : Heap}
/-- THE RULE for a def: its body as a term of rules, and the reading of that term -/
theorem Fun.ok {x qual : Str} {st : Stmt} {f : Addr} {fd : FuncData} {N ps : List Str} {k : Nat} {sp : Sp} (F : Fun K x qual st f fd) (S : FnScope N ps (defScope st)) (len : ∀ vs H Q E, sp vs H Q E → vs.length = ps.length)
    (hbody : ∀ (cdv : Value) (A : Around) (outer : List Env) (s : Shared) (H : Hp) (vs : List V) (Q : VK) (E : XK), Room k (A.deeper (envOfC qual (defScope st) s.heap.objs.size f cdv)) → sp vs H Q E →
      ∃ t, PSs (cxOf CX0 P w K mg base N qual (defScope st) f cdv A outer s H E).nox (defBody st) t ∧ t { nx := fun _ H' => Q .non H', rt := Q } (start N vs) H) : FnOk P w K mg base CX0 (k + 1) f fd ps sp := by
  obtain ⟨oc, od, kV, doc, pm, an, cdv, ct, osl, rfl, lk, hcd⟩ := F.ex
  refine fn_of lk hcd S len fun A outer s H vs Q E hr hsp => ?_
  obtain ⟨t, h, q⟩ := hbody cdv A outer s H vs Q E hr hsp
  exact ⟨t, h.nox, q⟩
/-- how its arguments bind (no defaults): h is «fun _ _ _ _ _ _ us hl => match us, hl with | [_, _], _ => rfl», one _ a parameter -/
theorem Fun.binds {x qual : Str} {st : Stmt} {f : Addr} {fd : FuncData} {ps : List Str} (F : Fun K x qual st f fd)
    (h : ∀ (kV doc pm : Value) (an : Option Addr) (cdv ct : Value) (us : List Value), us.length = ps.length → bindArgs (PySem.W.fnOf x qual (defArgs st) (defBody st) (defScope st) .none kV doc pm an cdv ct) ⟨us, []⟩ = pure (ps.zip us)) : Binds K fd ps [] := by
  obtain ⟨oc, od, kV, doc, pm, an, cdv, ct, osl, rfl, lk, hcd⟩ := F.ex
  exact .all (h kV doc pm an cdv ct)
theorem fun_mk {x qual : Str} {st : Stmt} {f : Addr} {oc : Value} {od an : Option Addr} {osl : Array (Option Value)} {kV doc pm cdv ct : Value} (l : K.lookup f = some ⟨oc, od, .func (PySem.W.fnOf x qual (defArgs st) (defBody st) (defScope st) .none kV doc pm an cdv ct), osl⟩)
    (c : PySem.W.codeIn K cdv qual = true) (k : PySem.W.keepIn K (.ref f) = true) : Fun K x qual st f (PySem.W.fnOf x qual (defArgs st) (defBody st) (defScope st) .none kV doc pm an cdv ct) := ⟨⟨oc, od, kV, doc, pm, an, cdv, ct, osl, rfl, l, c⟩, k⟩
end
theorem hu_of {A : Around} {k : Nat} (hr : Room k A) : A.units + 1 < cLine := Nat.lt_of_le_of_lt (Nat.add_le_add_left (by decide : 1 ≤ 64) _) hr.units
section
variable {X : Cx}
theorem pv (i : Nat) {x : Str} {pos : Pos} (hN : X.N[i]? = some x := by rfl) (hv : Vis X.env.scope x := by first | exact Or.inl rfl | exact Or.inr (Or.inl rfl) | exact Or.inr (Or.inr rfl)) (hd : (x == ("__debug__" : Str)) = false := by decide)
    (hcd : (x == ("__classdict__" : Str)) = false := by decide) : PE X (.Name x pos) (tVar i) := pe_var hN hv hd hcd
end

theorem iteF {A B : Prop} (h : B) : if false = true then A else B := by
  rw [if_neg Bool.false_ne_true]
  exact h
theorem iteT {A B : Prop} (h : A) : if true = true then A else B := by
  rw [if_pos rfl]
  exact h
/-- all that was tracked is as it was -/
def Same (H H' : Hp) : Prop := ∀ b o, H b = some o → H' b = some o
theorem Same.refl (H : Hp) : Same H H := fun _ _ h => h
theorem Same.trans {H H1 H2 : Hp} (a : Same H H1) (b : Same H1 H2) : Same H H2 := fun c o h => b c o (a c o h)
theorem Same.free {H H' : Hp} (e : Same H H') {l : Addr} (h : H' l = Option.none) : H l = Option.none := by
  cases q : H l with
  | none => rfl
  | some o =>
    rw [e l o q] at h
    cases h
theorem Same.seq {K : PySem.W.Frag} {H H' : Hp} {a : Addr} {xs : List V} (e : Same H H') (h : SqL K H a xs) : SqL K H' a xs := by
  rcases h with (h | ⟨o, h⟩) | h
  · exact .inl (.inl (e _ _ h))
  · exact .inl (.inr ⟨o, e _ _ h⟩)
  · exact .inr h

end L2

set_option Elab.async false
set_option linter.all false
set_option maxRecDepth 100000
namespace L2
open PySem PySem.Spec PyProof.Rows

mutual
inductive At (H : Hp) : V → PyData → Prop
  | non : At H .non .none
  | bl (b : Bool) : At H (.bl b) (.bool b)
  | int (i : Int) : At H (.int i) (.int i)
  | str (x : Str) : At H (.str x) (.str x)
  | lst {a : Addr} {vs : List V} {ds : List PyData} : H a = some (.lst vs) → AtAll H vs ds → At H (.ref a) (.list ds)
  | tup {a : Addr} {vs : List V} {ds : List PyData} : H a = some (.tup vs) → AtAll H vs ds → At H (.ref a) (.tuple ds)
inductive AtAll (H : Hp) : List V → List PyData → Prop
  | nil : AtAll H [] []
  | cons {v : V} {d : PyData} {vs : List V} {ds : List PyData} : At H v d → AtAll H vs ds → AtAll H (v :: vs) (d :: ds)
end
mutual
theorem At.same {H H' : Hp} (s : Same H H') : ∀ {v : V} {d : PyData}, At H v d → At H' v d
  | _, _, .non => .non
  | _, _, .bl b => .bl b
  | _, _, .int i => .int i
  | _, _, .str x => .str x
  | _, _, .lst e t => .lst (s _ _ e) (AtAll.same s t)
  | _, _, .tup e t => .tup (s _ _ e) (AtAll.same s t)
theorem AtAll.same {H H' : Hp} (s : Same H H') : ∀ {vs : List V} {ds : List PyData}, AtAll H vs ds → AtAll H' vs ds
  | _, _, .nil => .nil
  | _, _, .cons a b => .cons (At.same s a) (AtAll.same s b)
end
theorem AtAll.length {H : Hp} : ∀ {vs : List V} {ds : List PyData}, AtAll H vs ds → vs.length = ds.length
  | _, _, .nil => rfl
  | _, _, .cons _ b => congrArg (· + 1) b.length
theorem AtAll.get {H : Hp} : ∀ {vs : List V} {ds : List PyData} {i : Nat} {v : V}, AtAll H vs ds → vs[i]? = some v → ∃ d, ds[i]? = some d ∧ At H v d
  | _, _, i, _, .nil, h => by simp at h
  | _, _, 0, _, .cons a _, h => by simp at h; subst h; exact ⟨_, rfl, a⟩
  | _, _, i + 1, v, .cons _ b, h => by
    obtain ⟨d, h1, h2⟩ := AtAll.get (i := i) (v := v) b (by simpa using h)
    exact ⟨d, by simpa using h1, h2⟩
theorem AtAll.append {H : Hp} : ∀ {vs ws : List V} {ds es : List PyData}, AtAll H vs ds → AtAll H ws es → AtAll H (vs ++ ws) (ds ++ es)
  | _, _, _, _, .nil, h => h
  | _, _, _, _, .cons a b, h => .cons a (b.append h)
mutual
theorem At.reads {P : Program} {w : World} {H : Hp} {h : Heap} (ok : HOk P w H h) : ∀ {v : V} {d : PyData} {u : Value}, At H v d → RelV v u → ∃ as, Reads h u d as
  | _, _, _, .non, r => by cases r; exact ⟨_, .none⟩
  | _, _, _, .bl b, r => by cases r; exact ⟨_, .bool b⟩
  | _, _, _, .int i, r => by obtain ⟨t, rfl⟩ := r; exact ⟨_, .int i t⟩
  | _, _, _, .str x, r => by obtain ⟨t, rfl⟩ := r; exact ⟨_, .str x t⟩
  | _, _, _, .lst e t, r => by
    cases r
    obtain ⟨z, its, n, rv, ho⟩ := ok _ _ e
    obtain ⟨as, q⟩ := AtAll.reads ok t rv
    exact ⟨_, .list ho rfl rfl (by simpa using q)⟩
  | _, _, _, .tup e t, r => by
    cases r
    obtain ⟨z, its, rv, o, ho, hc, n, hd⟩ := ok _ _ e
    obtain ⟨as, q⟩ := AtAll.reads ok t rv
    exact ⟨_, .tuple ho hc hd (by simpa using q)⟩
theorem AtAll.reads {P : Program} {w : World} {H : Hp} {h : Heap} (ok : HOk P w H h) : ∀ {vs : List V} {ds : List PyData} {us : List Value}, AtAll H vs ds → Vals vs us → ∃ as, ReadsAll h us ds as
  | _, _, _, .nil, .nil => ⟨_, .nil⟩
  | _, _, _, .cons a b, .cons r s => by
    obtain ⟨as, q⟩ := At.reads ok a r
    obtain ⟨bs, q2⟩ := AtAll.reads ok b s
    exact ⟨_, .cons q q2⟩
end
mutual
theorem At.noDict {H : Hp} : ∀ {v : V} {d : PyData}, At H v d → d.hasDict = false
  | _, _, .non => by simp [PyData.hasDict]
  | _, _, .bl b => by simp [PyData.hasDict]
  | _, _, .int i => by simp [PyData.hasDict]
  | _, _, .str x => by simp [PyData.hasDict]
  | _, _, .lst e t => by simp only [PyData.hasDict]; exact AtAll.noDict t
  | _, _, .tup e t => by simp only [PyData.hasDict]; exact AtAll.noDict t
theorem AtAll.noDict {H : Hp} : ∀ {vs : List V} {ds : List PyData}, AtAll H vs ds → PyData.hasDictAll ds = false
  | _, _, .nil => by simp [PyData.hasDictAll]
  | _, _, .cons a b => by simp only [PyData.hasDictAll, At.noDict a, AtAll.noDict b, Bool.or_self]
end
section
variable {X : Cx}
end

section
variable {X : Cx} {pins : List (Addr × Obj)} {σ : St} {H : Hp} {s : Shared} {h' : Heap}
theorem Inv.turnedL {ch : List Addr} {a : Addr} {o : HO} {t' : Nat} (I : Inv X pins σ H s) (k : ∀ b u, b ∉ ch → s.heap.get? b = some u → h'.get? b = some u) (hf : ∀ b ∈ ch, FpOk X pins H b)
    (hp : s.heap.objs.size ≤ a) (new : ObjOk X.prog X.w (upd H a o) h' a o) : Inv X pins σ (upd H a o) { s with heap := h', toks := t' } := by
  have hn : H a = none := I.hok.fresh hp
  have nit : ∀ b u, H b = some u → b ∉ ch := fun b u e z => by rw [(hf b z).1] at e; cases e
  refine I.step (g' := s.gens) (d' := s.drawn) (ch := ch) (fun b hb => ?_) (fun b u _ _ hc e _ => k b u hc e) (fun b u _ _ hc e _ => ⟨u.slots, k b u hc e⟩) (fun b u _ e n => ?_)
    (fun b u hc e => ⟨u, k b u hc e⟩) (fun b xs e => ?_) (fun b u xs e => ?_) (fun b ps e => ⟨#[], ?_⟩) (fun m hm => ?_) (fun b u e => ?_) I.bare
  · obtain ⟨_, f1, _, f3, f4, f5⟩ := hf b hb
    exact ⟨f3, f1, f4, f5⟩
  · rw [upd_ne (Nat.ne_of_lt (Nat.lt_of_lt_of_le (Heap.lt_size e) hp))]; exact n
  · rw [upd_ne (ne_of_none e hn)]; exact e
  · rw [upd_ne (ne_of_none e hn)]; exact e
  · rw [upd_ne (ne_of_none e hn), e]; simp
  · obtain ⟨ob, es, ep, ho, r⟩ := hm
    exact ⟨ob, es, ep, k _ ob (fun z => (hf _ z).2.1 rfl) ho, r⟩
  · by_cases hb : b = a
    · subst hb; rw [upd_same] at e; cases e; exact new
    · rw [upd_ne hb] at e
      refine (I.hok b u e).stay (fun c v hc q => k c v ?_ q) (fun c q => by rw [upd_ne (ne_of_none q hn)]; exact q) fun c xs q => by rw [upd_ne (ne_of_none q hn)]; exact q
      rcases hc with rfl | hc
      · exact nit _ u e
      · exact nit c _ hc
end

def Ite (K : PySem.W.Frag) (a : Addr) : It :=
  ⟨fun i H => ∃ xs x, SqL K H a xs ∧ xs[i]? = some x, fun i H x H' => ∃ p y, H p = none ∧ x = .ref p ∧ H' = upd H p (.tup [.int i, y]) ∧ ∀ xs, SqL K H a xs → xs[i]? = some y, fun i H => ∃ xs, SqL K H a xs ∧ xs.length ≤ i⟩
theorem turn_enum {P : Program} {w : World} {K : PySem.W.Frag} {es : List Expr} {k : Nat} {tp : Pos} (a e it : Addr) (hne : e ≠ it) :
    Turn P w K (.Tuple es k tp) (Ite K a) [e, it] e (fun i h => (∃ old, IsEnum h e it i old) ∧ h.IsListIter it a i) where
  mem := by simp
  obj := fun i h st b hb => by
    obtain ⟨⟨old, he⟩, o, ho, hc, hd⟩ := st
    have hb' : b = e ∨ b = it := by simpa using hb
    rcases hb' with rfl | rfl
    · exact ⟨_, he, fun v z => by
        have z' : Data.fields _ = Data.cell v := z
        cases z'⟩
    · exact ⟨o, ho, fun v z => by rw [hd] at z; cases z⟩
  keep := fun i h h' st kk => ⟨st.1.imp fun _ z => kk e (by simp) _ z, st.2.at fun o z => kk it (by simp) o z⟩
  item := by
    intro X hP hw hK hc i pins s σ H E I hf st hg
    subst hP hw hK
    obtain ⟨xs, x, hq, hx⟩ := hg
    obtain ⟨its, rv, p, hz⟩ := I.list hq
    obtain ⟨u, hu, ru⟩ := rv.get hx
    obtain ⟨⟨old, he⟩, hit⟩ := st
    refine wpAny_pyNext_enum_item he hit p.isList (x := u) (by simpa using hu) hne fun h' ho hit' hT hsz hk => ?_
    have hel : e < s.heap.objs.size := Heap.lt_size he
    have hil : it < s.heap.objs.size := by obtain ⟨_, z, _⟩ := hit; exact Heap.lt_size z
    refine ⟨_, rfl, wpAny_letOwnedTupleGo_enum ho fun h2 he2 hs2 => ?_⟩
    have keep2 : ∀ b ob, b ∉ [e, it] → s.heap.get? b = some ob → h2.get? b = some ob := fun b ob hb z => by
      have h1 : b ≠ e := fun q => hb (by simp [q])
      have h3 : b ≠ it := fun q => hb (by simp [q])
      exact (hs2.2 b h1).trans (hk b ob h1 h3 z)
    have hT2 : h2.get? s.heap.objs.size = some { cls := .type "tuple", data := .seq #[.int i s.toks, u] } := (hs2.2 _ (Nat.ne_of_gt hel)).trans hT
    have fresh : H s.heap.objs.size = none := I.hok.fresh (Nat.le_refl _)
    have new : ObjOk X.prog X.w (upd H s.heap.objs.size (.tup [.int i, x])) h2 s.heap.objs.size (.tup [.int i, x]) :=
      ⟨by show 2 ≤ sizeLine; decide, [.int i s.toks, u], .cons ⟨_, rfl⟩ (.cons ru .nil), ⟨_, hT2, rfl, _, rfl⟩⟩
    refine ⟨.ref s.heap.objs.size, upd H s.heap.objs.size (.tup [.int i, x]), I.turnedL keep2 hf (Nat.le_refl _) new, rfl, ⟨_, x, fresh, rfl, rfl, fun ys hy => by rw [I.list_inj hy hq]; exact hx⟩, ⟨⟨_, by simpa using he2⟩, hit'.at fun o z => (hs2.2 it hne.symm).trans z⟩, fun b hb => ?_⟩
    rw [upd_ne]
    · exact (hf b hb).1
    · have hb' : b = e ∨ b = it := by simpa using hb
      rcases hb' with rfl | rfl
      · exact Nat.ne_of_lt hel
      · exact Nat.ne_of_lt hil
  done := by
    intro X hP hw hK hc i pins s σ H E I hf st hg
    subst hP hw hK
    obtain ⟨xs, hq, hx⟩ := hg
    obtain ⟨its, rv, p, hz⟩ := I.list hq
    obtain ⟨⟨old, he⟩, hit⟩ := st
    have hl := rv.length
    obtain ⟨f0, f1, f2, f3, f4, f5⟩ := hf it (by simp)
    exact wpAny_pyNext_enum_end (I.ok.hd hc) he hit p.isList (by simp; omega) fun h' eb => ⟨rfl, I.turned (t' := s.toks) (fun b o hb z => eb b o hb z) f0 f1 f3 f4 f5⟩
  self := fun _ _ _ _ _ st h => wpAny_pyIter_enum st.1.choose_spec h
def iEnum (K : PySem.W.Frag) (ta : TA) : TI := fun σ H R => ta σ H fun vs H1 => ∃ a xs, vs = [.ref a] ∧ SqL K H1 a xs ∧ R (Ite K a) H1
section
variable {X : Cx}
theorem pi_enum {a : Expr} {ta : TA} {p pos tp : Pos} {es : List Expr} {k : Nat} (hg : Gl X "enumerate") (hm : X.mg "enumerate" = none) (ha : PA X [a] ta) (hs : starEach [a] X.env = [(false, eval a X.env)] := by rfl) :
    PI X (.Tuple es k tp) (.Call (.Name "enumerate" p) [a] [] pos) (iEnum X.K ta) := by
  intro pins s σ H R I h
  refine Call_ (ld_blt I hg hm boot_enumerate (PyProof.Rows.callWith_type1 (thn (ha pos pins s σ H _ I h) fun us s1 ⟨vs, H1, I1, r1, q1⟩ => ?_) hs rfl))
  obtain ⟨l, xs, e, hq, q⟩ := q1
  subst e
  cases r1 with
  | cons r rr =>
    cases rr
    cases r
    obtain ⟨its, rv, pl, hz⟩ := I1.list hq
    refine call_enumerate_list pl.isList fun h' he hit hsz hk => ?_
    refine wpAny_pyIter_enum he ⟨_, [s1.heap.objs.size + 1, s1.heap.objs.size], _, Ite X.K l, H1, rfl, I1.kept (t' := s1.toks) hk, turn_enum l (s1.heap.objs.size + 1) s1.heap.objs.size (Nat.succ_ne_self _), ⟨⟨_, he⟩, hit⟩, fun b hb => ?_, q⟩
    have hb' : b = s1.heap.objs.size + 1 ∨ b = s1.heap.objs.size := by simpa using hb
    rcases hb' with rfl | rfl
    · exact I1.fpOk (Nat.le_succ _) (I1.hok.fresh (Nat.le_succ _))
    · exact I1.fpOk (Nat.le_refl _) (I1.hok.fresh (Nat.le_refl _))
end
theorem for_enum {K : PySem.W.Frag} {a : Addr} {xs : List V} {g : TG} {tb : TS} {D : Ends} {σ : St} {H : Hp} (Pv : Nat → St → Hp → Prop) (h0 : Pv 0 σ H) (hl : ∀ i σ H, i ≤ xs.length → Pv i σ H → SqL K H a xs)
    (hs : ∀ i x p σ H, xs[i]? = some x → Pv i σ H → H p = none → g (.ref p) σ (upd H p (.tup [.int i, x])) fun σ2 H2 => tb { D with nx := Pv (i + 1), ct := Pv (i + 1), bk := D.nx } σ2 H2) (hd : ∀ σ H, Pv xs.length σ H → D.nx σ H) :
    ∃ W : Nat → Nat → St → Hp → Prop, (∃ m, W 0 m σ H) ∧ ∀ i m σ H, W i m σ H →
      ((Ite K a).stop i H ∧ D.nx σ H) ∨ ((Ite K a).go i H ∧ ∃ N : St → Hp → Prop, (∀ σ' H', N σ' H' → ∃ m', m' < m ∧ W (i + 1) m' σ' H') ∧ ∀ x H', (Ite K a).yld i H x H' → g x σ H' fun σ2 H2 => tb { D with nx := N, ct := N, bk := D.nx } σ2 H2) := by
  refine ⟨fun i m σ H => m = xs.length - i ∧ i ≤ xs.length ∧ Pv i σ H, ⟨xs.length, by simp, Nat.zero_le _, h0⟩, ?_⟩
  rintro i m σ H ⟨rfl, hi, p⟩
  have q := hl i σ H hi p
  by_cases hlt : i < xs.length
  · refine .inr ⟨⟨xs, xs[i], q, by simp [hlt]⟩, Pv (i + 1), fun σ' H' p' => ⟨xs.length - (i + 1), by omega, rfl, hlt, p'⟩, fun x H' y => ?_⟩
    obtain ⟨pp, z, hn, e1, e2, y⟩ := y
    subst e1 e2
    exact hs i z pp σ _ (y xs q) p hn
  · have e : i = xs.length := by omega
    subst e
    exact .inl ⟨⟨xs, q, Nat.le_refl _⟩, hd σ H p⟩

def Its (lo step : Int) (n : Nat) : It := ⟨fun i _ => i < n, fun i H x H' => H' = H ∧ x = .int (lo + i * step), fun i _ => n ≤ i⟩
theorem turn_range3 {P : Program} {w : World} {K : PySem.W.Frag} {tg : Expr} (it : Addr) (lo c : Int) (n : Nat) : Turn P w K tg (Its lo c n) [it] it (fun i h => IsRangeIter h it (lo + (i : Nat) * c) ((n : Int) - (i : Nat)) c) where
  mem := by simp
  obj := fun i h st b hb => by
    have e : b = it := by simpa using hb
    subst e
    exact ⟨_, st, fun v z => by
      have z' : Data.fields _ = Data.cell v := z
      cases z'⟩
  keep := fun i h h' st k => k it (by simp) _ st
  item := by
    intro X hP hw hK hc i pins s σ H E I hf st hg
    subst hP hw hK
    obtain ⟨f0, f1, f2, f3, f4, f5⟩ := hf it (by simp)
    have W := Walks.range (prog := X.prog) (w := X.w) (I.ok.hd hc) it lo c n
    refine W.item i s _ _ hg st fun v h' tk hv st' kk => ?_
    obtain ⟨t, rfl⟩ := hv
    have I1 : Inv X pins σ H { s with heap := h', toks := tk } := I.turned (fun b o hb e => kk b o (by simpa using hb) e) f0 f1 f3 f4 f5
    exact ⟨_, rfl, go_of (s := { s with heap := h', toks := tk }) (n := "range_iterator") st' rfl rfl (by decide) ⟨.int (lo + i * c), H, I1, ⟨t, rfl⟩, ⟨rfl, rfl⟩, st', fun b hb => (hf b hb).1⟩⟩
  done := by
    intro X hP hw hK hc i pins s σ H E I hf st hg
    subst hP hw hK
    obtain ⟨f0, f1, f2, f3, f4, f5⟩ := hf it (by simp)
    exact wpAny_pyNext_range_end (I.ok.hd hc) st (by have : n ≤ i := hg; omega) fun h' eb => ⟨rfl, I.turned (t' := s.toks) (fun b o hb e => eb b o hb e) f0 f1 f3 f4 f5⟩
  self := fun _ _ _ _ _ st h => wpAny_pyIter_rangeiter st h
/-- how many: lo, lo + c, .. below hi -/
def rcount (lo hi c : Int) : Nat := if lo < hi then ((hi - lo - 1) / c + 1).toNat else 0
def iRng3 (ta : TA) : TI := fun σ H R => ta σ H fun vs H1 => ∃ i j c : Int, vs = [.int i, .int j, .int c] ∧ (-(2 ^ 60) ≤ i ∧ i < 2 ^ 60 ∧ -(2 ^ 60) ≤ j ∧ j < 2 ^ 60 ∧ 0 < c ∧ c < 1073741824) ∧ R (Its i c (rcount i j c)) H1
theorem rangeSize_pos {lo hi c : Int} (hc : 0 < c) : Builtin.Range.rangeSize lo hi c = (rcount lo hi c : Int) := by
  have hq : lo < hi → 0 ≤ (hi - lo - 1) / c := fun h => Int.ediv_nonneg (by omega) (by omega)
  unfold Builtin.Range.rangeSize rcount
  rw [if_pos (show c > 0 from hc)]
  by_cases h : lo < hi
  · rw [if_pos h, if_pos h]
    have := hq h
    omega
  · rw [if_neg h, if_neg h]
    rfl
theorem small_pos {lo hi c : Int} (h : -(2 ^ 60) ≤ lo ∧ lo < 2 ^ 60 ∧ -(2 ^ 60) ≤ hi ∧ hi < 2 ^ 60 ∧ 0 < c ∧ c < 1073741824) : Builtin.Range.small lo hi c = true := by
  obtain ⟨h1, h2, h3, h4, h5, h6⟩ := h
  have hs := rangeSize_pos (lo := lo) (hi := hi) h5
  have hle : (rcount lo hi c : Int) ≤ 2 ^ 61 := by
    unfold rcount
    by_cases h : lo < hi
    · rw [if_pos h]
      have a1 : (hi - lo - 1) / c ≤ hi - lo - 1 := Int.ediv_le_self _ (by omega)
      omega
    · rw [if_neg h]; decide
  unfold Builtin.Range.small
  rw [hs]
  simp only [Builtin.Range.rangeFitsLong, Bool.and_eq_true, Bool.or_eq_true, decide_eq_true_eq, beq_iff_eq, show c > 0 from h5, if_true]
  refine ⟨⟨⟨⟨?_, ?_⟩, ?_⟩, ?_⟩, .inr ?_⟩ <;> constructor <;> omega
section
variable {X : Cx} {tg : Expr}
theorem pi_range3 {a b c : Expr} {ta : TA} {p pos : Pos} (hg : Gl X "range") (hm : X.mg "range" = none) (ha : PA X [a, b, c] ta) (hs : starEach [a, b, c] X.env = (false, eval a X.env) :: starEach [b, c] X.env := by rfl)
    (hs2 : (backTo pos (starEach [b, c] X.env)).any (·.1) = false := by rfl) :
    PI X tg (.Call (.Name "range" p) [a, b, c] [] pos) (iRng3 ta) := by
  intro pins s σ H R I h
  refine Call_ (ld_blt I hg hm boot_range (PyProof.Rows.callWith_type1 (thn (ha pos pins s σ H _ I h) fun us s1 ⟨vs, H1, I1, r1, q1⟩ => ?_) hs hs2))
  obtain ⟨i, j, c, e, hb, q⟩ := q1
  subst e
  cases r1 with
  | cons r rr =>
    cases rr with
    | cons r' rr =>
      cases rr with
      | cons r2 rr =>
        cases rr
        obtain ⟨t, rfl⟩ := r
        obtain ⟨t', rfl⟩ := r'
        obtain ⟨t2, rfl⟩ := r2
        obtain ⟨b1, b2, b3, b4, b5, b6⟩ := id hb
        refine call_range_3 (by omega) ?_ (.inl (PyProof.noPylong_small (by omega)))
        refine wpAny_pyIter_range (IsRange.new ..) (small_pos hb) ?_
        have I2 : Inv X pins σ H1 { s1 with heap := s1.heap.push { cls := .type "range", data := .fields #[.int i t, .int j t', .int c t2] }, toks := s1.toks } := I1.kept fun b o e => Heap.get?_push_of_some _ e
        refine ⟨(s1.heap.push { cls := .type "range", data := .fields #[.int i t, .int j t', .int c t2] }).objs.size, [(s1.heap.push { cls := .type "range", data := .fields #[.int i t, .int j t', .int c t2] }).objs.size], _, _, H1, rfl,
          I2.kept (t' := s1.toks) fun b o e => Heap.get?_push_of_some _ e, turn_range3 _ i c (rcount i j c), ?_, fun b hb => ?_, q⟩
        · have e1 : i + ((0 : Nat) : Int) * c = i := by simp
          have e2 : ((rcount i j c : Nat) : Int) - ((0 : Nat) : Int) = Builtin.Range.rangeSize i j c := by rw [rangeSize_pos b5]; omega
          show IsRangeIter _ _ (i + ((0 : Nat) : Int) * c) (((rcount i j c : Nat) : Int) - ((0 : Nat) : Int)) c
          rw [e1, e2]
          exact Heap.get?_push_size _ rfl
        · have e : b = (s1.heap.push { cls := .type "range", data := .fields #[.int i t, .int j t', .int c t2] }).objs.size := by simpa using hb
          subst e
          exact I2.fpOk (Nat.le_refl _) (I2.hok.fresh (Nat.le_refl _))
end
theorem for_range3 {lo c : Int} {n : Nat} {g : TG} {tb : TS} {D : Ends} {σ : St} {H : Hp} (Pv : Nat → St → Hp → Prop) (h0 : Pv 0 σ H)
    (hs : ∀ i σ H, i < n → Pv i σ H → g (.int (lo + i * c)) σ H fun σ2 H2 => tb { D with nx := Pv (i + 1), ct := Pv (i + 1), bk := D.nx } σ2 H2) (hd : ∀ σ H, Pv n σ H → D.nx σ H) :
    ∃ W : Nat → Nat → St → Hp → Prop, (∃ m, W 0 m σ H) ∧ ∀ i m σ H, W i m σ H →
      ((Its lo c n).stop i H ∧ D.nx σ H) ∨ ((Its lo c n).go i H ∧ ∃ N : St → Hp → Prop, (∀ σ' H', N σ' H' → ∃ m', m' < m ∧ W (i + 1) m' σ' H') ∧ ∀ x H', (Its lo c n).yld i H x H' → g x σ H' fun σ2 H2 => tb { D with nx := N, ct := N, bk := D.nx } σ2 H2) := by
  refine ⟨fun i m σ H => m = n - i ∧ i ≤ n ∧ Pv i σ H, ⟨n, by simp, Nat.zero_le _, h0⟩, ?_⟩
  rintro i m σ H ⟨rfl, hi, p⟩
  by_cases hlt : i < n
  · refine .inr ⟨hlt, Pv (i + 1), fun σ' H' p' => ⟨n - (i + 1), by omega, rfl, hlt, p'⟩, fun x H' y => ?_⟩
    obtain ⟨e, y⟩ := y
    subst e y
    exact hs i σ _ hlt p
  · have e : i = n := by omega
    subst e
    exact .inl ⟨Nat.le_refl _, hd σ H p⟩
end L2
set_option Elab.async false
set_option linter.all false
set_option maxRecDepth 100000
namespace L2
open PySem PySem.Spec PyProof.Rows

def clOf (cells : List (Str × Addr)) : List (Str × NameKind) → List (Str × Addr) → List (Str × Addr)
  | [], cs => cs
  | (n, k) :: r, cs => if k = .free then clOf cells r ((n, (cells.lookup n).getD 0) :: cs) else clOf cells r cs
theorem closureFor_clOf {scope : Scope} {env : Env} (h : ∀ x ∈ scope.names, x.2 = .free → ∃ c, env.cells.lookup x.1 = some c) : closureFor scope env = pure (clOf env.cells scope.names []) := by
  unfold closureFor
  generalize hn : scope.names = names at h
  suffices hh : ∀ (l : List (Str × NameKind)) (cs : List (Str × Addr)), (∀ x ∈ l, x.2 = .free → ∃ c, env.cells.lookup x.1 = some c) →
      (forIn l cs (fun (x : Str × NameKind) r => if (x.2 == NameKind.free) = true then (do let a ← cellOf env x.1; pure (ForInStep.yield ((x.1, a) :: r))) else pure (ForInStep.yield r)) : Sem (List (Str × Addr))) = pure (clOf env.cells l cs) by
    have := hh names [] h
    simp only [bind_pure]
    exact this
  intro l
  induction l with
  | nil => intro cs _; rfl
  | cons x l ih =>
    intro cs hl
    obtain ⟨n, k⟩ := x
    rw [List.forIn_cons]
    by_cases hk : k = .free
    · subst hk
      obtain ⟨c, hc⟩ := hl (n, .free) List.mem_cons_self rfl
      have e1 : cellOf env n = pure c := by unfold cellOf; rw [hc]
      have ec : clOf env.cells ((n, NameKind.free) :: l) cs = clOf env.cells l ((n, c) :: cs) := by
        show (if NameKind.free = NameKind.free then _ else _) = _
        rw [if_pos rfl, hc]; rfl
      rw [ec]
      simp only [e1, pure_bind, beq_self_eq_true, if_true]
      exact ih _ fun y hy => hl y (List.mem_cons_of_mem _ hy)
    · have hb : (k == NameKind.free) = false := by cases k <;> first | rfl | exact absurd rfl hk
      have ec : clOf env.cells ((n, k) :: l) cs = clOf env.cells l cs := by
        show (if k = NameKind.free then _ else _) = _
        rw [if_neg hk]
      rw [ec]
      simp only [hb, pure_bind, Bool.false_eq_true, if_false]
      exact ih _ fun y hy => hl y (List.mem_cons_of_mem _ hy)
theorem clOf_sound {cells : List (Str × Addr)} : ∀ {l : List (Str × NameKind)} {cs : List (Str × Addr)}, (∀ x ∈ l, x.2 = .free → ∃ c, cells.lookup x.1 = some c) → (∀ p ∈ cs, cells.lookup p.1 = some p.2) → ∀ p ∈ clOf cells l cs, cells.lookup p.1 = some p.2
  | [], _, _, h => h
  | (n, k) :: r, cs, hl, h => by
    unfold clOf
    split
    · rename_i hk
      refine clOf_sound (fun x hx => hl x (List.mem_cons_of_mem _ hx)) fun p hp => ?_
      rcases List.mem_cons.mp hp with rfl | hp
      · obtain ⟨c, hc⟩ := hl (n, k) List.mem_cons_self hk
        show cells.lookup n = some ((cells.lookup n).getD 0)
        have hc' : cells.lookup n = some c := hc
        rw [hc']; rfl
      · exact h p hp
    · exact clOf_sound (fun x hx => hl x (List.mem_cons_of_mem _ hx)) h
theorem lookup_of_mem {l : List (Str × Addr)} {x : Str} (h : ∃ c, (x, c) ∈ l) : ∃ c, l.lookup x = some c := by
  obtain ⟨c, h⟩ := h
  induction l with
  | nil => cases h
  | cons p r ih =>
    obtain ⟨y, d⟩ := p
    by_cases e : (x == y) = true
    · exact ⟨d, by rw [List.lookup_cons, e]⟩
    · have e' : (x == y) = false := by simpa using e
      rcases List.mem_cons.mp h with q | q
      · cases q; exact absurd (beq_self_eq_true _) e
      · obtain ⟨c', z⟩ := ih q
        exact ⟨c', by rw [List.lookup_cons, e']; exact z⟩
theorem clOf_has {cells : List (Str × Addr)} {x : Str} : ∀ {l : List (Str × NameKind)} {cs : List (Str × Addr)}, ((x, NameKind.free) ∈ l ∨ ∃ c, (x, c) ∈ cs) → ∃ c, (x, c) ∈ clOf cells l cs
  | [], _, h => by
    rcases h with h | h
    · cases h
    · exact h
  | (n, k) :: r, cs, h => by
    unfold clOf
    split
    · rename_i hk
      refine clOf_has ?_
      rcases h with h | ⟨c, h⟩
      · rcases List.mem_cons.mp h with q | q
        · cases q; exact .inr ⟨_, List.mem_cons_self⟩
        · exact .inl q
      · exact .inr ⟨c, List.mem_cons_of_mem _ h⟩
    · rename_i hk
      refine clOf_has ?_
      rcases h with h | h
      · rcases List.mem_cons.mp h with q | q
        · cases q; exact absurd rfl hk
        · exact .inl q
      · exact .inr h
theorem relabel_free {env : Env} {x : Str} : ∀ {l : List (Str × NameKind)}, l.lookup x = some .free →
    (l.map fun (n, k) => if (k == NameKind.free && env.scope.kind == .function && env.kindOf n == some .cell) then (n, NameKind.cell) else (n, k)).lookup x = some .cell ∨
    (l.map fun (n, k) => if (k == NameKind.free && env.scope.kind == .function && env.kindOf n == some .cell) then (n, NameKind.cell) else (n, k)).lookup x = some .free
  | [], h => by simp at h
  | (n, k) :: r, h => by
    rw [List.map_cons]
    cases hx : x == n with
    | true =>
      rw [List.lookup_cons, hx] at h
      cases h
      by_cases hc : (NameKind.free == NameKind.free && env.scope.kind == .function && env.kindOf n == some .cell) = true
      · left; simp only [hc, if_true, List.lookup_cons, hx]
      · right; simp only [hc, Bool.false_eq_true, if_false, List.lookup_cons, hx]
    | false =>
      rw [List.lookup_cons, hx] at h
      have ih := relabel_free (env := env) (l := r) h
      by_cases hc : (k == NameKind.free && env.scope.kind == .function && env.kindOf n == some .cell) = true
      · simp only [hc, if_true, List.lookup_cons, hx]; exact ih
      · simp only [hc, Bool.false_eq_true, if_false, List.lookup_cons, hx]; exact ih
theorem relabel_inv {env : Env} {x : Str} : ∀ {l : List (Str × NameKind)}, (∀ y ∈ l, y.2 ≠ .cell) →
    ((l.map fun (n, k) => if (k == NameKind.free && env.scope.kind == .function && env.kindOf n == some .cell) then (n, NameKind.cell) else (n, k)).lookup x = some .cell ∨
    (l.map fun (n, k) => if (k == NameKind.free && env.scope.kind == .function && env.kindOf n == some .cell) then (n, NameKind.cell) else (n, k)).lookup x = some .free) → (x, NameKind.free) ∈ l
  | [], _, h => by simp at h
  | (n, k) :: r, hn, h => by
    rw [List.map_cons] at h
    cases hx : x == n with
    | true =>
      have e : x = n := by simpa using hx
      subst e
      by_cases hc : (k == NameKind.free && env.scope.kind == .function && env.kindOf x == some .cell) = true
      · have : k = .free := by
          simp only [Bool.and_eq_true, beq_iff_eq] at hc
          exact hc.1.1
        subst this
        exact List.mem_cons_self
      · simp only [hc, Bool.false_eq_true, if_false, List.lookup_cons, hx, Option.some.injEq] at h
        rcases h with h | h
        · exact absurd h (hn (x, k) List.mem_cons_self)
        · subst h; exact List.mem_cons_self
    | false =>
      have h' : (r.map fun (n, k) => if (k == NameKind.free && env.scope.kind == .function && env.kindOf n == some .cell) then (n, NameKind.cell) else (n, k)).lookup x = some .cell ∨
          (r.map fun (n, k) => if (k == NameKind.free && env.scope.kind == .function && env.kindOf n == some .cell) then (n, NameKind.cell) else (n, k)).lookup x = some .free := by
        by_cases hc : (k == NameKind.free && env.scope.kind == .function && env.kindOf n == some .cell) = true
        · simp only [hc, if_true, List.lookup_cons, hx] at h; exact h
        · simp only [hc, Bool.false_eq_true, if_false, List.lookup_cons, hx] at h; exact h
      exact List.mem_cons_of_mem _ (relabel_inv (fun y hy => hn y (List.mem_cons_of_mem _ hy)) h')

def cxComp (X : Cx) (M : List Str) (scope : Scope) (C : Addr) (fp : List Addr) (s2 : Shared) (H2 : Hp) : Cx :=
  { prog := X.prog, w := X.w, K := X.K, mg := X.mg, base := X.base, A := X.A, N := M, s₀ := s2, H₀ := H2, env := compEnvC scope (clOf X.env.cells scope.names []) C X.env,
    outer := X.stack, stack := X.stack, ex := fp, fn := fun _ => false, calm := X.calm, pn := [], xe := fun _ _ => False }
/-- the block's names at a turn's start: its own are not known, the others as in the def (slot j) -/
def capS (ix : List (Option Nat)) (σ : St) : St := ix.map fun o => match o with
  | none => none
  | some j => (σ[j]?).getD none
structure CompOk (N M : List Str) (ix : List (Option Nat)) (sc xs : Scope) : Prop where
  kind : sc.kind = .function
  len : M.length = ix.length
  nocell : ∀ y ∈ sc.names, y.2 ≠ .cell
  loc : ∀ y ∈ sc.names, y.2 = .local → sc.names.lookup y.1 = some .local
  fr : ∀ y ∈ sc.names, y.2 = .free → xs.names.lookup y.1 = some .cell ∨ xs.names.lookup y.1 = some .free
  cap : ∀ (i : Nat) (j : Nat), ix[i]? = some (some j) → ∃ x, M[i]? = some x ∧ N[j]? = some x ∧ sc.names.lookup x = some .free
def compOkB (N M : List Str) (ix : List (Option Nat)) (sc xs : Scope) : Bool :=
  decide (sc.kind = .function) && decide (M.length = ix.length) && sc.names.all (fun y => decide (y.2 ≠ .cell)) && sc.names.all (fun y => decide (y.2 ≠ .local) || decide (sc.names.lookup y.1 = some .local)) &&
  sc.names.all (fun y => decide (y.2 ≠ .free) || decide (xs.names.lookup y.1 = some .cell) || decide (xs.names.lookup y.1 = some .free)) &&
  (List.range ix.length).all (fun i => match ix[i]? with
    | some (some j) => match M[i]? with
      | some x => decide (N[j]? = some x) && decide (sc.names.lookup x = some .free)
      | none => false
    | _ => true)
theorem compOk_of {N M : List Str} {ix : List (Option Nat)} {sc xs : Scope} (h : compOkB N M ix sc xs = true) : CompOk N M ix sc xs := by
  unfold compOkB at h
  simp only [Bool.and_eq_true, List.all_eq_true, decide_eq_true_eq, Bool.or_eq_true] at h
  obtain ⟨⟨⟨⟨⟨h1, h2⟩, h3⟩, h4⟩, h5⟩, h6⟩ := h
  refine ⟨h1, h2, h3, fun y hy e => ?_, fun y hy e => ?_, fun i j e => ?_⟩
  · rcases h4 y hy with q | q
    · exact absurd e q
    · exact q
  · rcases h5 y hy with (q | q) | q
    · exact absurd e q
    · exact .inl q
    · exact .inr q
  · have hi : i < ix.length := (List.getElem?_eq_some_iff.mp e).1
    have q := h6 i (List.mem_range.mpr hi)
    rw [e] at q
    cases hm : M[i]? with
    | none => rw [hm] at q; cases q
    | some x =>
      rw [hm] at q
      simp only [Bool.and_eq_true, decide_eq_true_eq] at q
      exact ⟨x, rfl, q.1, q.2⟩

section
variable {X : Cx}
def PTs (X : Cx) (ifs : List Expr) (t : TT) : Prop :=
  ∀ (pins : List (Addr × Obj)) (s : Shared) (σ : St) (H : Hp) (Q : Bool → Hp → Prop), Inv X pins σ H s → t σ H Q →
    wpAny (model X.prog X.w) X.A (forIn ifs true fun c r => if r = true then do let ok ← isTrue c X.env (eval c X.env); pure (ForInStep.yield ok) else pure (ForInStep.yield r)) (TP X pins σ Q) X.xe s
def tYes : TT := fun _ H Q => Q true H
theorem pts_nil : PTs X [] tYes := fun _ _ _ H _ I h => wpAny_tests_nil ⟨H, I, h⟩
theorem pts_one {c : Expr} {t : TT} (h : PT X c t) : PTs X [c] t := fun pins s σ H Q I hq => wpAny_tests_one (h pins s σ H Q I hq)
end
theorem Un.butNew {fs ex : List Addr} {H H' : Hp} {h h1 h2 : Heap} {C : Addr} (u : Un fs ex H H' h h1) (hC : h.objs.size ≤ C) (sb : Heap.SameBut C h1 h2) : Un fs ex H H' h h2 := by
  have ne : ∀ b o, h.get? b = some o → b ≠ C := fun b o e => Nat.ne_of_lt (Nat.lt_of_lt_of_le (Heap.lt_size e) hC)
  refine ⟨fun b o e n h3 h4 => (sb.2 b (ne b o e)).trans (u.keep b o e n h3 h4), fun b o e n h3 h4 => ?_, u.free, fun b o e h4 => ?_, u.tups, u.frzs, u.tbls⟩
  · obtain ⟨sl, q⟩ := u.slot b o e n h3 h4
    exact ⟨sl, (sb.2 b (ne b o e)).trans q⟩
  · obtain ⟨o', q⟩ := u.there b o e h4
    exact ⟨o', (sb.2 b (ne b o e)).trans q⟩
section
variable {X : Cx} {pins : List (Addr × Obj)} {σ : St} {H2 : Hp} {s2 : Shared} {M : List Str} {ix : List (Option Nat)} {scope : Scope} {fp : List Addr}
theorem comp_ok {C : Addr} (I : Inv X pins σ H2 s2) (ck : CompOk X.N M ix scope X.env.scope) (hC : s2.heap.objs.size ≤ C) (f2 : ∀ b ∈ fp, FpOk X pins H2 b) (hfp : ∀ b ∈ fp, b < s2.heap.objs.size) : (cxComp X M scope C fp s2 H2).Ok := by
  have hfree : ∀ x ∈ scope.names, x.2 = .free → ∃ c, X.env.cells.lookup x.1 = some c := fun x hx e => I.ok.has x.1 (ck.fr x hx e)
  have snd : ∀ x c, (clOf X.env.cells scope.names []).lookup x = some c → X.env.cells.lookup x = some c := fun x c e => clOf_sound (cs := []) hfree (by intro p hp; cases hp) (x, c) (PySem.mem_of_lookup e)
  refine ⟨I.ok.mod, ck.kind, I.ok.glob, I.ok.blt, hC, fun x y c h1 h2 => I.ok.inj x y c (snd x c h1) (snd y c h2), fun x hx => ?_, (by intro x c h; cases h), I.ok.hd, I.ok.frames, .inl rfl, fun b hb => ⟨?_, fun x c e => ?_⟩, fun b o e => I.bs b o e,
    Nat.le_trans I.ok.bsz I.sz, fun b o e hb => ?_, fun b hb hb2 => ?_, I.stack, I.stkFree⟩
  · exact lookup_of_mem (clOf_has (.inl (relabel_inv ck.nocell hx)))
  · exact Nat.ne_of_lt (Nat.lt_of_lt_of_le (hfp b hb) hC)
  · exact (f2 b hb).2.2.2.2.1 x c (snd x c e)
  · rcases (f2 b hb).2.2.2.1 with z | z
    · exact I.ok.noex b o e z
    · exact absurd (Nat.lt_of_lt_of_le (Heap.lt_size e) (Nat.le_trans I.ok.bsz z)) (Nat.lt_irrefl _)
  · obtain ⟨_, n1, n2, _⟩ := f2 b hb
    rcases List.mem_cons.mp (I.stkSub b hb2) with z | z
    · exact n1 z
    · exact n2 z
theorem comp_inv {C D : Addr} {h1 : Heap} {tk : Nat} (I : Inv X pins σ H2 s2) (ck : CompOk X.N M ix scope X.env.scope) (hC : s2.heap.objs.size ≤ C) (hD : s2.heap.objs.size ≤ D) (hDC : C ≠ D) (f2 : ∀ b ∈ fp, FpOk X pins H2 b) (hfp : ∀ b ∈ fp, b < s2.heap.objs.size)
    (old : ∀ b o, s2.heap.get? b = some o → h1.get? b = some o) (hn : h1.Ns C fun _ => none) (hnew : h1.get? D = some { cls := .type "list", data := .seq #[] }) :
    Inv (cxComp X M scope C fp s2 H2) [] (capS ix σ) (upd H2 D (.lst [])) { s2 with heap := h1, toks := tk } := by
  have hfree : ∀ x ∈ scope.names, x.2 = .free → ∃ c, X.env.cells.lookup x.1 = some c := fun x hx e => I.ok.has x.1 (ck.fr x hx e)
  have snd : ∀ x c, (clOf X.env.cells scope.names []).lookup x = some c → X.env.cells.lookup x = some c := fun x c e => clOf_sound (cs := []) hfree (by intro p hp; cases hp) (x, c) (PySem.mem_of_lookup e)
  have fD : H2 D = none := I.hok.fresh hD
  refine ⟨comp_ok I ck hC f2 hfp, rfl, I.bare, Un.laid old hD fD, ⟨_, hn, fun i x v e1 e2 e3 => ?_⟩, fun x c e => ?_, ?_, fun x c e => ?_, (by intro p hp; cases hp), I.hok.laid (o := .lst []) old hD ⟨Nat.zero_le _, [], 0, .nil, hnew⟩, ?_⟩
  · obtain ⟨j, hj, hv⟩ : ∃ j, ix[i]? = some (some j) ∧ σ[j]? = some (some v) := by
      unfold capS at e2
      rw [List.getElem?_map] at e2
      cases q : ix[i]? with
      | none => rw [q] at e2; cases e2
      | some o =>
        rw [q] at e2
        cases o with
        | none => cases e2
        | some j =>
          refine ⟨j, rfl, ?_⟩
          have e2' : (σ[j]?).getD none = some v := Option.some.inj e2
          cases z : σ[j]? with
          | none => rw [z] at e2'; cases e2'
          | some y => rw [z] at e2'; rw [show y = some v from e2']
    obtain ⟨y, hm, hN, hf⟩ := ck.cap i j hj
    have e1' : M[i]? = some x := e1
    rw [hm] at e1'; cases e1'
    obtain ⟨m, hnl, hl⟩ := I.loc
    have hmem : (x, NameKind.free) ∈ scope.names := PySem.mem_of_lookup hf
    have hk := ck.fr _ hmem rfl
    obtain ⟨u, ru, lk⟩ := hl j x v hN hv (hk.elim (fun z => .inr (.inl z)) fun z => .inr (.inr z))
    refine ⟨u, ru, .inr ⟨relabel_free hf, ?_⟩⟩
    rcases lk with ⟨kl, _⟩ | ⟨_, c, hc, hcell⟩
    · have kl' : X.env.scope.names.lookup x = some .local := kl
      rcases hk with z | z
      · rw [z] at kl'; cases kl'
      · rw [z] at kl'; cases kl'
    · obtain ⟨c2, h2⟩ := lookup_of_mem (clOf_has (cells := X.env.cells) (cs := []) (.inl hmem))
      have h3 := snd x c2 h2
      rw [hc] at h3; cases h3
      obtain ⟨o, ho, hd⟩ := hcell
      exact ⟨c, h2, o, old c o ho, hd⟩
  · obtain ⟨v, o, ho, hd⟩ := I.cell x c (snd x c e)
    exact ⟨v, o, old c o ho, hd⟩
  · show upd H2 D (.lst []) C = none
    rw [upd_ne hDC]
    exact I.hok.fresh hC
  · show upd H2 D (.lst []) c = none
    obtain ⟨v, z⟩ := I.cell x c (snd x c e)
    rw [upd_ne (Nat.ne_of_lt (Nat.lt_of_lt_of_le z.lt hD))]
    exact I.freeC x c (snd x c e)
  · show (capS ix σ).length = M.length
    unfold capS
    rw [List.length_map, ck.len]
theorem comp_back {C : Addr} {σ' : St} {H' : Hp} {s' : Shared} {h2 : Heap} {pl : List (Addr × Obj)} (I : Inv X pins σ H2 s2) (J : Inv (cxComp X M scope C fp s2 H2) pl σ' H' s') (f2 : ∀ b ∈ fp, FpOk X pins H2 b) (sb : Heap.SameBut C s'.heap h2) : Inv X pins σ H' { s' with heap := h2 } := by
  have hC : s2.heap.objs.size ≤ C := J.ok.above
  refine I.call' (s' := { s' with heap := h2 }) (ch := fp) J.os (Un.butNew J.base hC sb) (fun a o e => ?_) J.bare fun b hb => ?_
  · have fr : H' C = none := J.free
    refine (J.hok a o e).stay (fun c v hc q => (sb.2 c ?_).trans q) (fun _ q => q) fun _ _ q => q
    rintro rfl
    rcases hc with z | z
    · rw [← z, fr] at e; cases e
    · rw [fr] at z; cases z
  · obtain ⟨_, n1, _, n3, n4, n5⟩ := f2 b hb
    exact ⟨n3, n1, n4, n5⟩
end
def KeepS (l l' : St) : Prop := l'.length = l.length ∧ ∀ (i : Nat) (v : V), l[i]? = some (some v) → l'[i]? = some (some v)
theorem KeepS.refl (l : St) : KeepS l l := ⟨rfl, fun _ _ h => h⟩
theorem KeepS.set {l l' : St} {i : Nat} {x : Option V} (h : KeepS l l') (hi : l[i]? = some none) : KeepS l (l'.set i x) := by
  refine ⟨by rw [List.length_set]; exact h.1, fun j v e => ?_⟩
  by_cases hj : j = i
  · subst hj; rw [hi] at e; cases e
  · rw [List.getElem?_set_ne (Ne.symm hj)]; exact h.2 j v e
/-- [e for target in iter if ..] -/
def tComp (wi : TI) (ix : List (Option Nat)) (g : TG) (tt : TT) (te : TE) : TE := fun σ H Q => wi σ H fun J H1 => ∀ D, H1 D = none → ∃ W : Nat → Nat → Hp → Prop, (∃ m, W 0 m (upd H1 D (.lst []))) ∧ ∀ i m H, W i m H →
  (J.stop i H ∧ Q (.ref D) H) ∨ (J.go i H ∧ ∃ N : Hp → Prop, (∀ H', N H' → ∃ m', m' < m ∧ W (i + 1) m' H') ∧ ∀ x H', J.yld i H x H' → g x (capS ix σ) H' fun σ2 H2 => KeepS (capS ix σ) σ2 ∧ tt σ2 H2 fun b H3 =>
    if b = true then te σ2 H3 fun v H4 => ∃ ys, H4 D = some (.lst ys) ∧ ys.length < sizeLine ∧ N (upd H4 D (.lst (ys ++ [v]))) else N H3)
section
variable {X : Cx} {elt tg iter : Expr} {ifs : List Expr} {scope : Scope} {pos : Pos} {wi : TI} {g : TG} {tt : TT} {te : TE} {M : List Str} {ix : List (Option Nat)}
theorem comp_loop {pins : List (Addr × Obj)} {σ : St} {H2 H4 : Hp} {s2 s4 : Shared} {fp : List Addr} {it C D : Addr} {tn : Nat → Heap → Prop} {J : It} {R : Result → Shared → Prop} {QD : Hp → Prop} (I2 : Inv X pins σ H2 s2) (hc : X.calm = true)
    (f2 : ∀ b ∈ fp, FpOk X pins H2 b) (T : Turn X.prog X.w X.K tg J fp it tn)
    (hg : PG (cxComp X M scope C fp s2 H2) tg g) (ht : PTs (cxComp X M scope C fp s2 H2) ifs tt) (he : PE (cxComp X M scope C fp s2 H2) elt te)
    (I4 : Inv (cxComp X M scope C fp s2 H2) [] (capS ix σ) H4 s4) (st4 : tn 0 s4.heap) (fr4 : ∀ b ∈ fp, H4 b = none) (W : Nat → Nat → Hp → Prop) (m0 : Nat) (w0 : W 0 m0 H4)
    (turn : ∀ i m H, W i m H → (J.stop i H ∧ QD H) ∨ (J.go i H ∧ ∃ N : Hp → Prop, (∀ H', N H' → ∃ m', m' < m ∧ W (i + 1) m' H') ∧ ∀ x H', J.yld i H x H' → g x (capS ix σ) H' fun σ2 H2 => KeepS (capS ix σ) σ2 ∧ tt σ2 H2 fun b H3 =>
      if b = true then te σ2 H3 fun v H4 => ∃ ys, H4 D = some (.lst ys) ∧ ys.length < sizeLine ∧ N (upd H4 D (.lst (ys ++ [v]))) else N H3))
    (fin : ∀ H' s', Inv (cxComp X M scope C fp s2 H2) [] (capS ix σ) H' s' → QD H' → R (.ok .next) s') :
    codeAny (model X.prog X.w) X.A (.compLoop (.ListComp elt [⟨tg, iter, ifs, 0⟩] scope pos) 0 (.ref it) (.ref D) (compEnvC scope (clOf X.env.cells scope.names []) C X.env)) R s4 := by
  have stat : ∀ {H' : Hp}, (∀ b ∈ fp, H' b = none) → ∀ b ∈ fp, FpOk (cxComp X M scope C fp s2 H2) [] H' b := fun {H'} hn b hb =>
    ⟨hn b hb, (I4.ok.exf b hb).1, I4.ok.exfs b hb, .inl hb, (I4.ok.exf b hb).2, by intro p hp; cases hp⟩
  refine codeAny_loop rfl (fun n s' => ∃ i H', Inv (cxComp X M scope C fp s2 H2) [] (capS ix σ) H' s' ∧ tn i s'.heap ∧ (∀ b ∈ fp, H' b = none) ∧ W i n H') ?_ m0 ⟨0, H4, I4, st4, fr4, w0⟩
  rintro n s5 ⟨i, H5, I5, st5, fr5, w5⟩
  show wpAny (model X.prog X.w) X.A ((compTurn (.ListComp elt [⟨tg, iter, ifs, 0⟩] scope pos) 0 (.ref it) (.ref D) (compEnvC scope (clOf X.env.cells scope.names []) C X.env)).onRaise (fun x => do noteFrame x (compEnvC scope (clOf X.env.cells scope.names []) C X.env); theTreesLotGoes x)) _ _ s5
  refine wpAny_noted ?_
  rw [compTurn_list]
  refine wpAny_bind (wpAny_standAt (wpAny_bind ?_))
  rcases turn i n H5 w5 with ⟨stop, qn⟩ | ⟨go, N, hN, step⟩
  · refine thn (T.done (cxComp X M scope C fp s2 H2) rfl rfl rfl hc i [] s5 (capS ix σ) H5 _ I5 (stat fr5) st5 stop) fun r s6 ⟨hr, I6⟩ => ?_
    subst hr
    exact wpAny_pure (fin H5 s6 I6 qn)
  · refine thn (T.item (cxComp X M scope C fp s2 H2) rfl rfl rfl hc i [] s5 (capS ix σ) H5 _ I5 (stat fr5) st5 go) fun r s6 ⟨u, hr, h6⟩ => ?_
    subst hr
    refine wpAny_bind (thn h6 fun _ s7 ⟨x, H7, I7, r7, y7, st7, fr7⟩ => ?_)
    have I7' := I7.pinned (stat fr7) (T.obj _ _ st7)
    refine wpAny_bind (wpAny_mono (hg _ s7 (capS ix σ) H7 x u _ I7' r7 (step x H7 y7)) (fun _ s8 ⟨σ8, H8, I8, k8, q8⟩ => ?_) fun _ _ z => False.elim z)
    refine wpAny_bind (wpAny_mono (ht _ s8 σ8 H8 _ I8 q8) (fun ok s9 ⟨H9, I9, q9⟩ => ?_) fun _ _ z => False.elim z)
    have again : ∀ {Ha : Hp} {sa : Shared}, Inv (cxComp X M scope C fp s2 H2) ([] ++ pinsAt fp s7.heap) σ8 Ha sa → N Ha → ∃ m, m < n ∧ ∃ i H', Inv (cxComp X M scope C fp s2 H2) [] (capS ix σ) H' sa ∧ tn i sa.heap ∧ (∀ b ∈ fp, H' b = none) ∧ W i m H' := fun {Ha sa} Ia na => by
      obtain ⟨m', hm, wa⟩ := hN Ha na
      refine ⟨m', hm, i + 1, Ha, Ia.unpinned.weak k8.1.symm k8.2, T.keep _ _ _ st7 fun b hb o e => (Ia.pin (b, o) (List.mem_append_right _ (List.mem_append_right _ (mem_pinsAt hb e)))).1, fun b hb => ?_, wa⟩
      obtain ⟨o, e, d⟩ := T.obj _ _ st7 b hb
      exact (Ia.pin (b, o) (List.mem_append_right _ (List.mem_append_right _ (mem_pinsAt hb e)))).2.1
    cases ok with
    | false => exact wpAny_pure ⟨rfl, again I9 q9⟩
    | true =>
      refine wpAny_bind (wpAny_bind (wpAny_mono (he _ s9 σ8 H9 _ I9 q9) (fun xv s10 ⟨v, H10, I10, r10, ys, hD, hl, q10⟩ => ?_) fun _ _ z => False.elim z))
      refine wpAny_bind (wpAny_mono (mt_append (X := cxComp X M scope C fp s2 H2) _ s10 σ8 H10 (.ref D) [v] (.ref D) [xv] (fun _ H' => N H') I10 rfl (.cons r10 .nil) ⟨D, ys, v, rfl, rfl, hD, hl, q10⟩) (fun _ s11 ⟨_, H11, I11, _, q11⟩ => ?_) fun _ _ z => False.elim z)
      exact wpAny_pure (wpAny_pure ⟨rfl, again I11 q11⟩)

theorem comp_block {pins : List (Addr × Obj)} {σ : St} {H2 : Hp} {s2 : Shared} {fp : List Addr} {it : Addr} {tn : Nat → Heap → Prop} {J : It} {E : Value → Shared → Prop} {QD : Addr → Hp → Prop} {RR : Value → Addr → Result → Shared → Prop} (I2 : Inv X pins σ H2 s2) (hc : X.calm = true)
    (ck : CompOk X.N M ix scope X.env.scope) (f2 : ∀ b ∈ fp, FpOk X pins H2 b) (T : Turn X.prog X.w X.K tg J fp it tn) (st2 : tn 0 s2.heap)
    (hg : ∀ C fp s2 H2, PG (cxComp X M scope C fp s2 H2) tg g) (ht : ∀ C fp s2 H2, PTs (cxComp X M scope C fp s2 H2) ifs tt) (he : ∀ C fp s2 H2, PE (cxComp X M scope C fp s2 H2) elt te)
    (rd : ∀ D, H2 D = none → ∃ W : Nat → Nat → Hp → Prop, (∃ m, W 0 m (upd H2 D (.lst []))) ∧ ∀ i m H, W i m H →
      (J.stop i H ∧ QD D H) ∨ (J.go i H ∧ ∃ N : Hp → Prop, (∀ H', N H' → ∃ m', m' < m ∧ W (i + 1) m' H') ∧ ∀ x H', J.yld i H x H' → g x (capS ix σ) H' fun σ2 H2 => KeepS (capS ix σ) σ2 ∧ tt σ2 H2 fun b H3 =>
        if b = true then te σ2 H3 fun v H4 => ∃ ys, H4 D = some (.lst ys) ∧ ys.length < sizeLine ∧ N (upd H4 D (.lst (ys ++ [v]))) else N H3))
    (fin : ∀ D C H' s', QD D H' → (∃ m, s'.heap.Ns C m) → (∀ h2, Heap.SameBut C s'.heap h2 → Inv X pins σ H' { s' with heap := h2 }) → FpOk X pins H' C → RR (.ref D) C (.ok .next) s') :
    wpAny (model X.prog X.w) X.A (newList []) (fun acc s3 => wpAny (model X.prog X.w) X.A (newFunctionEnv scope X.env.globals (clOf X.env.cells scope.names []) [] X.env.qual none .none (some X.env)) (fun cenv s4 =>
      codeAny (model X.prog X.w) X.A (.compStart (.ListComp elt [⟨tg, iter, ifs, 0⟩] scope pos) 0 (.ref it) acc { cenv with scope := relabel scope X.env }) (RR acc cenv.locals) s4) E s3) E s2 := by
  have hfp : ∀ b ∈ fp, b < s2.heap.objs.size := fun b hb => by obtain ⟨o, e, _⟩ := T.obj 0 _ st2 b hb; exact Heap.lt_size e
  refine wpAny_newObj_type (wpAny_newFunctionEnv ck.nocell (by intro y hy; simp at hy) (fun h1 hn1 hsb1 => ?_) ck.kind)
  dsimp only at hn1 hsb1 ⊢
  generalize hP : s2.heap.push { cls := .type "list", dict := none, data := .seq ([] : List Value).toArray } = hh at hn1 hsb1 ⊢
  have hCz : hh.objs.size = s2.heap.objs.size + 1 := by rw [← hP, Heap.size_push]
  have hCD : hh.objs.size ≠ s2.heap.objs.size := by omega
  have old : ∀ b o, s2.heap.get? b = some o → h1.get? b = some o := fun b o e => by
    have hb : b < s2.heap.objs.size := Heap.lt_size e
    exact hsb1.extBut b o (Nat.ne_of_lt (by rw [hCz]; exact Nat.lt_succ_of_lt hb)) (Heap.get?_push_of_some _ (hP ▸ Heap.get?_push_of_some _ e))
  have hnew : h1.get? s2.heap.objs.size = some { cls := .type "list", data := .seq #[] } := hsb1.extBut _ _ hCD.symm (Heap.get?_push_of_some _ (hP ▸ Heap.get?_push_size _ rfl))
  obtain ⟨W, ⟨m0, w0⟩, turn⟩ := rd s2.heap.objs.size (I2.hok.fresh (Nat.le_refl _))
  have I4 := comp_inv (M := M) (ix := ix) (scope := scope) (fp := fp) (tk := s2.toks + ([] : List (Str × Value)).length) I2 ck (C := hh.objs.size) (D := s2.heap.objs.size) (by omega) (Nat.le_refl _) hCD f2 hfp old hn1 hnew
  have st4 : tn 0 h1 := T.keep _ _ _ st2 fun b _ o e => old b o e
  have fr4 : ∀ b ∈ fp, upd H2 s2.heap.objs.size (.lst []) b = none := fun b hb => by rw [upd_ne (Nat.ne_of_lt (hfp b hb))]; exact (f2 b hb).1
  have lp : codeAny (model X.prog X.w) X.A (.compLoop (.ListComp elt [⟨tg, iter, ifs, 0⟩] scope pos) 0 (.ref it) (.ref s2.heap.objs.size) (compEnvC scope (clOf X.env.cells scope.names []) hh.objs.size X.env)) (RR (.ref s2.heap.objs.size) hh.objs.size) { s2 with heap := h1, toks := s2.toks + ([] : List (Str × Value)).length } := by
    refine comp_loop (QD := QD s2.heap.objs.size) I2 hc f2 T (hg _ _ _ _) (ht _ _ _ _) (he _ _ _ _) I4 st4 fr4 W m0 w0 turn fun H' s' J' q' => ?_
    obtain ⟨m, hm, _⟩ := J'.loc
    exact fin _ _ H' s' q' ⟨m, hm⟩ (fun h2 sb => comp_back I2 J' f2 sb) (I2.fpOk (by omega) J'.free)
  exact codeAny_compStart_list lp (T.self _ 0 _ _ _ st4 lp)
theorem pe_comp (hc : X.calm = true) (ck : CompOk X.N M ix scope X.env.scope) (hi : PI X tg iter wi) (hg : ∀ C fp s2 H2, PG (cxComp X M scope C fp s2 H2) tg g) (ht : ∀ C fp s2 H2, PTs (cxComp X M scope C fp s2 H2) ifs tt) (he : ∀ C fp s2 H2, PE (cxComp X M scope C fp s2 H2) elt te)
    (hs : ∀ x, foldedSetIterable iter X.env x = pure x := by intro _; rfl) : PE X (.ListComp elt [⟨tg, iter, ifs, 0⟩] scope pos) (tComp wi ix g tt te) := by
  intro pins s σ H Q I h
  have hfree : ∀ x ∈ scope.names, x.2 = .free → ∃ c, X.env.cells.lookup x.1 = some c := fun x hx e => I.ok.has x.1 (ck.fr x hx e)
  rw [eval_ListComp]
  refine wpAny_comprehension_free (use := none) (cl := clOf X.env.cells scope.names []) rfl hs (closureFor_clOf hfree) ck.kind ck.loc (thn (hi pins s σ H _ I h) fun v s1 h1 => thn h1 fun itv s2 h2 => ?_)
  obtain ⟨it, fp, tn, J, H2, e, I2, T, st2, f2, rd⟩ := h2
  subst e
  refine comp_block (QD := fun D H' => Q (.ref D) H') I2 hc ck f2 T st2 hg ht he rd fun D C H' s' q hm hb _ => ?_
  obtain ⟨m, hm⟩ := hm
  exact ⟨m, hm, fun h2 sb => ⟨.ref D, H', hb h2 sb, rfl, q⟩⟩

/-- name = [..]: the name is stored ahead of the block's own variables' end -/
def tCompSet (wi : TI) (ix : List (Option Nat)) (g : TG) (tt : TT) (te : TE) (i : Nat) : TS := fun D σ H => tComp wi ix g tt te σ H fun x H1 => D.nx (σ.set i (some x)) H1
theorem ps_setC {i : Nat} {x : Str} {pos' spos : Pos} (hsw : swapsWith (.ListComp elt [⟨tg, iter, ifs, 0⟩] scope pos) (some (.Name x pos')) spos.line X.env = pure true) (hN : X.N.Nodup) (hix : X.N[i]? = some x) (hx : Loc X.env.scope x)
    (hc : X.calm = true) (ck : CompOk X.N M ix scope X.env.scope) (hi : PI X tg iter wi) (hg : ∀ C fp s2 H2, PG (cxComp X M scope C fp s2 H2) tg g) (ht : ∀ C fp s2 H2, PTs (cxComp X M scope C fp s2 H2) ifs tt) (he : ∀ C fp s2 H2, PE (cxComp X M scope C fp s2 H2) elt te)
    (hs : ∀ x, foldedSetIterable iter X.env x = pure x := by intro _; rfl) (hf : X.fn x = true ∨ X.env.scope.names.lookup x = some .local := by first | exact .inl rfl | exact .inr rfl | assumption) :
    PS X (.Assign [.Name x pos'] (.ListComp elt [⟨tg, iter, ifs, 0⟩] scope pos) spos) (tCompSet wi ix g tt te i) := by
  intro pins s σ H D0 I h
  have hfree : ∀ x ∈ scope.names, x.2 = .free → ∃ c, X.env.cells.lookup x.1 = some c := fun x hx e => I.ok.has x.1 (ck.fr x hx e)
  rw [exec_Assign_Name_used _ _ _ _ hsw]
  refine wpAny_bind (wpAny_standAt (wpAny_bind ?_))
  show wpAny _ X.A (do let _ ← comprehension (.ListComp elt [⟨tg, iter, ifs, 0⟩] scope pos) scope X.env _ (newList []) false (eval iter X.env) (some (assign (.Name x pos') X.env))) _ _ s
  refine wpAny_bind (wpAny_mono (wpAny_comprehension_free (use := some (assign (.Name x pos') X.env)) (Q := fun _ s' => SP X pins D0 .next s') (cl := clOf X.env.cells scope.names []) rfl hs (closureFor_clOf hfree) ck.kind ck.loc
    (thn (hi pins s σ H _ I h) fun v s1 h1 => thn h1 fun itv s2 h2 => ?_)) (fun _ s' hq => wpAny_pure (wpAny_pure hq)) fun _ _ e => e)
  obtain ⟨it, fp, tn, J, H2, e, I2, T, st2, f2, rd⟩ := h2
  subst e
  refine comp_block (QD := fun D H' => D0.nx (σ.set i (some (.ref D))) H') I2 hc ck f2 T st2 hg ht he rd fun D C H' s' q hm hb fpk => ?_
  obtain ⟨m, hm⟩ := hm
  obtain ⟨g0, g1, g2, g3, g4, g5⟩ := fpk
  have I5 : Inv X pins σ H' s' := hb s'.heap ⟨rfl, fun _ _ => rfl⟩
  show wpAny (model X.prog X.w) X.A (assign (.Name x pos') X.env (.ref D)) _ _ s'
  refine wpAny_assign_Name (store_ok2 (v := .ref D) I5 hN hix hx rfl (fun s6 I6 ⟨a, sb, ha⟩ => ?_) hf)
  have hCa : C ≠ a := by
    rcases ha with ha | ha
    · rw [ha]; exact g1
    · exact (g4 x a ha).symm
  refine ⟨m, hm.sameBut sb hCa, fun h2 sb2 => ⟨_, H', I6.turned (t' := s6.toks) (fun b o hb e => (sb2.2 b hb).trans e) g0 g1 g3 g4 g5, q⟩⟩
end
end L2
set_option Elab.async false
set_option linter.all false
set_option maxRecDepth 100000
namespace L2
open PySem PySem.Spec PyProof.Rows

/-- a def stands at the top by its name, and takes its arguments by place -/
def FnAt (K : PySem.W.Frag) (mg : Str → Option Value) (x : Str) (st : Stmt) (ps : List Str) : Prop := ∃ f fd, mg x = some (.ref f) ∧ Fun K x x st f fd ∧ Binds K fd ps []
/-- a def that keeps a promise -/
def Has (P : Program) (w : World) (K : PySem.W.Frag) (mg : Str → Option Value) (base : Heap) (k : Nat) (x : Str) (ps : List Str) (sp : Sp) : Prop :=
  ∃ f fd, mg x = some (.ref f) ∧ PySem.W.keepIn K (.ref f) = true ∧ Binds K fd ps [] ∧ FnOk P w K mg base CX0 k f fd ps sp
section
variable {P : Program} {w : World} {K : PySem.W.Frag} {mg : Str → Option Value} {base : Heap}
theorem Has.of {x : Str} {st : Stmt} {ps N : List Str} {k : Nat} {sp : Sp} (F : FnAt K mg x st ps) (S : FnScope N ps (defScope st)) (len : ∀ vs H Q E, sp vs H Q E → vs.length = ps.length)
    (hbody : ∀ (f : Addr) (cdv : Value) (A : Around) (outer : List Env) (s : Shared) (H : Hp) (vs : List V) (Q : VK) (E : XK), Room k (A.deeper (envOfC x (defScope st) s.heap.objs.size f cdv)) → sp vs H Q E →
      ∃ t, PSs (cxOf CX0 P w K mg base N x (defScope st) f cdv A outer s H E).nox (defBody st) t ∧ t { nx := fun _ H' => Q .non H', rt := Q } (start N vs) H) : Has P w K mg base (k + 1) x ps sp := by
  obtain ⟨f, fd, h1, h2, h3⟩ := F
  exact ⟨f, fd, h1, h2.kp, h3, h2.ok S len fun cdv A outer s H vs Q E hr h => hbody f cdv A outer s H vs Q E hr h⟩
end
section
variable {X : Cx}
theorem pe_callH {k m : Nat} {x : Str} {ps : List Str} {sp : Sp} {e : Expr} {es : List Expr} {t : TA} {p pos : Pos} (h : Has X.prog X.w X.K X.mg X.base k x ps sp) (hr : Room m X.A) (ha : PA X (e :: es) t) (hk : k ≤ m := by decide) (hg : Gl X x := by rfl)
    (hdb : (x == ("__debug__" : Str)) = false := by decide) (he : starEach (e :: es) X.env = (false, eval e X.env) :: starEach es X.env := by rfl) (hpl : (backTo pos (starEach es X.env)).any (·.1) = false := by rfl) :
    PE X (.Call (.Name x p) (e :: es) [] pos) (tCall sp [] E0 t) := by
  obtain ⟨f, fd, h1, h2, h3, h4⟩ := h
  exact pe_call h4 (hr.mono hk) hg h1 h2 h3 .nil pass0 ha hdb he hpl
end
def blNames : List Str := ["len", "abs", "max", "min", "repr", "isinstance", "int", "bool", "str", "tuple", "list", "dict", "range", "enumerate", "sorted", "sum"]
structure Bl (mg : Str → Option Value) : Prop where
  all : ∀ x ∈ blNames, mg x = none
theorem Bl.of {mg : Str → Option Value} (B : Bl mg) {x : Str} (h : blNames.contains x = true) : mg x = none := B.all x (by simpa using h)
/-- a constant tuple of the text -/
def GTup (K : PySem.W.Frag) (mg : Str → Option Value) (x : Str) (xs : List V) : Prop := ∃ a, mg x = some (.ref a) ∧ ∀ H, SqT K H a xs
theorem gtup_mk {K : PySem.W.Frag} {mg : Str → Option Value} {x : Str} {a : Addr} {xs : List V} {od : Option Addr} {its : Array Value} {n : Nat} {sl : Array (Option Value)} (h1 : mg x = some (.ref a)) (h2 : K.lookup a = some ⟨.type "tuple", od, .seq its n, sl⟩)
    (h3 : its.size ≤ sizeLine) (h4 : Vals xs its.toList) : GTup K mg x xs := ⟨a, h1, fun H => .inr ⟨_, its, n, h2, rfl, rfl, h3, h4⟩⟩
section
variable {X : Cx}
def tGT (K : PySem.W.Frag) (xs : List V) : TE := fun _ H Q => ∀ a, (∀ H', SqT K H' a xs) → Q (.ref a) H
theorem pe_gtup {x : Str} {xs : List V} {pos : Pos} (h : GTup X.K X.mg x xs) (hg : Gl X x := by rfl) (hd : (x == ("__debug__" : Str)) = false := by decide) : PE X (.Name x pos) (tGT X.K xs) := by
  obtain ⟨a, h1, h2⟩ := h
  exact fun pins s σ H Q I q => pe_glob (v := .ref a) hg h1 rfl hd pins s σ H Q I (q a h2)
/-- a constant int of the text -/
theorem pe_gint {x : Str} {i : Int} {pos : Pos} (h : ∃ t, X.mg x = some (.int i t)) (hg : Gl X x := by rfl) (hd : (x == ("__debug__" : Str)) = false := by decide) : PE X (.Name x pos) (tC (.int i)) := by
  obtain ⟨t, h1⟩ := h
  exact pe_glob (v := .int i) hg h1 ⟨t, rfl⟩ hd
/-- isinstance(x, T), T a built-in type -/
def rIsi (K : PySem.W.Frag) : List V → Hp → VK → Prop := fun xs H Q => ∃ x T t b, xs = [x, .ty T] ∧ TyOf K H x t ∧ PySem.W.kitOne K t (.type T) = some b ∧ Q (.bl b) H
theorem call_isi : CallR X (.builtin "isinstance") (rIsi X.K) := by
  intro pins s σ H xs us Q I r h
  obtain ⟨x, T, t, b, rfl, ht, hk, q⟩ := h
  cases r with
  | cons r rr =>
    cases rr with
    | cons r' rr =>
      cases rr
      cases r'
      exact isinst_ok I r ht hk fun tk => ⟨.bl b, H, I.tok _, rfl, q⟩
end
def tCut (t u : TS) : TS := fun D σ H => ∃ R : St → Hp → Prop, t { D with nx := R } σ H ∧ ∀ σ' H', R σ' H' → u D σ' H'
theorem pss_cut {X : Cx} {st : Stmt} {rest : List Stmt} {t u : TS} (h1 : PS X st t) (h2 : PSs X rest u) : PSs X (st :: rest) (tCut t u) := by
  intro pins s σ H D I h
  obtain ⟨R, h, hR⟩ := h
  refine wpAny_execs_cons (thn (h1 pins s σ H { D with nx := R } I h) fun f s1 q => ?_)
  cases f with
  | next =>
    obtain ⟨σ', H', I', q⟩ := q
    exact h2 pins s1 σ' H' D I' (hR σ' H' q)
  | ret v => exact q
  | brk => exact q
  | cont => exact q
theorem Same.upd {H H1 : Hp} {p : Addr} {o : HO} (s : Same H H1) (h : H1 p = none) : Same H (upd H1 p o) := fun b u e => by
  have e1 := s b u e
  rw [upd_ne (ne_of_none e1 h)]; exact e1
/-- changed at an address that is new since H -/
theorem Same.at {H H1 : Hp} {p : Addr} {o : HO} (s : Same H H1) (h : H p = none) : Same H (L2.upd H1 p o) := fun b u e => by
  rw [upd_ne (ne_of_none e h)]; exact s b u e
theorem At.tupEq {H : Hp} {v : V} {ds : List PyData} (h : At H v (.tuple ds)) : ∃ a vs, v = .ref a ∧ H a = some (.tup vs) ∧ AtAll H vs ds := by
  cases h with
  | tup e t => exact ⟨_, _, rfl, e, t⟩
theorem At.lstEq {H : Hp} {v : V} {ds : List PyData} (h : At H v (.list ds)) : ∃ a vs, v = .ref a ∧ H a = some (.lst vs) ∧ AtAll H vs ds := by
  cases h with
  | lst e t => exact ⟨_, _, rfl, e, t⟩
theorem At.strEq {H : Hp} {v : V} {x : Str} (h : At H v (.str x)) : v = .str x := by cases h; rfl
theorem At.intEq {H : Hp} {v : V} {x : Int} (h : At H v (.int x)) : v = .int x := by cases h; rfl
end L2
set_option Elab.async false
set_option linter.all false
set_option maxRecDepth 100000
namespace L2
open PySem PySem.Spec PyProof.Rows
def hideL (H : Hp) (L : List Addr) : Hp := fun b => if b ∈ L then none else H b
theorem hideL_same (H : Hp) (L : List Addr) : Same (hideL H L) H := fun b o e => by
  unfold hideL at e
  split at e
  · cases e
  · exact e
theorem hideL_get {H : Hp} {L : List Addr} {b : Addr} (h : b ∉ L) : hideL H L b = H b := by unfold hideL; rw [if_neg h]
theorem hideL_mono {H H' : Hp} (s : Same H H') (L : List Addr) : Same (hideL H L) (hideL H' L) := fun b o e => by
  unfold hideL at e ⊢
  split at e
  · cases e
  · rename_i h; rw [if_neg h]; exact s b o e
theorem sl_le {n : Nat} (h : n ≤ 100000) : n ≤ sizeLine := Nat.le_trans h (by decide)
theorem sl_lt {n : Nat} (h : n ≤ 100000) : n < sizeLine := Nat.lt_of_le_of_lt h (by decide)
theorem atI_lit {α : Type} {xs : List α} {i : Int} {v : α} (j : Nat) (h : xs[j]? = some v) (e : i = (j : Int) := by rfl) : atI xs i = some v := by
  rw [e]; exact atI_nat h
theorem atI_int {α : Type} {xs : List α} {i : Int} {v : α} (h0 : 0 ≤ i) (h : xs[i.toNat]? = some v) : atI xs i = some v := by
  have e : ((i.toNat : Nat) : Int) = i := Int.toNat_of_nonneg h0
  rw [← e]; exact atI_nat h

theorem comp_by {J : It} {n : Nat} {g : TG} {tt : TT} {te : TE} {ix : List (Option Nat)} {σ : St} {H : Hp} {QD : Hp → Prop} {D : Addr} (Pv : Nat → Hp → Prop) (h0 : Pv 0 (upd H D (.lst []))) (stop : ∀ H', Pv n H' → J.stop n H' ∧ QD H')
    (step : ∀ i H', i < n → Pv i H' → J.go i H' ∧ ∀ x H2, J.yld i H' x H2 → g x (capS ix σ) H2 fun σ2 H3 => KeepS (capS ix σ) σ2 ∧ tt σ2 H3 fun b H4 =>
      if b = true then te σ2 H4 fun v H5 => ∃ ys, H5 D = some (.lst ys) ∧ ys.length < sizeLine ∧ Pv (i + 1) (upd H5 D (.lst (ys ++ [v]))) else Pv (i + 1) H4) :
    ∃ W : Nat → Nat → Hp → Prop, (∃ m, W 0 m (upd H D (.lst []))) ∧ ∀ i m H, W i m H →
      (J.stop i H ∧ QD H) ∨ (J.go i H ∧ ∃ N : Hp → Prop, (∀ H', N H' → ∃ m', m' < m ∧ W (i + 1) m' H') ∧ ∀ x H', J.yld i H x H' → g x (capS ix σ) H' fun σ2 H2 => KeepS (capS ix σ) σ2 ∧ tt σ2 H2 fun b H3 =>
        if b = true then te σ2 H3 fun v H4 => ∃ ys, H4 D = some (.lst ys) ∧ ys.length < sizeLine ∧ N (upd H4 D (.lst (ys ++ [v]))) else N H3) := by
  refine ⟨fun i m H => m = n - i ∧ i ≤ n ∧ Pv i H, ⟨n, by simp, Nat.zero_le _, h0⟩, ?_⟩
  rintro i m H ⟨rfl, hi, p⟩
  by_cases hlt : i < n
  · obtain ⟨g1, g2⟩ := step i H hlt p
    exact .inr ⟨g1, Pv (i + 1), fun H' p' => ⟨n - (i + 1), by omega, rfl, hlt, p'⟩, g2⟩
  · have e : i = n := by omega
    subst e
    exact .inl (stop H p)
theorem cut_take {xs : List V} (k : Nat) : cutV xs none (some (k : Int)) = xs.take k := by
  unfold cutV
  rw [HT.sIx_none, HT.sIx_nat, List.drop_zero, Nat.sub_zero]
  by_cases h : k ≤ xs.length
  · rw [Nat.min_eq_left h]
  · rw [Nat.min_eq_right (by omega), List.take_length, List.take_of_length_le (by omega)]
theorem cut_drop {xs : List V} (k : Nat) : cutV xs (some (k : Int)) none = xs.drop k := by
  unfold cutV
  rw [HT.sIx_none, HT.sIx_nat]
  by_cases h : k ≤ xs.length
  · rw [Nat.min_eq_left h]
    exact List.take_of_length_le (by rw [List.length_drop]; exact Nat.le_refl _)
  · rw [Nat.min_eq_right (by omega), List.drop_eq_nil_of_le (show xs.length ≤ k by omega), List.drop_length]; simp

theorem yes {σ : St} {H : Hp} {A B : Hp → Prop} (h : A H) : tYes σ H fun b H' => if b = true then A H' else B H' := iteT (B := B H) h
section
variable {X : Cx} {K : PySem.W.Frag}
theorem call_isiK (h : X.K = K) : CallR X (.builtin "isinstance") (rIsi K) := h ▸ call_isi
theorem pg_tupK {es : List Expr} {k : Nat} {t : TGs} {n : Nat} {pos : Pos} (h : X.K = K) (hc : X.calm = true) (hh : PGs X es t)
    (hn : (assignEach es X.env).length = n := by rfl) (hst : (assignEach es X.env).findIdx? (·.1) = none := by rfl) : PG X (.Tuple es k pos) (gTup K n t) := by
  subst h; exact pg_tup hc hh hn hst
end

def rEqD : R2 := fun x y H Q => ∃ dx dy, At H x dx ∧ At H y dy ∧ dx.canLay0 = true ∧ dy.canLay0 = true ∧ dx.depth ≤ 60 ∧ Q (.bl (PyData.eqv dx dy)) H
def rNeD : R2 := fun x y H Q => ∃ dx dy, At H x dx ∧ At H y dy ∧ dx.canLay0 = true ∧ dy.canLay0 = true ∧ dx.depth ≤ 60 ∧ Q (.bl (!PyData.eqv dx dy)) H
section
variable {X : Cx}
theorem op_eqD {k : Nat} (hr : Room k X.A) : OpR X (compareOp .Eq) rEqD := by
  intro pins s σ H x y v u Q I rx ry h
  obtain ⟨dx, dy, h1, h2, c1, c2, hd, q⟩ := h
  obtain ⟨as, r1⟩ := h1.reads I.hok rx
  obtain ⟨bs, r2⟩ := h2.reads I.hok ry
  have hu := hr.units
  exact PySem.SeqAt.rcAt_reads r1 r2 c1 c2 (by have := Nat.min_le_left dx.depth dy.depth; omega) _ _ _ _ ⟨.bl _, H, I, rfl, q⟩
theorem op_neD {k : Nat} (hr : Room k X.A) : OpR X (compareOp .NotEq) rNeD := by
  intro pins s σ H x y v u Q I rx ry h
  obtain ⟨dx, dy, h1, h2, c1, c2, hd, q⟩ := h
  obtain ⟨as, r1⟩ := h1.reads I.hok rx
  obtain ⟨bs, r2⟩ := h2.reads I.hok ry
  have hu := hr.units
  exact PySem.SeqAt.rcNeAt_reads r1 r2 c1 c2 (by have := Nat.min_le_left dx.depth dy.depth; omega) _ _ _ _ ⟨.bl _, H, I, rfl, q⟩
end
theorem depthAll_le {n : Nat} : ∀ {xs : List PyData}, (∀ x ∈ xs, x.depth ≤ n) → PyData.depthAll xs ≤ n
  | [], _ => by simp [PyData.depthAll]
  | x :: xs, h => by
    have h1 := h x List.mem_cons_self
    have h2 := depthAll_le (xs := xs) fun y hy => h y (List.mem_cons_of_mem _ hy)
    simp only [PyData.depthAll]
    omega
theorem bulkAll_le {n : Nat} : ∀ {xs : List PyData}, (∀ x ∈ xs, x.bulk ≤ n) → PyData.bulkAll xs ≤ (n + 1) * xs.length
  | [], _ => by simp [PyData.bulkAll]
  | x :: xs, h => by
    have h1 := h x List.mem_cons_self
    have h2 := bulkAll_le (xs := xs) fun y hy => h y (List.mem_cons_of_mem _ hy)
    simp only [PyData.bulkAll, List.length_cons, Nat.mul_add]
    omega
theorem shortAll_of {B : Nat} : ∀ {xs : List PyData}, (∀ x ∈ xs, x.leavesShort B = true) → PyData.leavesShortAll B xs = true
  | [], _ => by simp [PyData.leavesShortAll]
  | x :: xs, h => by
    simp only [PyData.leavesShortAll, h x List.mem_cons_self, shortAll_of (xs := xs) fun y hy => h y (List.mem_cons_of_mem _ hy), Bool.and_self]
end L2
set_option Elab.async false
set_option linter.all false
set_option maxRecDepth 100000
set_option maxHeartbeats 2000000
namespace L2
open PySem PySem.Spec PyProof.Rows PySem.W
section
variable {prog : Program} {w : World} {A : Around} {E : Value → Shared → Prop} {h : Heap} {g : Array GenState} {d : Drawn} {t : Nat} {os : OsState} {K : PySem.W.Frag} {C fI : Addr}
end
end L2
set_option Elab.async false
set_option linter.all false
set_option maxRecDepth 100000
set_option maxHeartbeats 2000000
namespace L2
open PySem PySem.Spec PyProof.Rows PySem.W
section
variable {prog : Program} {w : World} {A : Around} {E : Value → Shared → Prop} {h : Heap} {g : Array GenState} {d : Drawn} {t : Nat} {os : OsState} {K : PySem.W.Frag} {C x : Addr} {mA : Str → Option Value} {name : Str} {v : Value}
end
end L2
set_option Elab.async false
set_option linter.all false
set_option maxRecDepth 100000
set_option maxHeartbeats 2000000
namespace L2
open PySem PySem.Spec PyProof.Rows PySem.W
section
variable {prog : Program} {w : World} {A : Around} {E : Value → Shared → Prop} {h : Heap} {g : Array GenState} {d : Drawn} {t : Nat} {os : OsState} {K : PySem.W.Frag} {C x : Addr} {mA : Str → Option Value} {name : Str} {v : Value}
end
end L2
set_option Elab.async false
set_option linter.all false
set_option maxRecDepth 100000
set_option maxHeartbeats 2000000
namespace L2
open PySem PySem.Spec PyProof.Rows PySem.W
section
variable {prog : Program} {w : World} {A : Around} {E : Value → Shared → Prop} {s : Shared} {K : PySem.W.Frag} {x C : Addr} {ox : Obj} {od : Option Obj}
end
end L2
set_option Elab.async false
set_option linter.all false
set_option maxRecDepth 100000
set_option maxHeartbeats 2000000
namespace L2
open PySem PySem.Spec PyProof.Rows PySem.W
section
variable {X : Cx} {pins : List (Addr × Obj)} {σ : St} {H : Hp} {s : Shared} {h' : Heap} {a d : Addr} {oA oD : HO}
end
end L2
set_option Elab.async false
set_option linter.all false
set_option maxRecDepth 100000
set_option maxHeartbeats 2000000
namespace L2
open PySem PySem.Spec PyProof.Rows PySem.W
section
variable {X : Cx} {pins : List (Addr × Obj)} {σ : St} {H : Hp} {s : Shared} {a C : Addr} {dx : Option Addr} {fs : List (Str × V)} {f : Str} {v : V} {u : Value}
variable {o e value : Expr} {pos pos' p : Pos} {ta tv : TE}
end
end L2
set_option Elab.async false
set_option linter.all false
set_option maxRecDepth 100000
set_option maxHeartbeats 2000000
namespace L2
open PySem PySem.Spec PyProof.Rows PySem.W
section
variable {X : Cx} {pins : List (Addr × Obj)} {σ : St} {H : Hp} {s : Shared} {h' : Heap} {a C : Addr} {oA : HO}
variable {x : Str} {e : Expr} {es : List Expr} {p pos : Pos} {t : TA}
variable {k : Nat} {f : Addr} {fd : FuncData} {ps : List Str} {sp : Sp}
end
end L2
set_option Elab.async false
set_option linter.all false
set_option maxRecDepth 100000
namespace L2
open PySem PySem.Spec PyProof.Rows
theorem Vals.bls : ∀ {bs : List Bool} {us : List Value}, Vals (bs.map V.bl) us → us = bs.map Value.bool
  | [], _, .nil => rfl
  | b :: bs, _, .cons r t => by
    have e := Vals.bls t
    cases r
    rw [e]
    rfl
section
variable {X : Cx}
end
end L2
set_option linter.all false
namespace Mx
open PySem L2 PyProof.Rows
section
variable {X : Cx} {es : List Expr} {te : TE} {t : TA} {pos : Pos}
theorem pa_cs {k : Const} {j} (ha : PE X (.Constant k j pos) te) (hr : PA X es t) : PA X (.Constant k j pos :: es) (tCons te t) := pa_cons ha hr rfl
theorem pa_nm {x : Str} (ha : PE X (.Name x pos) te) (hr : PA X es t) : PA X (.Name x pos :: es) (tCons te t) := pa_cons ha hr rfl
theorem pa_cl {f xs ks} (ha : PE X (.Call f xs ks pos) te) (hr : PA X es t) : PA X (.Call f xs ks pos :: es) (tCons te t) := pa_cons ha hr rfl
def strsOf : List Expr → Option (List Str)
  | [] => some []
  | .Constant (.str x) _ _ :: r => (strsOf r).map (x :: ·)
  | _ => none
theorem pa_strs {X : Cx} : ∀ {es : List Expr} {xs : List Str}, strsOf es = some xs → PA X es (fun _ H Q => Q (xs.map V.str) H)
  | [], xs, h => by
    cases h
    exact pa_nil
  | .Constant (.str x) j p :: r, xs, h => by
    rw [strsOf] at h
    obtain ⟨ys, hy, rfl⟩ := Option.map_eq_some_iff.mp h
    exact pa_cs pe_str (pa_strs hy)
end
structure QS (X : Cx) (st : Stmt) (t : TS) : Prop where
  of : PS X st t
structure QSs (X : Cx) (ss : List Stmt) (t : TS) : Prop where
  of : PSs X ss t
section
variable {X : Cx} {st : Stmt} {rest a b : List Stmt} {t u : TS} {pos : Pos} {e : Expr} {te : TE}
theorem qss_nil : QSs X [] tNext := ⟨pss_nil⟩
theorem qss_one (h : QS X st t) : QSs X [st] t := ⟨pss_one h.of⟩
theorem qss_cons (h : QS X st t) (r : QSs X rest u) : QSs X (st :: rest) (tSeq t u) := ⟨pss_cons h.of r.of⟩
theorem qss_cut (h : QS X st t) (r : QSs X rest u) : QSs X (st :: rest) (tCut t u) := ⟨pss_cut h.of r.of⟩
theorem qs_of (h : PS X st t) : QS X st t := ⟨h⟩
end
end Mx
set_option Elab.async false
set_option linter.all false
set_option maxRecDepth 100000
namespace L2
open PySem PySem.Spec PyProof.Rows PySem.Builtin PySem.Builtin.Str PySem.StrLaws
section
variable {X : Cx}
end
end L2
set_option Elab.async false
set_option linter.all false
set_option maxRecDepth 100000
namespace L2
open PySem PySem.Spec PyProof.Rows PyProof.Rows.KTD
def TabK (K : PySem.W.Frag) (a : Addr) (D : List (Str × List V)) : Prop :=
  (a == sysModules) = false ∧ ∃ o es ep, K.lookup a = some o ∧ o.ExactDict ∧ o.data = .dict es ep ∧ KTD.Rows (fun xs v => ∃ p, v = .ref p ∧ ∀ H, SqT K H p xs) es.toList D
section
variable {prog : Program} {w : World} {A : Around} {E : Value → Shared → Prop} {s : Shared} {a : Addr} {k : Str} {tk : Tok} {o : Obj} {es : Array DictEntry} {ep : Nat}
theorem dict_get_by {Q : Option Value → Shared → Prop} (g : s.heap.get? a = some o) (gd : o.data = .dict es ep) (ge : (es.toList.all fun e => isExactStrKey e.key) = true)
    (q : Q ((es.toList.find? fun e => e.key.isStr k).map (·.val)) { s with toks := s.toks + 1 }) : wpAny (model prog w) A (dictGet a (.str k tk)) Q E s := by
  obtain ⟨l⟩ := es
  have q2 : Q (findBy (fun k v => v.isStr k) ⟨l⟩ k) { s with toks := s.toks + 1 } := by
    rw [show findBy (fun k v => v.isStr k) (⟨l⟩ : Array DictEntry) k = (l.find? fun e => e.key.isStr k).map (·.val) by simp [findBy]]
    exact q
  unfold dictGet
  try with_reducible refine wpAny_holding ?_
  refine wpAny_bind (wpAny_pyHash_str ?_)
  refine wpAny_bind ?_
  refine kt_dictFind_strs (s := { s with toks := s.toks + 1 }) g gd (by simpa using ge) ?_
  rw [findBy_of_findIdx?] at q2
  revert q2
  cases (⟨l⟩ : Array DictEntry).findIdx? fun e => e.key.isStr k with
  | none => intro q2; exact wpAny_pure q2
  | some i => intro q2; refine wpAny_bind ?_; exact wpAny_dictEntries (s := { s with toks := s.toks + 1 }) g gd (wpAny_pure q2)
end
section
variable {X : Cx} {pins : List (Addr × Obj)} {σ : St} {H : Hp} {s : Shared} {a : Addr} {D : List (Str × List V)}
theorem TabK.dict (I : Inv X pins σ H s) (T : TabK X.K a D) : s.TypeIs (.ref a) "dict" ∧ ∀ b, Value.ref a = .ref b → ∃ ob, s.heap.get? b = some ob ∧ ob.dict = none := by
  obtain ⟨_, o, es, ep, hl, hx, hd, hr⟩ := T
  refine ⟨⟨o, I.kIn a o hl, hx.1⟩, fun b e => ?_⟩
  cases e
  exact ⟨o, I.kIn a o hl, hx.2.1⟩
theorem TabK.ask {k : Str} {tk : Tok} {E : Value → Shared → Prop} {A : Around} {Q : Option Value → Shared → Prop} (I : Inv X pins σ H s) (T : TabK X.K a D)
    (h1 : ∀ xs p, datumAt k D = some xs → (∀ H, SqT X.K H p xs) → Q (some (.ref p)) { s with toks := s.toks + 1 }) (h2 : datumAt k D = none → Q none { s with toks := s.toks + 1 }) : wpAny (model X.prog X.w) A (dictGet a (.str k tk)) Q E s := by
  obtain ⟨_, o, es, ep, hl, hx, hd, hr⟩ := T
  refine dict_get_by (I.kIn a o hl) hd hr.exact ?_
  cases hat : datumAt k D with
  | some xs =>
    obtain ⟨v, hv, p, rfl, hp⟩ := hr.find_some hat
    rw [hv]
    exact h1 xs p hat hp
  | none => rw [hr.find_none hat]; exact h2 hat
/-- d[x] -/
def rIxTab (K : PySem.W.Frag) (D : List (Str × List V)) : R2 := fun x y H Q => ∃ a k xs, x = .ref a ∧ y = .str k ∧ TabK K a D ∧ datumAt k D = some xs ∧ ∀ p, (∀ H, SqT K H p xs) → Q (.ref p) H
theorem ix_tab : IxR X (rIxTab X.K D) := by
  intro value slice pins s σ H x y v u Q I rx ry h hs
  obtain ⟨a, k, xs, rfl, rfl, T, hd, q⟩ := h
  cases rx
  obtain ⟨tk, rfl⟩ := ry
  obtain ⟨hsm, o, es, ep, hl, hx, hd2, hr⟩ := id T
  obtain ⟨v, hv, p, rfl, hp⟩ := hr.find_some hd
  have fin : EP X pins σ Q (.ref p) { s with toks := s.toks + 1 } := ⟨.ref p, H, I.tok _, rfl, q p hp⟩
  refine subscriptTail_builtinR (x := .ref p) (T.dict I).1 slot_dict_getitem.lookup ?_ hs
  unfold getItem
  try with_reducible refine wpAny_holding ?_
  refine wpAny_bind (wpAny_sequenceKey (T.dict I).1 (by decide) ?_)
  refine wpAny_bind (wpAny_callSpecial?_slot (name := Str.ofString "__getitem__") (T.dict I).1 slot_dict_getitem (wpAny_call_entry slot_dict_getitem (T.dict I).1 entry_dict_getitem ?_ (args_dict_getitem _ _)))
  show wpAny _ _ (dictGet a (.str k tk) >>= _) _ _ _
  refine wpAny_bind (dict_get_by (I.kIn a o hl) hd2 hr.exact ?_)
  rw [hv]
  exact wpAny_pure ⟨_, rfl, wpAny_pure ⟨rfl, fin⟩⟩
/-- x in d -/
def rInTab (K : PySem.W.Frag) (D : List (Str × List V)) : R2 := fun x y H Q => ∃ a k, x = .str k ∧ y = .ref a ∧ TabK K a D ∧ Q (.bl (inKeys k D)) H
theorem op_inTab : OpR X (compareOp .In) (rInTab X.K D) := by
  intro pins s σ H x y v u Q I rx ry h
  obtain ⟨a, k, rfl, rfl, T, q⟩ := h
  cases ry
  obtain ⟨tk, rfl⟩ := rx
  show wpAny _ _ (contains (.ref a) (.str k tk) >>= fun c => pure (Value.bool c)) _ _ s
  refine wpAny_bind ?_
  unfold contains
  try with_reducible refine wpAny_holding ?_
  refine wpAny_bind (wpAny_specialOf (T.dict I).1 slot_dict_contains.lookup ?_)
  show wpAny _ _ (if (some (Value.builtin "dict.__contains__") == some Value.none) = true then _ else _) _ _ s
  rw [if_neg (by rw [beq_builtin_none]; exact Bool.false_ne_true)]
  refine wpAny_bind (wpAny_callSpecialUnlessNone?_slot (name := Str.ofString "__contains__") (T.dict I).1 slot_dict_contains (wpAny_call_entry slot_dict_contains (T.dict I).1 entry_dict_contains ?_ (args_dict_contains _ _)))
  show wpAny _ _ (dictGet a (.str k tk) >>= _) _ _ _
  refine wpAny_bind (T.ask I (fun xs p hd hp => ?_) fun hn => ?_)
  · have e : inKeys k D = true := by rw [← isSome_datumAt, hd]; rfl
    rw [e] at q
    show wpAny _ _ (ret (.bool true)) _ _ _
    exact wpAny_pure ⟨_, rfl, wpAny_truthy_bool (wpAny_pure ⟨.bl true, H, I.tok _, rfl, q⟩)⟩
  · have e : inKeys k D = false := by rw [← isSome_datumAt, hn]; rfl
    rw [e] at q
    show wpAny _ _ (Builtin.Dict.pendingKey? a (.str k tk) >>= _) _ _ _
    exact wpAny_bind (wpAny_pendingKey_other T.1 (wpAny_pure ⟨_, rfl, wpAny_truthy_bool (wpAny_pure ⟨.bl false, H, I.tok _, rfl, q⟩)⟩))
end
end L2
set_option Elab.async false
set_option linter.all false
set_option maxRecDepth 100000
namespace L2
open PySem PySem.Spec PyProof.Rows
section
variable {X : Cx}
theorem Vals.back : ∀ {xs : List V} {us : List Value}, Vals xs us → ∀ u ∈ us, ∃ v ∈ xs, RelV v u
  | _, _, .nil, u, h => nomatch h
  | x :: xs, _, .cons r t, u, h => by
    rcases List.mem_cons.mp h with rfl | h
    · exact ⟨x, List.mem_cons_self .., r⟩
    · obtain ⟨v, hv, rv⟩ := Vals.back t u h
      exact ⟨v, List.mem_cons_of_mem _ hv, rv⟩
end
end L2
set_option Elab.async false
set_option linter.all false
set_option maxRecDepth 100000
namespace L2
open PySem PySem.Spec PyProof.Rows
open Builtin.SmallTypes (nextOf)
def SIt (h : Heap) (tp : Bool) (q l : Addr) (i : Nat) : Prop := if tp then IsTupIter h q l i else h.IsListIter q l i
def SOf (h : Heap) (tp : Bool) (l : Addr) (its : Array Value) : Prop := if tp then IsTup h l its else h.IsList l its
section
variable {prog : Program} {w : World} {A : Around} {E : Value → Shared → Prop} {s : Shared} {q l : Addr} {i : Nat} {its : Array Value}
theorem SIt.at {h h' : Heap} {tp : Bool} (x : SIt h tp q l i) (k : ∀ o, h.get? q = some o → h'.get? q = some o) : SIt h' tp q l i := by
  cases tp with
  | true => obtain ⟨o, g, r⟩ := x; exact ⟨o, k o g, r⟩
  | false => obtain ⟨o, g, r⟩ := x; exact ⟨o, k o g, r⟩
theorem SIt.obj {h : Heap} {tp : Bool} (x : SIt h tp q l i) : ∃ o, h.get? q = some o ∧ ∀ v, o.data ≠ .cell v := by
  cases tp with
  | true => obtain ⟨o, g, c, d⟩ := x; exact ⟨o, g, fun v z => by rw [d] at z; cases z⟩
  | false => obtain ⟨o, g, c, d⟩ := x; exact ⟨o, g, fun v z => by rw [d] at z; cases z⟩
theorem SOf.at {h h' : Heap} {tp : Bool} (x : SOf h tp l its) (k : ∀ o, h.get? l = some o → h'.get? l = some o) : SOf h' tp l its := by
  cases tp with
  | true => obtain ⟨o, g, r⟩ := x; exact ⟨o, k o g, r⟩
  | false => obtain ⟨o, g, r⟩ := x; exact ⟨o, k o g, r⟩
theorem nextOf_item {tp : Bool} {x : Value} {Q : Value → Shared → Prop} (hq : SIt s.heap tp q l i) (hl : SOf s.heap tp l its) (hx : its[i]? = some x)
    (k : ∀ h', SIt h' tp q l (i + 1) → Heap.SameBut q s.heap h' → Q x { s with heap := h' }) : wpAny (model prog w) A (nextOf (.ref q)) Q E s := by
  cases tp with
  | false => exact wpAny_nextOf_list_item hq hl hx k
  | true =>
    have hq' : IsTupIter s.heap q l i := hq
    obtain ⟨o, go, gc, gd⟩ := id hq'
    obtain ⟨ol, gl, _, nl, gdl⟩ := (show IsTup s.heap l its from hl)
    unfold Builtin.SmallTypes.nextOf
    refine wpAny_bind (wpAny_callSpecial?_slot (name := Str.ofString "__next__") hq'.typeIs slot_tupleiter_next (wpAny_call_entry slot_tupleiter_next hq'.typeIs entry_tupleiter_next ?_ (args_tupleiter_next _)))
    show wpAny _ _ (field (.ref q) 0 >>= _) _ _ s
    refine wpAny_bind (wpAny_field go gd (x := .ref l) rfl ?_)
    show wpAny _ _ (if (Value.ref l == Value.none) = true then _ else _) _ _ s
    rw [if_neg (by exact Bool.false_ne_true : ¬ ((Value.ref l == Value.none) = true))]
    show wpAny _ _ (field (.ref q) 1 >>= _) _ _ s
    refine wpAny_bind (wpAny_field go gd (x := .int i 0) rfl ?_)
    show wpAny _ _ (seqItems? (.ref l) >>= _) _ _ s
    refine wpAny_bind (wpAny_seqItems gl gdl ?_)
    simp only [Int.toNat_natCast, hx]
    refine wpAny_bind (wpAny_setField go gd (by simp) (wpAny_pure ⟨x, rfl, ?_⟩))
    refine wpAny_pure (k _ ?_ (Heap.SameBut.update ..))
    exact ⟨_, Heap.get?_update_self _ go (Obj.isFreed_of_fields (Obj.data_mapFields gd _)), (Obj.cls_mapFields ..).trans gc, by rw [Obj.data_mapFields gd]; simp [rawInt]⟩
theorem nextOf_end {tp : Bool} {Q : Value → Shared → Prop} (hh : A.handled = none) (hq : SIt s.heap tp q l i) (hl : SOf s.heap tp l its) (hx : its[i]? = none)
    (k : ∀ h' e, Heap.ExtBut q s.heap h' → (∃ o, h'.get? e = some o ∧ o.cls = .type "StopIteration") → E (.ref e) { s with heap := h' }) : wpAny (model prog w) A (nextOf (.ref q)) Q E s := by
  cases tp with
  | false => exact wpAny_nextOf_list_end hh hq hl hx k
  | true =>
    have hq' : IsTupIter s.heap q l i := hq
    obtain ⟨o, go, gc, gd⟩ := id hq'
    obtain ⟨ol, gl, _, nl, gdl⟩ := (show IsTup s.heap l its from hl)
    unfold Builtin.SmallTypes.nextOf
    refine wpAny_bind (wpAny_callSpecial?_slot (name := Str.ofString "__next__") hq'.typeIs slot_tupleiter_next (wpAny_call_entry slot_tupleiter_next hq'.typeIs entry_tupleiter_next ?_ (args_tupleiter_next _)))
    show wpAny _ _ (field (.ref q) 0 >>= _) _ _ s
    refine wpAny_bind (wpAny_field go gd (x := .ref l) rfl ?_)
    show wpAny _ _ (if (Value.ref l == Value.none) = true then _ else _) _ _ s
    rw [if_neg (by exact Bool.false_ne_true : ¬ ((Value.ref l == Value.none) = true))]
    show wpAny _ _ (field (.ref q) 1 >>= _) _ _ s
    refine wpAny_bind (wpAny_field go gd (x := .int i 0) rfl ?_)
    show wpAny _ _ (seqItems? (.ref l) >>= _) _ _ s
    refine wpAny_bind (wpAny_seqItems gl gdl ?_)
    simp only [Int.toNat_natCast, hx]
    refine wpAny_bind (wpAny_rule ?_)
    refine wpAny_bind (wpAny_setField go gd (by simp) ?_)
    show wpAny _ _ (newExc (.type "StopIteration") [] >>= _) _ _ _
    refine wpAny_bind ?_
    simp only [newExc, newTuple]
    refine wpAny_bind (wpAny_newObj_type ?_ (by size_fits))
    refine wpAny_bind (m := firstArgMember _ _) ?_
    refine wpAny_of_eq (a := Value.none) (by first | rfl | (simp only [firstArgMember]; rfl)) ?_
    refine wpAny_newObj_type ?_ (by size_fits)
    simp only [raiseNew]
    refine wpAny_bind (wpAny_handled ?_)
    first | rw [show A.in1.handled = none from hh] | rw [hh]
    refine wpAny_bind (wpAny_pure (wpAny_throw ?_))
    exact k _ _ (((Heap.SameBut.update ..).extBut.push _).push _) ⟨_, Heap.get?_push_size _ rfl, rfl⟩
theorem neN {a b : Nat} (h : a < b ∨ b < a) : a ≠ b := by omega
theorem zipNext {n l1 l2 k : Nat} {xs ys : Array Value} {x y a b : Value} {t1 t2 : Bool} {Q : Value → Shared → Prop} (b1 : l1 < n) (b2 : l2 < n) (gz : IsZip s.heap (n + 4) (n + 2) (n + 3) .none) (gi : IsPair s.heap (n + 2) (.ref n) (.ref (n + 1))) (go : IsPair s.heap (n + 3) a b)
    (q1 : SIt s.heap t1 n l1 k) (q2 : SIt s.heap t2 (n + 1) l2 k) (o1 : SOf s.heap t1 l1 xs) (o2 : SOf s.heap t2 l2 ys) (hx : xs[k]? = some x) (hy : ys[k]? = some y)
    (kk : ∀ h', IsZip h' (n + 4) (n + 2) (n + 3) (rawInt s.heap.objs.size) → IsPair h' (n + 3) x y → SIt h' t1 n l1 (k + 1) → SIt h' t2 (n + 1) l2 (k + 1) → IsPair h' s.heap.objs.size x y → h'.objs.size = s.heap.objs.size + 1 →
      (∀ c o, c ≠ n + 4 → c ≠ n + 3 → c ≠ n → c ≠ n + 1 → s.heap.get? c = some o → h'.get? c = some o) → Q (.ref s.heap.objs.size) { s with heap := h' }) :
    wpAny (model prog w) A (Builtin.«zip.__next__» ⟨[.ref (n + 4)], []⟩) (fun fin s' => ∃ v, fin = .done (.ret v) ∧ Q v s') E s := by
  show wpAny _ _ (field (.ref (n + 4)) 2 >>= _) _ _ _
  refine wpAny_bind (wpAny_field gz rfl (x := .bool false) rfl ?_)
  show wpAny _ _ (field (.ref (n + 4)) 3 >>= _) _ _ _
  refine wpAny_bind (wpAny_field gz rfl (x := .ref (n + 2)) rfl ?_)
  refine wpAny_bind (wpAny_seqItems gi rfl ?_)
  show wpAny _ _ (Builtin.SmallTypes.ownedTupleIsFree (.ref (n + 4)) >>= _) _ _ _
  refine wpAny_bind ?_
  unfold Builtin.SmallTypes.ownedTupleIsFree
  refine wpAny_bind (wpAny_field gz rfl (x := .none) rfl ?_)
  refine wpAny_pure ?_
  simp only [if_true]
  refine wpAny_bind (wpAny_rule ?_)
  refine wpAny_bind (wpAny_field gz rfl (x := .ref (n + 3)) rfl ?_)
  refine wpAny_bind (wpAny_setField_rec gz (by simp) fun m1 gz1 e1 => ?_)
  replace gz1 : IsZip m1 (n + 4) (n + 2) (n + 3) .ellipsis := gz1
  refine wpAny_bind ?_
  simp only [List.zipIdx_cons, List.zipIdx_nil, List.forIn_cons, List.forIn_nil]
  refine wpAny_bind (wpAny_bind ?_)
  refine wpAny_onRaise ?_
  show wpAny _ _ (nextOf (.ref n) >>= _) _ _ _
  refine wpAny_bind (nextOf_item (q1.at fun o g => e1.extBut _ _ (neN (by omega)) g) (o1.at fun o g => e1.extBut _ _ (neN (by omega)) g) hx fun m2 r1 e2 => ?_)
  refine wpAny_pure ?_
  have go2 : IsPair m2 (n + 3) a b := e2.extBut _ _ (neN (by omega)) (e1.extBut _ _ (neN (by omega)) go)
  refine wpAny_bind (wpAny_seqItems go2 rfl ?_)
  refine wpAny_bind (wpAny_updateSeq_pair go2 fun m3 go3 e3 => ?_)
  replace go3 : IsPair m3 (n + 3) x b := go3
  refine wpAny_bind (wpAny_letGo ?_)
  refine wpAny_pure ?_
  refine wpAny_bind (wpAny_bind ?_)
  refine wpAny_onRaise ?_
  show wpAny _ _ (nextOf (.ref (n + 1)) >>= _) _ _ _
  refine wpAny_bind (nextOf_item (q2.at fun o g => e3.extBut _ _ (neN (by omega)) (e2.extBut _ _ (neN (by omega)) (e1.extBut _ _ (neN (by omega)) g))) (o2.at fun o g => e3.extBut _ _ (neN (by omega)) (e2.extBut _ _ (neN (by omega)) (e1.extBut _ _ (neN (by omega)) g))) hy fun m4 r2 e4 => ?_)
  refine wpAny_pure ?_
  have go4 : IsPair m4 (n + 3) x b := e4.extBut _ _ (neN (by omega)) go3
  refine wpAny_bind (wpAny_seqItems go4 rfl ?_)
  refine wpAny_bind (wpAny_updateSeq_pair go4 fun m5 go5 e5 => ?_)
  replace go5 : IsPair m5 (n + 3) x y := go5
  refine wpAny_bind (wpAny_letGo ?_)
  refine wpAny_pure (wpAny_pure ?_)
  refine wpAny_bind (wpAny_seqItems go5 rfl ?_)
  refine wpAny_bind (wpAny_newTuple ?_)
  have hsz : m5.objs.size = s.heap.objs.size := by rw [e5.1, e4.1, e3.1, e2.1, e1.1]
  have gz5 : IsZip m5 (n + 4) (n + 2) (n + 3) .ellipsis := e5.extBut _ _ (neN (by omega)) (e4.extBut _ _ (neN (by omega)) (e3.extBut _ _ (neN (by omega)) (e2.extBut _ _ (neN (by omega)) gz1)))
  have keep5 : ∀ c o, c ≠ n + 4 → c ≠ n + 3 → c ≠ n → c ≠ n + 1 → s.heap.get? c = some o → m5.get? c = some o := fun c o d1 d2 d3 d4 g =>
    e5.extBut _ _ d2 (e4.extBut _ _ d4 (e3.extBut _ _ d2 (e2.extBut _ _ d3 (e1.extBut _ _ d1 g))))
  have r15 : SIt m5 t1 n l1 (k + 1) := r1.at fun o g => e5.extBut _ _ (neN (by omega)) (e4.extBut _ _ (neN (by omega)) (e3.extBut _ _ (neN (by omega)) g))
  have r25 : SIt m5 t2 (n + 1) l2 (k + 1) := r2.at fun o g => e5.extBut _ _ (neN (by omega)) g
  have lt5 : n + 4 < m5.objs.size := Heap.lt_size gz5
  show wpAny _ _ (Builtin.SmallTypes.ownedTupleHandOut (.ref (n + 4)) (.ref m5.objs.size) >>= _) _ _ _
  refine wpAny_bind ?_
  unfold Builtin.SmallTypes.ownedTupleHandOut
  have gz6 : IsZip (m5.push { cls := .type "tuple", data := .seq #[x, y] }) (n + 4) (n + 2) (n + 3) .ellipsis := Heap.get?_push_of_some _ gz5
  refine wpAny_bind (wpAny_setField_rec gz6 (by simp) fun m7 gz7 e7 => ?_)
  replace gz7 : IsZip m7 (n + 4) (n + 2) (n + 3) (rawInt m5.objs.size) := gz7
  refine wpAny_setField_rec gz7 (by simp) fun m8 gz8 e8 => ?_
  replace gz8 : IsZip m8 (n + 4) (n + 2) (n + 3) (rawInt m5.objs.size) := gz8
  have up : ∀ c o, c ≠ n + 4 → m5.get? c = some o → m8.get? c = some o := fun c o d1 g => e8.extBut _ _ d1 (e7.extBut _ _ d1 (Heap.get?_push_of_some _ g))
  have gt8 : IsPair m8 m5.objs.size x y := e8.extBut _ _ (Nat.ne_of_gt lt5) (e7.extBut _ _ (Nat.ne_of_gt lt5) (Heap.get?_push_size _ rfl))
  have hs8 : m8.objs.size = m5.objs.size + 1 := by rw [e8.1, e7.1, Heap.size_push]
  rw [hsz] at gz8 gt8 hs8
  refine wpAny_pure ⟨_, rfl, ?_⟩
  show Q (.ref m5.objs.size) _
  rw [hsz]
  exact kk m8 gz8 (up _ _ (neN (by omega)) go5) (r15.at fun o g => up _ o (neN (by omega)) g) (r25.at fun o g => up _ o (neN (by omega)) g) gt8 hs8 fun c o d1 d2 d3 d4 g => up c o d1 (keep5 c o d1 d2 d3 d4 g)
theorem zipDone {n l1 l2 k : Nat} {xs ys : Array Value} {a b : Value} {t1 t2 : Bool} {Q : Fin → Shared → Prop} (hh : A.handled = none) (b1 : l1 < n) (b2 : l2 < n) (gz : IsZip s.heap (n + 4) (n + 2) (n + 3) .none) (gi : IsPair s.heap (n + 2) (.ref n) (.ref (n + 1))) (go : IsPair s.heap (n + 3) a b)
    (q1 : SIt s.heap t1 n l1 k) (q2 : SIt s.heap t2 (n + 1) l2 k) (o1 : SOf s.heap t1 l1 xs) (o2 : SOf s.heap t2 l2 ys) (hend : xs[k]? = none ∨ ys[k]? = none)
    (kk : ∀ h' e, (∀ c o, c ≠ n + 4 → c ≠ n + 3 → c ≠ n → c ≠ n + 1 → s.heap.get? c = some o → h'.get? c = some o) → (∃ o, h'.get? e = some o ∧ o.cls = .type "StopIteration") → E (.ref e) { s with heap := h' }) :
    wpAny (model prog w) A (Builtin.«zip.__next__» ⟨[.ref (n + 4)], []⟩) Q E s := by
  show wpAny _ _ (field (.ref (n + 4)) 2 >>= _) _ _ _
  refine wpAny_bind (wpAny_field gz rfl (x := .bool false) rfl ?_)
  show wpAny _ _ (field (.ref (n + 4)) 3 >>= _) _ _ _
  refine wpAny_bind (wpAny_field gz rfl (x := .ref (n + 2)) rfl ?_)
  refine wpAny_bind (wpAny_seqItems gi rfl ?_)
  show wpAny _ _ (Builtin.SmallTypes.ownedTupleIsFree (.ref (n + 4)) >>= _) _ _ _
  refine wpAny_bind ?_
  unfold Builtin.SmallTypes.ownedTupleIsFree
  refine wpAny_bind (wpAny_field gz rfl (x := .none) rfl ?_)
  refine wpAny_pure ?_
  simp only [if_true]
  refine wpAny_bind (wpAny_rule ?_)
  refine wpAny_bind (wpAny_field gz rfl (x := .ref (n + 3)) rfl ?_)
  refine wpAny_bind (wpAny_setField_rec gz (by simp) fun m1 gz1 e1 => ?_)
  replace gz1 : IsZip m1 (n + 4) (n + 2) (n + 3) .ellipsis := gz1
  refine wpAny_bind ?_
  simp only [List.zipIdx_cons, List.zipIdx_nil, List.forIn_cons, List.forIn_nil]
  refine wpAny_bind (wpAny_bind ?_)
  refine wpAny_onRaise ?_
  show wpAny _ _ (nextOf (.ref n) >>= _) _ _ _
  have p1 : SIt m1 t1 n l1 k := q1.at fun o g => e1.extBut _ _ (neN (by omega)) g
  have p2 : SOf m1 t1 l1 xs := o1.at fun o g => e1.extBut _ _ (neN (by omega)) g
  cases hx : xs[k]? with
  | none =>
    refine wpAny_bind (nextOf_end hh p1 p2 hx fun m2 e g2 he => ?_)
    obtain ⟨oe, hoe, hce⟩ := he
    have gz2 : IsZip m2 (n + 4) (n + 2) (n + 3) .ellipsis := g2 _ _ (neN (by omega)) gz1
    have ne : e ≠ n + 4 := fun z => by subst z; rw [gz2] at hoe; cases hoe; simp at hce
    refine wpAny_setField_rec gz2 (by simp) fun m3 _ e3 => ?_
    exact kk m3 e (fun c o d1 _ d3 _ g => e3.extBut _ _ d1 (g2 _ _ d3 (e1.extBut _ _ d1 g))) ⟨oe, e3.extBut _ _ ne hoe, hce⟩
  | some x =>
    have hy : ys[k]? = none := by
      rcases hend with z | z
      · rw [hx] at z; cases z
      · exact z
    refine wpAny_bind (nextOf_item p1 p2 hx fun m2 r1 e2 => ?_)
    refine wpAny_pure ?_
    have go2 : IsPair m2 (n + 3) a b := e2.extBut _ _ (neN (by omega)) (e1.extBut _ _ (neN (by omega)) go)
    refine wpAny_bind (wpAny_seqItems go2 rfl ?_)
    refine wpAny_bind (wpAny_updateSeq_pair go2 fun m3 go3 e3 => ?_)
    refine wpAny_bind (wpAny_letGo ?_)
    refine wpAny_pure ?_
    refine wpAny_bind (wpAny_bind ?_)
    refine wpAny_onRaise ?_
    show wpAny _ _ (nextOf (.ref (n + 1)) >>= _) _ _ _
    refine wpAny_bind (nextOf_end hh (q2.at fun o g => e3.extBut _ _ (neN (by omega)) (e2.extBut _ _ (neN (by omega)) (e1.extBut _ _ (neN (by omega)) g))) (o2.at fun o g => e3.extBut _ _ (neN (by omega)) (e2.extBut _ _ (neN (by omega)) (e1.extBut _ _ (neN (by omega)) g))) hy fun m4 e g4 he => ?_)
    obtain ⟨oe, hoe, hce⟩ := he
    have gz4 : IsZip m4 (n + 4) (n + 2) (n + 3) .ellipsis := g4 _ _ (neN (by omega)) (e3.extBut _ _ (neN (by omega)) (e2.extBut _ _ (neN (by omega)) gz1))
    have ne : e ≠ n + 4 := fun z => by subst z; rw [gz4] at hoe; cases hoe; simp at hce
    refine wpAny_setField_rec gz4 (by simp) fun m5 _ e5 => ?_
    exact kk m5 e (fun c o d1 d2 d3 d4 g => e5.extBut _ _ d1 (g4 _ _ d4 (e3.extBut _ _ d2 (e2.extBut _ _ d3 (e1.extBut _ _ d1 g))))) ⟨oe, e5.extBut _ _ ne hoe, hce⟩
def itN (tp : Bool) : String := if tp then "tuple_iterator" else "list_iterator"
theorem iterS {tp : Bool} {Q : Value → Shared → Prop} (hl : SOf s.heap tp l its) (k : Q (.ref s.heap.objs.size) { s with heap := s.heap.push { cls := .type (itN tp), data := .fields #[.ref l, .int 0 0] } }) : wpAny (model prog w) A (pyIter (.ref l)) Q E s := by
  cases tp with
  | true => exact iter_tuple hl k
  | false => exact wpAny_pyIter_list hl k
theorem SIt.new {tp : Bool} {h : Heap} : SIt (h.push { cls := .type (itN tp), data := .fields #[.ref l, .int 0 0] }) tp h.objs.size l 0 := by
  cases tp with
  | true => exact ⟨_, Heap.get?_push_size _ rfl, rfl, rfl⟩
  | false => exact ⟨_, Heap.get?_push_size _ rfl, rfl, rfl⟩
abbrev zp1 (h : Heap) (t1 : Bool) (l1 : Addr) : Heap := h.push { cls := .type (itN t1), data := .fields #[.ref l1, .int 0 0] }
abbrev zp2 (h : Heap) (t1 t2 : Bool) (l1 l2 : Addr) : Heap := (zp1 h t1 l1).push { cls := .type (itN t2), data := .fields #[.ref l2, .int 0 0] }
abbrev zp3 (h : Heap) (t1 t2 : Bool) (l1 l2 : Addr) : Heap := (zp2 h t1 t2 l1 l2).push { cls := .type "tuple", data := .seq #[.ref h.objs.size, .ref (zp1 h t1 l1).objs.size] }
abbrev zp4 (h : Heap) (t1 t2 : Bool) (l1 l2 : Addr) : Heap := (zp3 h t1 t2 l1 l2).push { cls := .type "tuple", data := .seq #[.none, .none] }
abbrev zp5 (h : Heap) (t1 t2 : Bool) (l1 l2 : Addr) : Heap := (zp4 h t1 t2 l1 l2).push { cls := .type "zip", data := .fields #[.none, .bool false, .bool false, .ref (zp2 h t1 t2 l1 l2).objs.size, .ref (zp3 h t1 t2 l1 l2).objs.size] }
theorem zipNew (t1 t2 : Bool) (l1 l2 : Addr) (xs ys : Array Value) :
    Meets (Builtin.«zip.__new__» ⟨[.type "zip", .ref l1, .ref l2], []⟩) (fun _ R s => SOf s.heap t1 l1 xs ∧ SOf s.heap t2 l2 ys ∧ R (.ok (.ret (.ref (zp4 s.heap t1 t2 l1 l2).objs.size))) { s with heap := zp5 s.heap t1 t2 l1 l2 }) :=
  .of_wp fun prog w A R s h => by
    obtain ⟨hp, g, d, tk, os⟩ := s
    obtain ⟨y1, y2, h⟩ := h
    have hsub := sub_zip
    have Y1 : SOf (Shared.heap ⟨hp, g, d, tk, os⟩) t1 l1 xs := y1
    have Y2 : SOf (Shared.heap ⟨hp.push { cls := .type (itN t1), data := .fields #[.ref l1, .int 0 0] }, g, d, tk, os⟩) t2 l2 ys := y2.at fun o z => Heap.get?_push_of_some _ z
    wp_walk using iterS Y1, iterS Y2
    exact ⟨_, rfl, h⟩
end
end L2
set_option Elab.async false
set_option linter.all false
set_option maxRecDepth 100000
namespace L2
open PySem PySem.Spec PyProof.Rows
theorem boot_zipT : bootBuiltins "zip" = some (.type "zip") := by decide +kernel
section
variable {prog : Program} {w : World} {A : Around} {E : Value → Shared → Prop} {s : Shared}
def ZSt (h : Heap) (n : Nat) (t1 t2 : Bool) (l1 l2 : Addr) (i : Nat) : Prop :=
  ∃ a b, IsZip h (n + 4) (n + 2) (n + 3) .none ∧ IsPair h (n + 2) (.ref n) (.ref (n + 1)) ∧ IsPair h (n + 3) a b ∧ SIt h t1 n l1 i ∧ SIt h t2 (n + 1) l2 i
theorem call_zipS {t1 t2 : Bool} {l1 l2 : Addr} {xs ys : Array Value} {Q : Value → Shared → Prop} (y1 : SOf s.heap t1 l1 xs) (y2 : SOf s.heap t2 l2 ys)
    (k : ∀ h', ZSt h' s.heap.objs.size t1 t2 l1 l2 0 → (∀ c o, s.heap.get? c = some o → h'.get? c = some o) → Q (.ref (s.heap.objs.size + 4)) { s with heap := h' }) :
    wpAny (model prog w) A (call (.type "zip") [.ref l1, .ref l2]) Q E s := by
  refine callType_new F.called_zip (by decide) (F.typeCall_zip_2 _ _) (F.newCall_zip_2 _ _) (fun obj => F.args_object_init_3 obj _ _) F.entry_zip_new (zipNew t1 t2 l1 l2 xs ys) ⟨y1, y2, ?_⟩
  have z1 : (zp1 s.heap t1 l1).objs.size = s.heap.objs.size + 1 := Heap.size_push ..
  have z2 : (zp2 s.heap t1 t2 l1 l2).objs.size = s.heap.objs.size + 2 := by rw [Heap.size_push, z1]
  have z3 : (zp3 s.heap t1 t2 l1 l2).objs.size = s.heap.objs.size + 3 := by rw [Heap.size_push, z2]
  have z4 : (zp4 s.heap t1 t2 l1 l2).objs.size = s.heap.objs.size + 4 := by rw [Heap.size_push, z3]
  have u5 : ∀ c o, (zp4 s.heap t1 t2 l1 l2).get? c = some o → (zp5 s.heap t1 t2 l1 l2).get? c = some o := fun c o g => Heap.get?_push_of_some _ g
  have u4 : ∀ c o, (zp3 s.heap t1 t2 l1 l2).get? c = some o → (zp5 s.heap t1 t2 l1 l2).get? c = some o := fun c o g => u5 c o (Heap.get?_push_of_some _ g)
  have u3 : ∀ c o, (zp2 s.heap t1 t2 l1 l2).get? c = some o → (zp5 s.heap t1 t2 l1 l2).get? c = some o := fun c o g => u4 c o (Heap.get?_push_of_some _ g)
  have u2 : ∀ c o, (zp1 s.heap t1 l1).get? c = some o → (zp5 s.heap t1 t2 l1 l2).get? c = some o := fun c o g => u3 c o (Heap.get?_push_of_some _ g)
  have g5 : (zp5 s.heap t1 t2 l1 l2).get? (zp4 s.heap t1 t2 l1 l2).objs.size = some _ := Heap.get?_push_size _ rfl
  have g4 : (zp5 s.heap t1 t2 l1 l2).get? (zp3 s.heap t1 t2 l1 l2).objs.size = some _ := u5 _ _ (Heap.get?_push_size _ rfl)
  have g3 : (zp5 s.heap t1 t2 l1 l2).get? (zp2 s.heap t1 t2 l1 l2).objs.size = some _ := u4 _ _ (Heap.get?_push_size _ rfl)
  have i2 : SIt (zp5 s.heap t1 t2 l1 l2) t2 (zp1 s.heap t1 l1).objs.size l2 0 := SIt.new.at fun o g => u3 _ o g
  have i1 : SIt (zp5 s.heap t1 t2 l1 l2) t1 s.heap.objs.size l1 0 := SIt.new.at fun o g => u2 _ o g
  show _ ∧ _
  rw [z2, z3, z4] at g5
  rw [z1, z2] at g3
  rw [z3] at g4
  rw [z1] at i2
  rw [z4]
  exact ⟨⟨_, g5, rfl⟩, k _ ⟨_, _, g5, g3, g4, i1, i2⟩ fun c o g => u2 c o (Heap.get?_push_of_some _ g)⟩
end
def Sq (K : PySem.W.Frag) (tp : Bool) (H : Hp) (l : Addr) (xs : List V) : Prop := if tp then SqT K H l xs else SqL K H l xs
section
variable {X : Cx} {pins : List (Addr × Obj)} {σ : St} {H : Hp} {s : Shared}
theorem Inv.sq {tp : Bool} {l : Addr} {xs : List V} (I : Inv X pins σ H s) (h : Sq X.K tp H l xs) : ∃ its : List Value, Vals xs its ∧ SOf s.heap tp l its.toArray ∧ l < s.heap.objs.size := by
  cases tp with
  | true =>
    obtain ⟨its, r, pl, z⟩ := I.tuple h
    obtain ⟨o, g, _⟩ := id pl
    exact ⟨its, r, pl, Heap.lt_size g⟩
  | false =>
    obtain ⟨its, r, pl, z⟩ := I.list h
    obtain ⟨o, g, _⟩ := id pl.isList
    exact ⟨its, r, pl.isList, Heap.lt_size g⟩
theorem Inv.sq_inj {tp : Bool} {l : Addr} {xs ys : List V} (I : Inv X pins σ H s) (h : Sq X.K tp H l xs) (h' : Sq X.K tp H l ys) : xs = ys := by
  cases tp with
  | true => exact I.tuple_inj h h'
  | false => exact I.list_inj h h'
end
section
variable {X : Cx} {pins : List (Addr × Obj)} {σ : St} {H : Hp} {s : Shared} {h' : Heap}
/-- records that turned, nothing new -/
theorem Inv.turnedM {ch : List Addr} {t' : Nat} (I : Inv X pins σ H s) (k : ∀ b u, b ∉ ch → s.heap.get? b = some u → h'.get? b = some u) (hf : ∀ b ∈ ch, FpOk X pins H b) : Inv X pins σ H { s with heap := h', toks := t' } := by
  have nit : ∀ b u, H b = some u → b ∉ ch := fun b u e z => by rw [(hf b z).1] at e; cases e
  refine I.step (g' := s.gens) (d' := s.drawn) (ch := ch) (fun b hb => ?_) (fun b u _ _ hc e _ => k b u hc e) (fun b u _ _ hc e _ => ⟨u.slots, k b u hc e⟩) (fun b u _ e n => n)
    (fun b u hc e => ⟨u, k b u hc e⟩) (fun b xs e => e) (fun b u xs e => e) (fun b ps e => ⟨#[], by rw [e]; simp⟩) (fun m hm => ?_) (fun b u e => ?_) I.bare
  · obtain ⟨_, f1, _, f3, f4, f5⟩ := hf b hb
    exact ⟨f3, f1, f4, f5⟩
  · obtain ⟨ob, es, ep, ho, r⟩ := hm
    exact ⟨ob, es, ep, k _ ob (fun z => (hf _ z).2.1 rfl) ho, r⟩
  · refine (I.hok b u e).stay (fun c v hc q => k c v ?_ q) (fun c q => q) fun c xs q => q
    rcases hc with rfl | hc
    · exact nit _ u e
    · exact nit c _ hc
end
def Itz (K : PySem.W.Frag) (t1 t2 : Bool) (l1 l2 : Addr) : It :=
  ⟨fun i H => ∃ xs ys x y, Sq K t1 H l1 xs ∧ Sq K t2 H l2 ys ∧ xs[i]? = some x ∧ ys[i]? = some y,
   fun i H x H' => ∃ p u v, H p = none ∧ x = .ref p ∧ H' = upd H p (.tup [u, v]) ∧ ∀ xs ys, Sq K t1 H l1 xs → Sq K t2 H l2 ys → xs[i]? = some u ∧ ys[i]? = some v,
   fun i H => ∃ xs ys, Sq K t1 H l1 xs ∧ Sq K t2 H l2 ys ∧ (xs[i]? = none ∨ ys[i]? = none)⟩
theorem vals_none {xs : List V} {us : List Value} {i : Nat} (r : Vals xs us) (h : xs[i]? = none) : us[i]? = none := by
  rw [List.getElem?_eq_none_iff] at h ⊢
  rw [← r.length]
  exact h
theorem turn_zip {P : Program} {w : World} {K : PySem.W.Frag} {es : List Expr} {k : Nat} {tp : Pos} {t1 t2 : Bool} (l1 l2 n : Nat) (b1 : l1 < n) (b2 : l2 < n) :
    Turn P w K (.Tuple es k tp) (Itz K t1 t2 l1 l2) [n, n + 1, n + 2, n + 3, n + 4] (n + 4) (fun i h => ZSt h n t1 t2 l1 l2 i) where
  mem := by simp
  obj := fun i h st b hb => by
    obtain ⟨x, y, gz, gi, go, q1, q2⟩ := st
    have hb' : b = n ∨ b = n + 1 ∨ b = n + 2 ∨ b = n + 3 ∨ b = n + 4 := by simpa using hb
    rcases hb' with rfl | rfl | rfl | rfl | rfl
    · exact q1.obj
    · exact q2.obj
    · exact ⟨_, gi, fun v z => by
        have z' : Data.seq _ _ = Data.cell v := z
        cases z'⟩
    · exact ⟨_, go, fun v z => by
        have z' : Data.seq _ _ = Data.cell v := z
        cases z'⟩
    · exact ⟨_, gz, fun v z => by
        have z' : Data.fields _ = Data.cell v := z
        cases z'⟩
  keep := fun i h h' st kk => by
    obtain ⟨x, y, gz, gi, go, q1, q2⟩ := st
    exact ⟨x, y, kk _ (by simp) _ gz, kk _ (by simp) _ gi, kk _ (by simp) _ go, q1.at fun o z => kk _ (by simp) o z, q2.at fun o z => kk _ (by simp) o z⟩
  item := by
    intro X hP hw hK hc i pins s σ H E I hf st hg
    subst hP hw hK
    obtain ⟨xs, ys, x, y, hq1, hq2, hx, hy⟩ := hg
    obtain ⟨its1, rv1, so1, _⟩ := I.sq hq1
    obtain ⟨its2, rv2, so2, _⟩ := I.sq hq2
    obtain ⟨u1, hu1, ru1⟩ := rv1.get hx
    obtain ⟨u2, hu2, ru2⟩ := rv2.get hy
    obtain ⟨x0, y0, gz, gi, go, q1, q2⟩ := st
    have lt4 : n + 4 < s.heap.objs.size := Heap.lt_size gz
    have hT : s.TypeIs (.ref (n + 4)) "zip" := ⟨_, gz, rfl⟩
    unfold pyNext
    refine wpAny_bind (wpAny_attempt (wpAny_callSpecial?_slot (name := Str.ofString "__next__") hT F.slot_zip_next (wpAny_call_entry F.slot_zip_next hT F.entry_zip_next ?_ (F.args_zip_next_1 _))))
    refine zipNext b1 b2 gz gi go q1 q2 so1 so2 (x := u1) (y := u2) (by simpa using hu1) (by simpa using hu2) fun h' gz' go' r1 r2 hT' hsz kp => ?_
    refine wpAny_pure ?_
    refine ⟨_, rfl, wpAny_letOwnedTupleGo_zip gz' fun h2 gz2 hs2 => ?_⟩
    have kp2 : ∀ b ob, b ∉ [n, n + 1, n + 2, n + 3, n + 4] → s.heap.get? b = some ob → h2.get? b = some ob := fun b ob hb z => by
      have d4 : b ≠ n + 4 := fun q => hb (by simp [q])
      have d3 : b ≠ n + 3 := fun q => hb (by simp [q])
      have d0 : b ≠ n := fun q => hb (by simp [q])
      have d1 : b ≠ n + 1 := fun q => hb (by simp [q])
      exact (hs2.2 b d4).trans (kp b ob d4 d3 d0 d1 z)
    have up2 : ∀ b ob, b ≠ n + 4 → h'.get? b = some ob → h2.get? b = some ob := fun b ob d z => (hs2.2 b d).trans z
    have hT2 : h2.get? s.heap.objs.size = some { cls := .type "tuple", data := .seq #[u1, u2] } := up2 _ _ (Nat.ne_of_gt lt4) hT'
    have fresh : H s.heap.objs.size = none := I.hok.fresh (Nat.le_refl _)
    have new : ObjOk X.prog X.w (upd H s.heap.objs.size (.tup [x, y])) h2 s.heap.objs.size (.tup [x, y]) := ⟨by show 2 ≤ sizeLine; decide, [u1, u2], .cons ru1 (.cons ru2 .nil), ⟨_, hT2, rfl, _, rfl⟩⟩
    refine ⟨.ref s.heap.objs.size, upd H s.heap.objs.size (.tup [x, y]), I.turnedL kp2 hf (Nat.le_refl _) new, rfl, ⟨_, x, y, fresh, rfl, rfl, fun as bs ha hb => by rw [I.sq_inj ha hq1, I.sq_inj hb hq2]; exact ⟨hx, hy⟩⟩, ⟨_, _, gz2, ?_, up2 _ _ (neN (by omega)) go', r1.at fun o z => up2 _ o (neN (by omega)) z, r2.at fun o z => up2 _ o (neN (by omega)) z⟩, fun b hb => ?_⟩
    · exact up2 _ _ (neN (by omega)) (kp _ _ (neN (by omega)) (neN (by omega)) (neN (by omega)) (neN (by omega)) gi)
    · rw [upd_ne]
      · exact (hf b hb).1
      · have hb' : b = n ∨ b = n + 1 ∨ b = n + 2 ∨ b = n + 3 ∨ b = n + 4 := by simpa using hb
        rcases hb' with rfl | rfl | rfl | rfl | rfl <;> exact neN (by omega)
  done := by
    intro X hP hw hK hc i pins s σ H E I hf st hg
    subst hP hw hK
    obtain ⟨xs, ys, hq1, hq2, hxy⟩ := hg
    obtain ⟨its1, rv1, so1, _⟩ := I.sq hq1
    obtain ⟨its2, rv2, so2, _⟩ := I.sq hq2
    obtain ⟨x0, y0, gz, gi, go, q1, q2⟩ := st
    have hT : s.TypeIs (.ref (n + 4)) "zip" := ⟨_, gz, rfl⟩
    have hend : its1.toArray[i]? = none ∨ its2.toArray[i]? = none := hxy.imp (fun z => by simpa using vals_none rv1 z) fun z => by simpa using vals_none rv2 z
    unfold pyNext
    refine wpAny_bind (wpAny_attempt (wpAny_callSpecial?_slot (name := Str.ofString "__next__") hT F.slot_zip_next (wpAny_call_entry F.slot_zip_next hT F.entry_zip_next (zipDone (I.ok.hd hc) b1 b2 gz gi go q1 q2 so1 so2 hend fun h' e kp he => ?_) (F.args_zip_next_1 _))))
    obtain ⟨o, ho, hce⟩ := he
    refine wpAny_bind (wpAny_isInstance (T := "StopIteration") (b := true) ⟨o, ho, hce⟩ isSubtype_stop ?_)
    refine wpAny_pure ⟨rfl, ?_⟩
    refine I.turnedM (t' := s.toks) (ch := [n, n + 1, n + 2, n + 3, n + 4]) (fun b ob hb z => ?_) hf
    exact kp b ob (fun q => hb (by simp [q])) (fun q => hb (by simp [q])) (fun q => hb (by simp [q])) (fun q => hb (by simp [q])) z
  self := fun _ _ _ _ _ st h => by
    obtain ⟨x0, y0, gz, gi, go, q1, q2⟩ := st
    exact wpAny_pyIter_zip gz h
/-- for .. in zip(a, b), the tuple into names -/
def iZip (K : PySem.W.Frag) (ta : TA) : TI := fun σ H R => ta σ H fun vs H1 => ∃ t1 t2 l1 l2 xs ys, vs = [.ref l1, .ref l2] ∧ Sq K t1 H1 l1 xs ∧ Sq K t2 H1 l2 ys ∧ R (Itz K t1 t2 l1 l2) H1
section
variable {X : Cx}
theorem pi_zip {a b : Expr} {ta : TA} {p pos tp : Pos} {es : List Expr} {k : Nat} (hg : Gl X "zip") (hm : X.mg "zip" = none) (ha : PA X [a, b] ta) (hs : starEach [a, b] X.env = (false, eval a X.env) :: starEach [b] X.env := by rfl) (hp : (backTo pos (starEach [b] X.env)).any (·.1) = false := by rfl) :
    PI X (.Tuple es k tp) (.Call (.Name "zip" p) [a, b] [] pos) (iZip X.K ta) := by
  intro pins s σ H R I h
  refine Call_ (ld_blt I hg hm boot_zipT (PyProof.Rows.callWith_type1 (thn (ha pos pins s σ H _ I h) fun us s1 ⟨vs, H1, I1, r1, q1⟩ => ?_) hs hp))
  obtain ⟨t1, t2, l1, l2, xs, ys, e, hq1, hq2, q⟩ := q1
  subst e
  cases r1 with
  | cons r rr =>
    cases rr with
    | cons r2 rr =>
      cases rr
      cases r
      cases r2
      obtain ⟨its1, rv1, so1, b1⟩ := I1.sq hq1
      obtain ⟨its2, rv2, so2, b2⟩ := I1.sq hq2
      refine call_zipS so1 so2 fun h' st kp => ?_
      obtain ⟨x0, y0, gz, gi, go, i1, i2⟩ := id st
      refine wpAny_pyIter_zip gz ⟨_, [s1.heap.objs.size, s1.heap.objs.size + 1, s1.heap.objs.size + 2, s1.heap.objs.size + 3, s1.heap.objs.size + 4], _, Itz X.K t1 t2 l1 l2, H1, rfl, I1.kept (t' := s1.toks) kp, turn_zip l1 l2 s1.heap.objs.size b1 b2, st, fun b hb => ?_, q⟩
      have hb' : s1.heap.objs.size ≤ b := by
        have hb' : b = s1.heap.objs.size ∨ b = s1.heap.objs.size + 1 ∨ b = s1.heap.objs.size + 2 ∨ b = s1.heap.objs.size + 3 ∨ b = s1.heap.objs.size + 4 := by simpa using hb
        rcases hb' with rfl | rfl | rfl | rfl | rfl
        · exact Nat.le_refl _
        · exact Nat.le_add_right ..
        · exact Nat.le_add_right ..
        · exact Nat.le_add_right ..
        · exact Nat.le_add_right ..
      exact I1.fpOk hb' (I1.hok.fresh hb')
end
end L2
set_option Elab.async false
set_option linter.all false
set_option maxRecDepth 100000
namespace L2
open PySem PySem.Spec PyProof.Rows
theorem boot_sortedF : bootBuiltins "sorted" = some (.builtin "sorted") := by decide +kernel
theorem ints_vals : ∀ {us : List Value} {ns : List Int}, IntsAre us ns → Vals (ns.map V.int) us
  | _, _, .nil => .nil
  | _, _, .cons n t r => .cons ⟨t, rfl⟩ (ints_vals r)
section
variable {X : Cx}
end
end L2
set_option Elab.async false
set_option linter.all false
set_option maxRecDepth 100000
namespace L2
open PySem PySem.Spec PyProof.Rows
theorem boot_allF : bootBuiltins "all" = some (.builtin "all") := by decide +kernel
section
variable {X : Cx}
/-- all(x), any(x) of a list of truths -/
def rAllB : List V → Hp → VK → Prop := fun xs H Q => ∃ (l : Addr) (bs : List Bool), xs = [.ref l] ∧ H l = some (.lst (bs.map V.bl)) ∧ Q (.bl (bs.all id)) H
theorem range_all (bs : List Bool) : (List.range bs.length).all (fun i => bs.getD i false) = bs.all id := by
  rw [Bool.eq_iff_iff, List.all_eq_true, List.all_eq_true]
  constructor
  · intro h b hb
    obtain ⟨i, hi, e⟩ := List.getElem_of_mem hb
    have := h i (List.mem_range.mpr hi)
    rw [List.getD_eq_getElem?_getD, List.getElem?_eq_getElem hi] at this
    rw [← e]; exact this
  · intro h i hi
    have hi' := List.mem_range.mp hi
    rw [List.getD_eq_getElem?_getD, List.getElem?_eq_getElem hi']
    exact h _ (List.getElem_mem hi')
theorem truth_bs {P : Program} {w : World} {A : Around} (bs : List Bool) : TruthOf P w A (fun i v => (bs.map Value.bool).toArray[i]? = some v) (fun i => bs.getD i false) := by
  intro i v s Q E hP hQ
  have hP' : (bs.map Value.bool)[i]? = some v := by simpa using hP
  rw [List.getElem?_map] at hP'
  cases e : bs[i]? with
  | none => rw [e] at hP'; cases hP'
  | some b =>
    rw [e] at hP'
    cases hP'
    have hQ' : Q (bs.getD i false) s := hQ
    rw [List.getD_eq_getElem?_getD, e] at hQ'
    exact wpAny_truthy_bool hQ'
theorem call_allB (hc : X.calm = true) : CallR X (.builtin "all") rAllB := by
  intro pins s σ H xs us Q I r h
  obtain ⟨l, bs, rfl, hH, q⟩ := h
  cases r with
  | cons r rr =>
    cases rr
    cases r
    obtain ⟨z, its, n, rv, hl, e⟩ := I.lstM hH
    have hi := rv.bls
    subst hi
    have hlt : l < s.heap.objs.size := Heap.lt_size e
    refine call_all_walk (wpAny_pyIter_list (items := (bs.map Value.bool).toArray) ⟨_, e, rfl, n, rfl⟩ ⟨_, _, _, _, _, _, _, rfl, Walks.list (by simpa using I.ok.hd hc) s.heap.objs.size l (Nat.ne_of_lt hlt) (bs.map Value.bool).toArray, ⟨⟨_, Heap.get?_push_size _ rfl, rfl, rfl⟩, ⟨_, Heap.get?_push_of_some _ e, rfl, n, rfl⟩⟩, truth_bs bs, fun h' tk hk => ?_⟩)
    rw [List.size_toArray, List.length_map, range_all]
    refine ⟨.bl (bs.all id), H, I.kept fun b o g => hk b o ?_ (Heap.get?_push_of_some _ g), rfl, q⟩
    intro hb
    rw [List.mem_singleton] at hb
    exact absurd (Heap.lt_size g) (by rw [hb]; exact Nat.lt_irrefl _)
end
end L2
set_option Elab.async false
set_option linter.all false
set_option maxRecDepth 100000
namespace L2
open PySem PySem.Spec PyProof.Rows
section
variable {X : Cx} {a b : Expr} {ta tb : TE} {pos : Pos}
end
end L2
set_option Elab.async false
set_option linter.all false
set_option maxRecDepth 100000
namespace L2
open PySem PySem.Spec PyProof.Rows
section
variable {κ : Type} [DecidableEq κ]
def valV (kvs : List (κ × V)) (k : κ) : Option V := (kvs.find? fun kv => decide (kv.1 = k)).map (·.2)
/-- in its place, or at the end -/
def putK (kvs : List (κ × V)) (k : κ) (v : V) : List (κ × V) :=
  if (kvs.any fun kv => decide (kv.1 = k)) = true then kvs.map (fun kv => if kv.1 = k then (kv.1, v) else kv) else kvs ++ [(k, v)]
theorem valV_pos {p : κ × V} {r : List (κ × V)} {k : κ} (e : p.1 = k) : valV (p :: r) k = some p.2 := by simp [valV, List.find?_cons, e]
theorem valV_neg {p : κ × V} {r : List (κ × V)} {k : κ} (e : ¬ p.1 = k) : valV (p :: r) k = valV r k := by simp [valV, List.find?_cons, e]
theorem valV_any (k : κ) : ∀ kvs : List (κ × V), (kvs.any fun kv => decide (kv.1 = k)) = (valV kvs k).isSome
  | [] => rfl
  | p :: r => by
    rw [List.any_cons]
    by_cases e : p.1 = k
    · simp only [valV_pos e, decide_eq_true e, Bool.true_or, Option.isSome_some]
    · rw [valV_neg e, decide_eq_false e, Bool.false_or]; exact valV_any k r
theorem valV_map (k j : κ) (y : V) : ∀ kvs : List (κ × V), valV (kvs.map fun kv => if kv.1 = k then (kv.1, y) else kv) j = (valV kvs j).map fun x => if j = k then y else x
  | [] => rfl
  | p :: r => by
    have ih := valV_map k j y r
    rw [List.map_cons]
    by_cases h : p.1 = k
    · rw [if_pos h]
      by_cases e : p.1 = j
      · rw [valV_pos (p := (p.1, y)) e, valV_pos e, Option.map_some, if_pos (e.symm.trans h)]
      · rw [valV_neg (p := (p.1, y)) e, valV_neg e, ih]
    · rw [if_neg h]
      by_cases e : p.1 = j
      · rw [valV_pos (p := p) e, valV_pos e, Option.map_some, if_neg (fun z => h (e.trans z))]
      · rw [valV_neg (p := p) e, valV_neg e, ih]
theorem valV_snoc (k j : κ) (y : V) : ∀ kvs : List (κ × V), valV kvs k = none → valV (kvs ++ [(k, y)]) j = if j = k then some y else valV kvs j
  | [], _ => by
    by_cases e : k = j
    · rw [if_pos e.symm]; exact valV_pos (p := (k, y)) e
    · rw [if_neg (fun z => e z.symm)]; exact valV_neg (p := (k, y)) e
  | p :: r, hn => by
    rw [List.cons_append]
    have hk : ¬ p.1 = k := fun z => by rw [valV_pos z] at hn; cases hn
    rw [valV_neg hk] at hn
    have ih := valV_snoc k j y r hn
    by_cases e : p.1 = j
    · rw [valV_pos e, valV_pos e, if_neg (fun z => hk (e.trans z))]
    · rw [valV_neg e, valV_neg e, ih]
theorem valV_put (kvs : List (κ × V)) (k j : κ) (y : V) : valV (putK kvs k y) j = if j = k then some y else valV kvs j := by
  unfold putK
  by_cases a : (kvs.any fun kv => decide (kv.1 = k)) = true
  · rw [if_pos a, valV_map]
    rw [valV_any] at a
    by_cases e : j = k
    · obtain ⟨x, hx⟩ := Option.isSome_iff_exists.mp a
      rw [if_pos e, e, hx, Option.map_some, if_pos rfl]
    · rw [if_neg e]
      cases valV kvs j with
      | none => rfl
      | some x => rw [Option.map_some, if_neg e]
  · rw [if_neg a]
    refine valV_snoc k j y kvs ?_
    rw [valV_any] at a
    cases q : valV kvs k with
    | none => rfl
    | some x => rw [q] at a; exact (a rfl).elim
theorem length_putK (kvs : List (κ × V)) (k : κ) (v : V) : (putK kvs k v).length ≤ kvs.length + 1 := by
  unfold putK
  split
  · rw [List.length_map]; omega
  · rw [List.length_append, List.length_cons, List.length_nil]; omega
theorem RelO.isSome_eq {o : Option V} {u : Option Value} (r : RelO o u) : o.isSome = u.isSome := by
  cases o with
  | none => cases u with
    | none => rfl
    | some _ => exact (show False from r).elim
  | some _ => cases u with
    | none => exact (show False from r).elim
    | some _ => rfl
theorem RelO.getD {o : Option V} {u : Option Value} {d : V} {d' : Value} (r : RelO o u) (rd : RelV d d') : RelV (o.getD d) (u.getD d') := by
  cases o with
  | none => cases u with
    | none => exact rd
    | some _ => exact (show False from r).elim
  | some _ => cases u with
    | none => exact (show False from r).elim
    | some _ => exact r

/-- raw tables of the same keys -/
theorem KV.val {kvs : List (κ × V)} {vs : List (κ × Value)} (r : KV kvs vs) (k : κ) : RelO (valV kvs k) (valueAt vs k) := by
  unfold KV at r
  induction r with
  | nil => exact True.intro
  | @cons p q ps qs h t ih =>
    obtain ⟨h1, h2⟩ := h
    by_cases e : p.1 = k
    · have e' : q.1 = k := h1.symm.trans e
      have b : valueAt (q :: qs) k = some q.2 := by simp [valueAt, List.find?_cons, e']
      rw [valV_pos e, b]; exact h2
    · have e' : ¬ q.1 = k := fun z => e (h1.trans z)
      have b : valueAt (q :: qs) k = valueAt qs k := by simp [valueAt, List.find?_cons, e']
      rw [valV_neg e, b]; exact ih
theorem KV.any {kvs : List (κ × V)} {vs : List (κ × Value)} (r : KV kvs vs) (k : κ) : (kvs.any fun kv => decide (kv.1 = k)) = vs.any fun kv => decide (kv.1 = k) := by
  unfold KV at r
  induction r with
  | nil => rfl
  | cons h t ih => rw [List.any_cons, List.any_cons, ih, h.1]
theorem KV.repl {kvs : List (κ × V)} {vs : List (κ × Value)} (r : KV kvs vs) (k : κ) {y : V} {u : Value} (ry : RelV y u) :
    KV (kvs.map fun kv => if kv.1 = k then (kv.1, y) else kv) (vs.map fun kv => if kv.1 = k then (kv.1, u) else kv) := by
  unfold KV at r ⊢
  induction r with
  | nil => exact .nil
  | @cons p q ps qs h t ih =>
    rw [List.map_cons, List.map_cons]
    refine .cons ?_ ih
    obtain ⟨h1, h2⟩ := h
    by_cases e : p.1 = k
    · rw [if_pos e, if_pos (h1.symm.trans e)]; exact ⟨h1, ry⟩
    · rw [if_neg e, if_neg (fun z => e (h1.trans z))]; exact ⟨h1, h2⟩
theorem KV.put {kvs : List (κ × V)} {vs : List (κ × Value)} (r : KV kvs vs) (k : κ) {y : V} {u : Value} (ry : RelV y u) : KV (putK kvs k y) (stored vs k u) := by
  unfold putK stored
  rw [r.any k]
  by_cases e : (vs.any fun kv => decide (kv.1 = k)) = true
  · rw [if_pos e, if_pos e]; exact r.repl k ry
  · rw [if_neg e, if_neg e]; exact Paired.snoc r ⟨rfl, ry⟩
theorem KV.length {kvs : List (κ × V)} {vs : List (κ × Value)} (r : KV kvs vs) : kvs.length = vs.length := Paired.length r
end


theorem kV_is {P : Program} {w : World} {k : Key} {u : Value} (r : RelV (kV k) u) : (mixKind P w).is k u = true := by
  cases k with
  | inl i => obtain ⟨t, e⟩ := (show ∃ t, u = Value.int i t from r); subst e; exact mixKind_int P w i t
  | inr x => obtain ⟨t, e⟩ := (show ∃ t, u = Value.str x t from r); subst e; exact mixKind_str P w x t
theorem items_are {P : Program} {w : World} : ∀ {ks : List Key} {us : List Value}, Vals (ks.map kV) us → ItemsAre (mixKind P w) ks us
  | [], _, r => by rw [List.map_nil] at r; cases r; exact .nil
  | k :: ks, _, r => by
    rw [List.map_cons] at r
    cases r with
    | cons h t => exact .cons (kV_is h) (items_are t)

/-- raw entries of a dict with tuple keys -/
abbrev KT (H : Hp) : List (List Key × V) → List (List Key × Addr × Value) → Prop := Paired fun p q => p.1 = q.1 ∧ H q.2.1 = some (.tup (p.1.map kV)) ∧ RelV p.2 q.2.2
theorem KT.val {H : Hp} {kvs : List (List Key × V)} {xs : List (List Key × Addr × Value)} (r : KT H kvs xs) (k : List Key) : RelO (valV kvs k) ((atKey xs k).map (·.2)) := by
  induction r with
  | nil => exact True.intro
  | @cons p q ps qs h t ih =>
    obtain ⟨h1, _, h2⟩ := h
    by_cases e : p.1 = k
    · have e' : q.1 = k := h1.symm.trans e
      have b : atKey (q :: qs) k = some q.2 := by simp [atKey, List.find?_cons, e']
      rw [valV_pos e, b]; exact h2
    · have e' : ¬ q.1 = k := fun z => e (h1.trans z)
      have b : atKey (q :: qs) k = atKey qs k := by simp [atKey, List.find?_cons, e']
      rw [valV_neg e, b]; exact ih
theorem KT.repl {H : Hp} {kvs : List (List Key × V)} {xs : List (List Key × Addr × Value)} (r : KT H kvs xs) (k : List Key) {y : V} {u : Value} (ry : RelV y u) :
    KT H (kvs.map fun kv => if kv.1 = k then (kv.1, y) else kv) (xs.map (putAt k u)) := by
  induction r with
  | nil => exact .nil
  | @cons p q ps qs h t ih =>
    rw [List.map_cons, List.map_cons]
    refine .cons ?_ ih
    obtain ⟨h1, h2, h3⟩ := h
    unfold putAt
    by_cases e : p.1 = k
    · rw [if_pos e, if_pos (h1.symm.trans e)]; exact ⟨h1, h2, ry⟩
    · rw [if_neg e, if_neg (fun z => e (h1.trans z))]; exact ⟨h1, h2, h3⟩
theorem KT.put {H : Hp} {kvs : List (List Key × V)} {xs : List (List Key × Addr × Value)} (r : KT H kvs xs) (k : List Key) {b : Addr} {y : V} {u : Value} (hb : H b = some (.tup (k.map kV))) (ry : RelV y u) :
    KT H (putK kvs k y) (storedH xs k b u) := by
  have e : (kvs.any fun kv => decide (kv.1 = k)) = (atKey xs k).isSome := by
    rw [valV_any, (r.val k).isSome_eq, Option.isSome_map]
  unfold putK storedH
  rw [e]
  by_cases q : (atKey xs k).isSome = true
  · rw [if_pos q, if_pos q]; exact r.repl k ry
  · rw [if_neg q, if_neg q]; exact Paired.snoc r ⟨rfl, hb, ry⟩
theorem KT.keeps {H H' : Hp} {kvs : List (List Key × V)} {xs : List (List Key × Addr × Value)} (r : KT H kvs xs) (ht : ∀ b ys, H b = some (.tup ys) → H' b = some (.tup ys)) : KT H' kvs xs :=
  Paired.mapP r fun _ _ z => ⟨z.1, ht _ _ z.2.1, z.2.2⟩

section
variable {P : Program} {w : World} {H : Hp} {h : Heap} {a : Addr}
theorem rd_of {u : HO} (ok : HOk P w H h) (e : Rd H a u) : ObjOk P w H h a u := e.ok ok
theorem dk_rd {kvs : List (Key × V)} (ok : HOk P w H h) (e : Rd H a (.dK kvs)) : kvs.length ≤ sizeLine ∧ (a == sysModules) = false ∧ ∃ vs, KV kvs vs ∧ h.DictOf (mixKind P w) a vs :=
  show ObjOk P w H h a (.dK kvs) from rd_of ok e
theorem dk_of {kvs : List (Key × V)} (ok : HOk P w H h) (e : H a = some (.dK kvs)) : kvs.length ≤ sizeLine ∧ (a == sysModules) = false ∧ ∃ vs, KV kvs vs ∧ h.DictOf (mixKind P w) a vs := dk_rd ok (.inl e)
/-- a tracked tuple of ints and texts is a key -/
theorem key_of {ks : List Key} (ok : HOk P w H h) (e : H a = some (.tup (ks.map kV))) : (tupleKind (mixKind P w)).is h ks a := by
  obtain ⟨_, its, r, o, h1, h2, n, h3⟩ := (show ObjOk P w H h a (.tup (ks.map kV)) from ok a _ e)
  exact ⟨o, its.toArray, n, h1, h2, h3, by simpa using items_are r⟩
theorem dt_rd {kvs : List (List Key × V)} (ok : HOk P w H h) (e : Rd H a (.dT kvs)) : kvs.length ≤ sizeLine ∧ (a == sysModules) = false ∧
    ∃ xs, KT H kvs xs ∧ h.DictOfH (tupleKind (mixKind P w)) a xs := by
  obtain ⟨z, y, xs, r, o, es, ep, h1, h2, h3, h4, h5⟩ := (show ObjOk P w H h a (.dT kvs) from rd_of ok e)
  refine ⟨z, y, xs, r, o, es, ep, h1, h2, h3, h4, fun x hx => ?_, h5⟩
  have all : ∀ {l : List (List Key × V)} {m : List (List Key × Addr × Value)}, KT H l m → ∀ x ∈ m, (tupleKind (mixKind P w)).is h x.1 x.2.1 := by
    intro l m q
    induction q with
    | nil => intro x hx; exact nomatch hx
    | @cons p q ps qs hq t ih =>
      intro x hx
      rcases List.mem_cons.mp hx with e | hx
      · subst e
        exact key_of ok (by rw [← hq.1]; exact hq.2.1)
      · exact ih x hx
  exact all r x hx
theorem dt_of {kvs : List (List Key × V)} (ok : HOk P w H h) (e : H a = some (.dT kvs)) : kvs.length ≤ sizeLine ∧ (a == sysModules) = false ∧
    ∃ xs, KT H kvs xs ∧ h.DictOfH (tupleKind (mixKind P w)) a xs := dt_rd ok (.inl e)
end

/-- what the dict at a holds at the key y -/
def DGet (H : Hp) (a : Addr) (y : V) (r : Option V) : Prop :=
  (∃ kvs k, Rd H a (.dK kvs) ∧ y = kV k ∧ r = valV kvs k) ∨ ∃ kvs k b, Rd H a (.dT kvs) ∧ y = .ref b ∧ H b = some (.tup (k.map kV)) ∧ r = valV kvs k
/-- the heap behind a[y] = v -/
def DPut (H : Hp) (a : Addr) (y v : V) (H' : Hp) : Prop :=
  (∃ kvs k, H a = some (.dK kvs) ∧ y = kV k ∧ kvs.length < sizeLine ∧ H' = upd H a (.dK (putK kvs k v))) ∨
  ∃ kvs k b, H a = some (.dT kvs) ∧ y = .ref b ∧ H b = some (.tup (k.map kV)) ∧ kvs.length < sizeLine ∧ H' = upd H a (.dT (putK kvs k v))
theorem DGet.k {H : Hp} {a : Addr} {kvs : List (Key × V)} {k : Key} (e : H a = some (.dK kvs)) : DGet H a (kV k) (valV kvs k) := .inl ⟨kvs, k, .inl e, rfl, rfl⟩
theorem DPut.k {H : Hp} {a : Addr} {kvs : List (Key × V)} {k : Key} {v : V} (e : H a = some (.dK kvs)) (hl : kvs.length < sizeLine) : DPut H a (kV k) v (upd H a (.dK (putK kvs k v))) := .inl ⟨kvs, k, e, rfl, hl, rfl⟩
section
variable {X : Cx} {pins : List (Addr × Obj)} {σ : St} {H : Hp} {s : Shared} {a : Addr} {y v : V} {u r : Value} {o : Option V} {A : Around} {E : Value → Shared → Prop}

theorem Inv.big (I : Inv X pins σ H s) : sysModules < s.heap.objs.size := by
  have h : mainGlobals < s.heap.objs.size := (I.mod.glob.keeps I.bk).lt
  exact Nat.lt_trans (by decide) h

/-- d[y], there -/
theorem d_getItem {Q : Value → Shared → Prop} (hu : A.units + 1 < cLine) (I : Inv X pins σ H s) (g : DGet H a y (some v)) (ry : RelV y u) (h : ∀ w' s', Inv X pins σ H s' → RelV v w' → Q w' s') :
    wpAny (model X.prog X.w) A (getItem (.ref a) u) Q E s := by
  rcases g with ⟨kvs, k, e, ey, l⟩ | ⟨kvs, k, b, e, ey, eb, l⟩
  · subst ey
    obtain ⟨z, hd, vs, rel, dd⟩ := dk_rd I.hok e
    obtain ⟨w', hw, rw'⟩ := RelO.some_of (v := v) (o := valueAt vs k) (by rw [l]; exact rel.val k)
    exact wpAny_getItem_of (kV_is ry) dd.mapOf hw (h w' _ (I.tok _) rw')
  · subst ey
    cases (show u = Value.ref b from ry)
    obtain ⟨z, hd, xs, rel, dd⟩ := dt_rd I.hok e
    obtain ⟨w', hw, rw'⟩ := RelO.some_of (v := v) (o := (atKey xs k).map (·.2)) (by rw [l]; exact rel.val k)
    obtain ⟨p, hp, hp2⟩ := Option.map_eq_some_iff.mp hw
    refine wpAny_getItem_heap (tupleKind_room_in1 hu) (key_of I.hok eb) dd hp ?_
    rw [hp2]
    exact h w' _ (I.tok _) rw'
/-- y in d -/
theorem d_in {Q : Value → Shared → Prop} (hu : A.units + 1 < cLine) (I : Inv X pins σ H s) (g : DGet H a y o) (ry : RelV y u) (h : ∀ s', Inv X pins σ H s' → Q (.bool o.isSome) s') :
    wpAny (model X.prog X.w) A (compareOp .In u (.ref a)) Q E s := by
  rcases g with ⟨kvs, k, e, ey, l⟩ | ⟨kvs, k, b, e, ey, eb, l⟩
  · subst ey
    obtain ⟨z, hd, vs, rel, dd⟩ := dk_rd I.hok e
    refine wpAny_in_of (kV_is ry) hd dd.mapOf ?_
    rw [← (rel.val k).isSome_eq, ← l]
    exact h _ (I.tok _)
  · subst ey
    cases (show u = Value.ref b from ry)
    obtain ⟨z, hd, xs, rel, dd⟩ := dt_rd I.hok e
    refine wpAny_in_heap (tupleKind_room_in1 hu) (key_of I.hok eb) hd dd ?_
    have q := (rel.val k).isSome_eq
    rw [Option.isSome_map] at q
    rw [← q, ← l]
    exact h _ (I.tok _)
/-- a dict's object is replaced -/
theorem d_write {h' : Heap} {t' : Nat} {ob : HO} (I : Inv X pins σ H s) (mu : Mut (H a)) (hs : Heap.SameBut a s.heap h') (he : ∃ q, h'.get? a = some q) (new : ObjOk X.prog X.w (upd H a ob) h' a ob) :
    Inv X pins σ (upd H a ob) { s with heap := h', toks := t' } :=
  I.write (x := a) (e := a) mu (.inl rfl) (fun b q hb z => (hs.2 b hb).trans z) he new
theorem dk_new {P : Program} {w : World} {H' : Hp} {h' : Heap} {kvs : List (Key × V)} {vs : List (Key × Value)} (z : kvs.length ≤ sizeLine) (hd : (a == sysModules) = false) (rel : KV kvs vs) (dd : h'.DictOf (mixKind P w) a vs) :
    ObjOk P w H' h' a (.dK kvs) := ⟨z, hd, vs, rel, dd⟩
/-- d[y] = v -/
theorem d_setItem {H' : Hp} {Q : Unit → Shared → Prop} (hu : A.units + 1 < cLine) (I : Inv X pins σ H s) (g : DPut H a y v H') (ry : RelV y u) (rv : RelV v r) (h : ∀ s', Inv X pins σ H' s' → Q () s') :
    wpAny (model X.prog X.w) A (setItem (.ref a) u r) Q E s := by
  rcases g with ⟨kvs, k, e, ey, l, eH⟩ | ⟨kvs, k, b, e, ey, eb, l, eH⟩
  · subst ey eH
    obtain ⟨z, hd, vs, rel, dd⟩ := dk_of I.hok e
    have hz : vs.length ≤ sizeLine := by rw [← rel.length]; exact z
    have hl : (putK kvs k v).length ≤ sizeLine := by have := length_putK kvs k v; omega
    refine wpAny_setItem_pairs (hsz := hz) (kV_is ry) dd fun h' dd' hs => h _ ?_
    have he : ∃ q, h'.get? a = some q := let ⟨q, _, _, hq, _⟩ := dd'; ⟨q, hq⟩
    exact d_write I (by rw [e]; exact True.intro) hs he (dk_new hl hd (rel.put k rv) dd')
  · subst ey eH
    cases (show u = Value.ref b from ry)
    obtain ⟨z, hd, xs, rel, dd⟩ := dt_of I.hok e
    have hz : xs.length ≤ sizeLine := by rw [← Paired.length rel]; exact z
    have hl : (putK kvs k v).length ≤ sizeLine := by have := length_putK kvs k v; omega
    refine wpAny_setItem_heap (hsz := hz) (tupleKind_room_in1 hu) (key_of I.hok eb) dd fun h' dd' hs => h _ ?_
    obtain ⟨q, es, ep, hq, h2, h3, h4, _, h5⟩ := dd'
    refine d_write I (by rw [e]; exact True.intro) hs ⟨q, hq⟩ ⟨hl, hd, _, (rel.put k eb rv).keeps fun c ys ec => ?_, q, es, ep, hq, h2, h3, h4, h5⟩
    rw [upd_ne (ne_of ec e (fun z => nomatch z))]
    exact ec
end

section
variable {X : Cx} {pins : List (Addr × Obj)} {σ : St} {H : Hp} {s : Shared} {a : Addr} {kvs : List (Key × V)} {k : Key} {u : Value} {A : Around} {E : Value → Shared → Prop}
end


/-- the element of a subscription, not a slice -/
def NoSl (i : Expr) : Prop := ∀ ov iv, subscripted i false ov iv = operate [ov, iv] (getItem ov iv)
theorem subD_of {prog : Program} {w : World} {A : Around} {E : Value → Shared → Prop} {s : Shared} {env : Env} {value slice : Expr} {pos : Pos} {T id : String} {Q : Value → Shared → Prop}
    (hl : typeLookup (.type T) "__getitem__" = pure (some (.builtin id))) (hs : NoSl slice)
    (h : wpAny (model prog w) A (eval value env) (fun o s₁ => wpAny (model prog w) A (eval slice env) (fun i s₂ => s₂.TypeIs o T ∧ wpAny (model prog w) A (getItem o i) Q E s₂) E s₁) E s) :
    wpAny (model prog w) A (eval (.Subscript value slice pos) env) Q E s := by
  refine Subscript_ (wpAny_mono h (fun o s₁ h₁ => wpAny_mono h₁ (fun i s₂ h₂ => ?_) fun _ _ x => x) fun _ _ x => x)
  obtain ⟨hT, h₂⟩ := h₂
  unfold subscriptTail
  refine wpAny_bind ?_
  rw [getitemInPython_of_ne hT.not_modules]
  refine wpAny_bind (wpAny_specialOf hT hl ?_)
  have fin : wpAny (model prog w) A (subscripted slice false o i) (fun r s₃ => wpAny (model prog w) A (letTemporaryGo value o r >>= fun _ => pure r) Q E s₃) E s₂ := by
    rw [hs o i]
    exact wpAny_operating (wpAny_mono h₂ (fun r s₃ h₃ => wpAny_bind (wpAny_letTemporaryGo (wpAny_pure h₃))) fun _ _ x => x)
  first
    | exact wpAny_pure (wpAny_bind fin)
    | exact wpAny_bind (wpAny_pure (wpAny_bind fin))
    | exact wpAny_bind fin

theorem dict_typeIs {X : Cx} {pins : List (Addr × Obj)} {σ : St} {H : Hp} {s : Shared} {a : Addr} {y : V} {o : Option V} (I : Inv X pins σ H s) (g : DGet H a y o) : s.TypeIs (.ref a) "dict" := by
  rcases g with ⟨kvs, k, e, _, _⟩ | ⟨kvs, k, b, e, _, _, _⟩
  · obtain ⟨_, _, vs, _, dd⟩ := dk_rd I.hok e
    exact dd.typeIs
  · obtain ⟨_, _, xs, _, dd⟩ := dt_rd I.hok e
    exact dd.typeIs
/-- d[y] -/
def tDGet (td ty : TE) : TE := fun σ H Q => td σ H fun x H1 => ty σ H1 fun y H2 => ∃ a v, x = .ref a ∧ DGet H2 a y (some v) ∧ Q v H2
/-- y in d, y not in d -/
def tDIn (ty td : TE) : TE := fun σ H Q => ty σ H fun y H1 => td σ H1 fun x H2 => ∃ a o, x = .ref a ∧ DGet H2 a y o ∧ Q (.bl o.isSome) H2
/-- d[y] = v -/
def sDPut (td ty tv : TE) : TS := fun D σ H => tv σ H fun v H1 => td σ H1 fun x H2 => ty σ H2 fun y H3 => ∃ a H4, x = .ref a ∧ DPut H3 a y v H4 ∧ D.nx σ H4
section
variable {X : Cx} {o i e value : Expr} {pos pos' tpos : Pos} {td ty tv : TE}
theorem pe_dget (hu : X.A.units + 1 < cLine) (ho : PE X o td) (hi : PE X i ty) (hs : NoSl i) : PE X (.Subscript o i pos) (tDGet td ty) := by
  intro pins s σ H Q I h
  refine subD_of PySem.F.slot_dict_getitem.lookup hs (thn (ho pins s σ H _ I h) fun u s1 ⟨x, H1, I1, rx, q1⟩ => thn (hi pins s1 σ H1 _ I1 q1) fun iv s2 ⟨y, H2, I2, ry, a, v, ex, g, q2⟩ => ?_)
  subst ex
  obtain rfl : u = Value.ref a := rx
  exact ⟨dict_typeIs I2 g, d_getItem hu I2 g ry fun w' s3 I3 rw' => ⟨v, H2, I3, rw', q2⟩⟩
theorem pc_din (hu : X.A.units + 1 < cLine) (hi : PE X i ty) (ho : PE X o td) : PC X .In i o (tDIn ty td) := by
  intro pins s σ H Q I h
  refine thn (hi pins s σ H _ I h) fun iv s1 ⟨y, H1, I1, ry, q1⟩ => thn (ho pins s1 σ H1 _ I1 q1) fun u s2 ⟨x, H2, I2, rx, a, ov, ex, g, q2⟩ => ?_
  subst ex
  obtain rfl : u = Value.ref a := rx
  exact d_in hu I2 g ry fun s3 I3 => ⟨.bl ov.isSome, H2, I3, rfl, q2⟩
theorem ps_dput (hu : X.A.units + 1 < cLine) (ho : PE X o td) (hi : PE X i ty) (hv : PE X value tv) (hs : swapsWith value (some (.Subscript o i pos')) pos.line X.env = pure false) :
    PS X (.Assign [.Subscript o i pos'] value pos) (sDPut td ty tv) := by
  intro pins s σ H D I h
  refine wpAny_Assign_Subscript (thn (hv pins s σ H _ I h) fun r s1 ⟨v, H1, I1, rv, q1⟩ => thn (ho pins s1 σ H1 _ I1 q1) fun u s2 ⟨x, H2, I2, rx, q2⟩ => thn (hi pins s2 σ H2 _ I2 q2) fun iv s3 ⟨y, H3, I3, ry, a, H4, ex, g, q3⟩ => ?_) hs
  subst ex
  obtain rfl : u = Value.ref a := rx
  exact d_setItem hu I3 g ry rv fun s4 I4 => ⟨σ, H4, I4, q3⟩
end


theorem dk_empty {P : Program} {w : World} {H : Hp} (h : Heap) (hb : sysModules < h.objs.size) : ObjOk P w H (h.push { cls := .type "dict", data := .dict #[] }) h.objs.size (.dK []) :=
  ⟨Nat.zero_le _, beq_eq_false_iff_ne.mpr (Ne.symm (Nat.ne_of_lt hb)), [], .nil, Heap.DictOf.new h⟩
/-- {}, to be a dict of the kind that is wanted -/
def tDNewK : TE := fun _ H Q => ∀ p, H p = none → Q (.ref p) (upd H p (.dK []))
section
variable {X : Cx} {pos : Pos}
theorem pe_dnewK : PE X (.Dict [] [] pos) tDNewK := fun pins s σ H Q I h =>
  wpAny_Dict_empty ⟨.ref s.heap.objs.size, _, I.laid (a := s.heap.objs.size) (o := .dK []) (t' := s.toks) (fun _ _ q => Heap.get?_push_of_some _ q) (Nat.le_refl _) (dk_empty s.heap I.big), rfl, h _ (I.hok.fresh (Nat.le_refl _))⟩
end

structure M2 (X : Cx) (o : Expr) (m : Str) (apos : Pos) (e f : Expr) (cpos : Pos) : Prop where
  base : attributeBase o m X.env (eval o X.env) = eval o X.env
  few : ((backTo cpos (starEach [e, f] X.env)).all (fun x => !x.1) && (backToKw cpos (keywordEach [] X.env)).all (fun x => x.1.isSome)
    && decide (([e, f] : List Expr).length + ([] : List Keyword).length + (if ([] : List Keyword).isEmpty then 0 else 1) < 30)) = true
  line : (apos.endLine == cpos.line) = true
  trees : backTo cpos (starEach [e, f] X.env) = [(false, eval e X.env), (false, eval f X.env)]

/-- a is a dict, whatever its keys -/
def IsD (H : Hp) (a : Addr) : Prop := (∃ kvs, Rd H a (.dK kvs)) ∨ ∃ kvs, Rd H a (.dT kvs)
theorem isD_at {X : Cx} {pins : List (Addr × Obj)} {σ : St} {H : Hp} {s : Shared} {a : Addr} (I : Inv X pins σ H s) (d : IsD H a) :
    s.TypeIs (.ref a) "dict" ∧ (∀ b, Value.ref a = .ref b → ∃ ob, s.heap.get? b = some ob ∧ ob.dict = none) ∧ (a == sysModules) = false := by
  rcases d with ⟨kvs, e⟩ | ⟨kvs, e⟩
  · obtain ⟨_, hd, vs, _, dd⟩ := dk_rd I.hok e
    refine ⟨dd.typeIs, fun b q => ?_, hd⟩
    cases q
    obtain ⟨ob, _, _, h1, h2, _⟩ := dd
    exact ⟨ob, h1, h2.2.1⟩
  · obtain ⟨_, hd, xs, _, dd⟩ := dt_rd I.hok e
    refine ⟨dd.typeIs, fun b q => ?_, hd⟩
    cases q
    obtain ⟨ob, _, _, h1, h2, _⟩ := dd
    exact ⟨ob, h1, h2.2.1⟩

section
variable {X : Cx} {pins : List (Addr × Obj)} {σ : St} {H : Hp} {s : Shared} {a : Addr} {y d : V} {u r : Value} {o : Option V} {A : Around} {E : Value → Shared → Prop}
/-- d.get(y, x) -/
theorem d_get2 {Q : Value → Shared → Prop} (hu : A.units + 1 < cLine) (I : Inv X pins σ H s) (g : DGet H a y o) (ry : RelV y u) (rd : RelV d r) (h : ∀ w' s', Inv X pins σ H s' → RelV (o.getD d) w' → Q w' s') :
    wpAny (model X.prog X.w) A (call (.builtin "dict.get") [.ref a, u, r]) Q E s := by
  rcases g with ⟨kvs, k, e, ey, l⟩ | ⟨kvs, k, b, e, ey, eb, l⟩
  · subst ey
    obtain ⟨z, hd, vs, rel, dd⟩ := dk_rd I.hok e
    refine call_meetsIn PySem.F.slot_dict_get dd.typeIs PySem.F.entry_dict_get (PySem.F.args_dict_get_3 _ _ _) (meets_dict_get_default (mixKind X.prog X.w) a (kV_is ry) hd r) ⟨_, dd.mapOf, h _ _ (I.tok _) ?_⟩
    rw [l]
    exact (rel.val k).getD rd
  · subst ey
    cases (show u = Value.ref b from ry)
    obtain ⟨z, hd, xs, rel, dd⟩ := dt_rd I.hok e
    refine call_meetsIn PySem.F.slot_dict_get dd.typeIs PySem.F.entry_dict_get (PySem.F.args_dict_get_3 _ _ _) (meetsH_dict_get_default (tupleKind (mixKind X.prog X.w)) a b hd r) ⟨tupleKind_room_in1 hu, k, xs, key_of I.hok eb, dd, h _ _ (I.tok _) ?_⟩
    rw [l]
    exact (rel.val k).getD rd
end

def tDGet2 (td ty tx : TE) : TE := fun σ H Q => td σ H fun x H1 => ∃ a, x = .ref a ∧ IsD H1 a ∧ ty σ H1 fun y H2 => tx σ H2 fun z H3 => ∃ o, DGet H3 a y o ∧ Q (o.getD z) H3
section
variable {X : Cx} {o e f : Expr} {apos cpos : Pos} {td ty tx : TE}
theorem pe_dget2 (hu : X.A.units + 1 < cLine) (ho : PE X o td) (he : PE X e ty) (hf : PE X f tx) (m : M2 X o "get" apos e f cpos) : PE X (.Call (.Attribute o "get" apos) [e, f] [] cpos) (tDGet2 td ty tx) := by
  intro pins s σ H Q I h
  refine wpAny_Call_method m.base m.few m.line PySem.F.plainAttrs_dict PySem.F.slot_dict_get PySem.F.type_dict_get (thn (ho pins s σ H _ I h) fun u s1 ⟨x, H1, I1, rx, a, ex, d, q1⟩ => ?_)
  subst ex
  obtain rfl : u = Value.ref a := rx
  obtain ⟨t1, t2, _⟩ := isD_at I1 d
  refine ⟨t1, t2, ?_⟩
  rw [m.trees]
  refine Calls.callWith_builtin rfl (Calls.evalArgs_plain (Calls.spliced_cons (thn (he pins s1 σ H1 _ I1 q1) fun iv s2 ⟨y, H2, I2, ry, q2⟩ =>
    Calls.spliced_cons (thn (hf pins s2 σ H2 _ I2 q2) fun fv s3 ⟨z, H3, I3, rz, ov, g, q3⟩ => Calls.spliced_nil ?_))))
  exact d_get2 hu I3 g ry rz fun w' s4 I4 rw' => ⟨_, H3, I4, rw', q3⟩
end

section
variable {X : Cx} {pins : List (Addr × Obj)} {σ : St} {H : Hp} {s : Shared} {a : Addr} {kvs : List (Key × V)} {A : Around} {E : Value → Shared → Prop}
theorem d_copyOf {Q : Value → Shared → Prop} (I : Inv X pins σ H s) (e : Rd H a (.dK kvs)) (h : ∀ p s', H p = none → Inv X pins σ (upd H p (.dK kvs)) s' → Q (.ref p) s') : wpAny (model X.prog X.w) A (call (.type "dict") [.ref a]) Q E s := by
  obtain ⟨z, hd, vs, rel, dd⟩ := dk_rd I.hok e
  refine kt_call_dict hd dd (by rw [← rel.length]; exact z) fun h' dd' hs => ?_
  refine h _ _ (I.hok.fresh (Nat.le_refl _)) (I.laid (a := s.heap.objs.size) (o := .dK kvs) (t' := s.toks) (fun b q hq => ?_) (Nat.le_refl _) (dk_new z (beq_eq_false_iff_ne.mpr (Ne.symm (Nat.ne_of_lt I.big))) rel dd'))
  exact (hs.2 b (Nat.ne_of_lt (Heap.lt_size hq))).trans (Heap.get?_push_of_some _ hq)
end


section
variable {X : Cx} {pins : List (Addr × Obj)} {σ : St} {H : Hp} {s : Shared} {a : Addr} {y : V} {u : Value} {A : Around} {E : Value → Shared → Prop}
end
end L2

namespace L2
open PySem PySem.Spec PyProof.Rows
section
variable {X : Cx}
end
section
variable {κ : Type} [DecidableEq κ]
end
end L2

set_option Elab.async false
set_option linter.all false
set_option maxRecDepth 100000
namespace Mx
open PySem L2 PyProof.Rows
structure QE (X : Cx) (e : Expr) (t : TE) : Prop where
  of : PE X e t
section
variable {X : Cx} {e o i : Expr} {te td ty : TE} {pos : Pos}
theorem qe_of (h : PE X e te) : QE X e te := ⟨h⟩
theorem qe_dget (hu : X.A.units + 1 < cLine) (ho : QE X o td) (hi : QE X i ty) (hs : NoSl i) : QE X (.Subscript o i pos) (tDGet td ty) := ⟨pe_dget hu ho.of hi.of hs⟩
theorem qs_setE {i : Nat} {x : Str} {pos' : Pos} (hN : X.N.Nodup) (hi : X.N[i]? = some x) (hx : Loc X.env.scope x) (he : QE X e te) (hs : swapsWith e (some (.Name x pos')) pos.line X.env = pure false := by rfl) (hf : X.fn x = true ∨ X.env.scope.names.lookup x = some .local := by first | exact .inl rfl | exact .inr rfl | assumption) :
    QS X (.Assign [.Name x pos'] e pos) (tAsg te (gName i)) := ⟨ps_set hN hi hx he.of hs hf⟩
theorem qs_retE (he : QE X e te) : QS X (.Return (some e) pos) (tRet te) := ⟨ps_ret he.of⟩
structure QT (X : Cx) (e : Expr) (t : TT) : Prop where
  of : PT X e t
theorem qt_of {t : TT} (h : PT X e t) : QT X e t := ⟨h⟩
theorem qs_ifT {a b : List Stmt} {t u : TS} {c : Expr} {tc : TT} (hc : QT X c tc) (ha : QSs X a t) (hb : QSs X b u) : QS X (.If c a b pos) (tIfS tc t u) := ⟨ps_if hc.of ha.of hb.of⟩
def tTStrs (xs : List Str) : TE := fun _ H Q => xs.length ≤ sizeLine ∧ ∀ p, H p = none → Q (.ref p) (upd H p (.tup (xs.map V.str)))
theorem qe_tstrs {es : List Expr} {k} {xs : List Str} (h : strsOf es = some xs) : QE X (.Tuple es k pos) (tTStrs xs) := ⟨by
  intro pins s σ H Q I hq
  refine pe_tup (pa_strs h) pins s σ H Q I ?_
  exact ⟨by rw [List.length_map]; exact hq.1, hq.2⟩⟩
theorem qt_cmpR {a b : Expr} {ta tb : TE} {op : CmpOp} {r : R2} (ho : OpR X (compareOp op) r) (ha : QE X a ta) (hb : QE X b tb) (hm : behindInMarks op b = false) : QT X (.Compare a [op] [b] pos) (tTest (tOp r ta tb)) := ⟨pt_cmpR ho ha.of hb.of hm⟩
theorem qe_ix {a b : Expr} {ta tb : TE} {r : R2} (hr : IxR X r) (ha : QE X a ta) (hb : QE X b tb) (hs : PlainIx b) : QE X (.Subscript a b pos) (tOp r ta tb) := ⟨pe_ix hr ha.of hb.of hs⟩
structure QA (X : Cx) (es : List Expr) (t : TA) : Prop where
  of : PA X es t
theorem qa_nil : QA X [] tNil := ⟨pa_nil⟩
theorem qe_lst {es : List Expr} {t : TA} (h : QA X es t) : QE X (.List es pos) (tLst t) := ⟨pe_lst h.of⟩
theorem qe_tup {es : List Expr} {k} {t : TA} (h : QA X es t) : QE X (.Tuple es k pos) (tTup t) := ⟨pe_tup h.of⟩
end
end Mx
set_option Elab.async false
set_option linter.all false
set_option maxRecDepth 100000
namespace Mx
open PySem L2 PyProof.Rows
section
variable {X : Cx} {e a b c : Expr} {es : List Expr} {te ta tb : TE} {t : TA} {tA tB' : TT} {pos p : Pos} {x : Str} {rest : List Expr}
theorem qa_cs {k : Const} {j} (ha : QE X (.Constant k j pos) te) (hr : QA X es t) : QA X (.Constant k j pos :: es) (tCons te t) := ⟨pa_cs ha.of hr.of⟩
theorem qa_nm {x : Str} (ha : QE X (.Name x pos) te) (hr : QA X es t) : QA X (.Name x pos :: es) (tCons te t) := ⟨pa_nm ha.of hr.of⟩
theorem qa_cl {f xs ks} (ha : QE X (.Call f xs ks pos) te) (hr : QA X es t) : QA X (.Call f xs ks pos :: es) (tCons te t) := ⟨pa_cl ha.of hr.of⟩
theorem qa_sb {o i : Expr} (ha : QE X (.Subscript o i pos) te) (hr : QA X es t) : QA X (.Subscript o i pos :: es) (tCons te t) := ⟨pa_cons ha.of hr.of rfl⟩
theorem qa_bo {o i : Expr} {op} (ha : QE X (.BinOp o op i pos) te) (hr : QA X es t) : QA X (.BinOp o op i pos :: es) (tCons te t) := ⟨pa_cons ha.of hr.of rfl⟩
theorem qa_tp {xs k} (ha : QE X (.Tuple xs k pos) te) (hr : QA X es t) : QA X (.Tuple xs k pos :: es) (tCons te t) := ⟨pa_cons ha.of hr.of rfl⟩
theorem qa_ls {xs} (ha : QE X (.List xs pos) te) (hr : QA X es t) : QA X (.List xs pos :: es) (tCons te t) := ⟨pa_cons ha.of hr.of rfl⟩
theorem qa_lc {l o r} (ha : QE X (.ListComp l o r pos) te) (hr : QA X es t) : QA X (.ListComp l o r pos :: es) (tCons te t) := ⟨pa_cons ha.of hr.of rfl⟩
theorem qe_op {op : Operator} {r : R2} (ho : OpR X (binaryOp op) r) (ha : QE X a ta) (hb : QE X b tb) : QE X (.BinOp a op b pos) (tOp r ta tb) := ⟨pe_op ho ha.of hb.of⟩
theorem qe_ifExp (hc : QT X c tA) (ha : QE X a ta) (hb : QE X b tb) : QE X (.IfExp c a b pos) (tIf tA ta tb) := ⟨pe_ifExp hc.of ha.of hb.of⟩
structure QW (X : Cx) (e : Expr) (t : TT) : Prop where
  of : PW X e t
theorem qw_and1 (ha : QT X a tA) : QW X (.BoolOp .And [a] pos) tA := ⟨pw_and1 ha.of⟩
theorem qw_or1 (ha : QT X a tA) : QW X (.BoolOp .Or [a] pos) tA := ⟨pw_or1 ha.of⟩
theorem qw_and (ha : QT X a tA) (hb : QW X (.BoolOp .And (b :: rest) pos) tB') : QW X (.BoolOp .And (a :: b :: rest) pos) (tAnd tA tB') := ⟨pw_and ha.of hb.of⟩
theorem qw_or (ha : QT X a tA) (hb : QW X (.BoolOp .Or (b :: rest) pos) tB') : QW X (.BoolOp .Or (a :: b :: rest) pos) (tOr tA tB') := ⟨pw_or ha.of hb.of⟩
theorem QW.pt (h : QW X e tA) : QT X e tA := ⟨h.of.pt⟩
theorem qt_not (ha : QT X a tA) : QT X (.UnaryOp .Not a pos) (tNot tA) := ⟨pt_not ha.of⟩
theorem qt_valC {f xs ks} (h : QE X (.Call f xs ks pos) te) : QT X (.Call f xs ks pos) (tB te) := ⟨pt_val h.of⟩
variable {id T : String} {r : List V → Hp → VK → Prop}
theorem qe_callB (hc : CallR X (.builtin id) r) (hg : Gl X x) (hm : X.mg x = none) (hv : bootBuiltins x = some (.builtin id)) (ha : QA X (e :: es) t) (hn : x ≠ "__name__" := by decide) (hdb : (x == ("__debug__" : Str)) = false := by decide)
    (he : starEach (e :: es) X.env = (false, eval e X.env) :: starEach es X.env := by rfl) (hpl : (backTo pos (starEach es X.env)).any (·.1) = false := by rfl) : QE X (.Call (.Name x p) (e :: es) [] pos) (tCB r t) := ⟨pe_callB hc hg hm hv ha.of hn hdb he hpl⟩
theorem qe_callTy (hc : CallR X (.type T) r) (hg : Gl X x) (hm : X.mg x = none) (hv : bootBuiltins x = some (.type T)) (ha : QA X (e :: es) t) (hn : x ≠ "__name__" := by decide) (hdb : (x == ("__debug__" : Str)) = false := by decide)
    (he : starEach (e :: es) X.env = (false, eval e X.env) :: starEach es X.env := by rfl) (hpl : (backTo pos (starEach es X.env)).any (·.1) = false := by rfl) : QE X (.Call (.Name x p) (e :: es) [] pos) (tCB r t) := ⟨pe_callTy hc hg hm hv ha.of hn hdb he hpl⟩
theorem qe_callH {k m : Nat} {ps : List Str} {sp : Sp} (h : Has X.prog X.w X.K X.mg X.base k x ps sp) (hr : Room m X.A) (ha : QA X (e :: es) t) (hk : k ≤ m := by decide) (hg : Gl X x := by rfl)
    (hdb : (x == ("__debug__" : Str)) = false := by decide) (he : starEach (e :: es) X.env = (false, eval e X.env) :: starEach es X.env := by rfl) (hpl : (backTo pos (starEach es X.env)).any (·.1) = false := by rfl) : QE X (.Call (.Name x p) (e :: es) [] pos) (tCall sp [] E0 t) := ⟨pe_callH h hr ha.of hk hg hdb he hpl⟩
structure QI (X : Cx) (tg iter : Expr) (wi : TI) : Prop where
  of : PI X tg iter wi
theorem qi_of {tg iter : Expr} {wi : TI} (h : PI X tg iter wi) : QI X tg iter wi := ⟨h⟩
theorem qi_list {tg l : Expr} {tl : TE} (h : QE X l tl) : QI X tg l (iList X.K tl) := ⟨pi_list h.of⟩
theorem qs_for {tg iter : Expr} {body : List Stmt} {wi : TI} {g : TG} {tb : TS} (hp : PassesOwn (model X.prog X.w) X.A X.env X.xe) (hc : X.calm = true) (hi : QI X tg iter wi) (hg : PG X tg g) (hb : QSs X body tb) (hs : ∀ x, foldedSetIterable iter X.env x = pure x := by intro _; rfl) : QS X (.For tg iter body [] pos) (tFor wi g tb) := ⟨ps_for hp hc hi.of hg hb.of hs⟩
theorem qs_expr (he : QE X e te) (hs : swapsWith e none pos.line X.env = pure false := by rfl) : QS X (.Expr e pos) (tDrop te) := ⟨ps_expr he.of hs⟩
theorem qs_asg {tg : Expr} {g : TG} (he : QE X e te) (hg : PG X tg g) (hs : swapsWithSole [tg] e pos.line X.env = pure false := by rfl) (hw : swappedStores [tg] e X.env = pure none := by rfl) (h1 : (assignEach [tg] X.env).map (·.2) = [assign tg X.env] := by rfl) : QS X (.Assign [tg] e pos) (tAsg te g) := ⟨ps_asg he.of hg hs hw h1⟩
end
end Mx
namespace Mx
open PySem L2 PyProof.Rows
theorem qss_litQ {X : Cx} {st : Stmt} {rest ss : List Stmt} {t : TS} (h : ss = st :: rest) (p : QSs X (st :: rest) t) : QSs X ss t := h ▸ p
section
variable {P : Program} {w : World} {K : PySem.W.Frag} {mg : Str → Option Value} {base : Heap}
theorem Has.ofQ {x : Str} {st : Stmt} {ps N : List Str} {k : Nat} {sp : Sp} (F : FnAt K mg x st ps) (S : FnScope N ps (defScope st)) (len : ∀ vs H Q E, sp vs H Q E → vs.length = ps.length)
    (hbody : ∀ (f : Addr) (cdv : Value) (A : Around) (outer : List Env) (s : Shared) (H : Hp) (vs : List V) (Q : VK) (E : XK), Room k (A.deeper (envOfC x (defScope st) s.heap.objs.size f cdv)) → sp vs H Q E →
      ∃ t, QSs (cxOf CX0 P w K mg base N x (defScope st) f cdv A outer s H E).nox (defBody st) t ∧ t { nx := fun _ H' => Q .non H', rt := Q } (start N vs) H) : Has P w K mg base (k + 1) x ps sp :=
  Has.of F S len fun f cdv A outer s H vs Q E hr h => by
    obtain ⟨t, h1, h2⟩ := hbody f cdv A outer s H vs Q E hr h
    exact ⟨t, h1.of, h2⟩
theorem Fun.okQ {x qual : Str} {st : Stmt} {f : Addr} {fd : FuncData} {N ps : List Str} {k : Nat} {sp : Sp} (F : Fun K x qual st f fd) (S : FnScope N ps (defScope st)) (len : ∀ vs H Q E, sp vs H Q E → vs.length = ps.length)
    (hbody : ∀ (cdv : Value) (A : Around) (outer : List Env) (s : Shared) (H : Hp) (vs : List V) (Q : VK) (E : XK), Room k (A.deeper (envOfC qual (defScope st) s.heap.objs.size f cdv)) → sp vs H Q E →
      ∃ t, QSs (cxOf CX0 P w K mg base N qual (defScope st) f cdv A outer s H E).nox (defBody st) t ∧ t { nx := fun _ H' => Q .non H', rt := Q } (start N vs) H) : FnOk P w K mg base CX0 (k + 1) f fd ps sp :=
  F.ok S len fun cdv A outer s H vs Q E hr h => by
    obtain ⟨t, h1, h2⟩ := hbody cdv A outer s H vs Q E hr h
    exact ⟨t, h1.of, h2⟩
end
end Mx
set_option Elab.async false
set_option linter.all false
set_option maxRecDepth 100000
namespace Mx
open PySem L2 PyProof.Rows
def MethAt (K : PySem.W.Frag) (C : Addr) (m qual : Str) (st : Stmt) (ps : List Str) : Prop := ∃ f fd, Meth K C m f ∧ Fun K m qual st f fd ∧ Binds K fd ps []
def HasM (P : Program) (w : World) (K : PySem.W.Frag) (mg : Str → Option Value) (base : Heap) (C : Addr) (k : Nat) (m : Str) (ps : List Str) (sp : Sp) : Prop :=
  ∃ f fd, Meth K C m f ∧ Binds K fd ps [] ∧ FnOk P w K mg base CX0 k f fd ps sp
def HasI (P : Program) (w : World) (K : PySem.W.Frag) (mg : Str → Option Value) (base : Heap) (C : Addr) (k : Nat) (x : Str) (ps : List Str) (sp : Sp) : Prop :=
  ∃ f fd, mg x = some (.ref C) ∧ Mk K C f ∧ Binds K fd ps [] ∧ FnOk P w K mg base CX0 k f fd ps sp
section
variable {P : Program} {w : World} {K : PySem.W.Frag} {mg : Str → Option Value} {base : Heap} {C : Addr}
theorem HasM.ofQ {m qual : Str} {st : Stmt} {ps N : List Str} {k : Nat} {sp : Sp} (F : MethAt K C m qual st ps) (S : FnScope N ps (defScope st)) (len : ∀ vs H Q E, sp vs H Q E → vs.length = ps.length)
    (hbody : ∀ (f : Addr) (cdv : Value) (A : Around) (outer : List Env) (s : Shared) (H : Hp) (vs : List V) (Q : VK) (E : XK), Room k (A.deeper (envOfC qual (defScope st) s.heap.objs.size f cdv)) → sp vs H Q E →
      ∃ t, QSs (cxOf CX0 P w K mg base N qual (defScope st) f cdv A outer s H E).nox (defBody st) t ∧ t { nx := fun _ H' => Q .non H', rt := Q } (start N vs) H) : HasM P w K mg base C (k + 1) m ps sp := by
  obtain ⟨f, fd, h1, h2, h3⟩ := F
  exact ⟨f, fd, h1, h3, Mx.Fun.okQ h2 S len fun cdv A outer s H vs Q E hr h => hbody f cdv A outer s H vs Q E hr h⟩
theorem HasI.of {x m : Str} {ps : List Str} {k : Nat} {sp : Sp} {f : Addr} (hm : mg x = some (.ref C)) (M : Mk K C f) (u : ∀ g, Meth K C "__init__" g → g = f) (h : HasM P w K mg base C k "__init__" ps sp) : HasI P w K mg base C k x ps sp := by
  obtain ⟨g, fd, h1, h2, h3⟩ := h
  have := u g h1
  subst this
  exact ⟨g, fd, hm, M, h2, h3⟩
theorem meth_un {m : Str} {f g : Addr} (a : PySem.W.findIn K (.ref C) m = some (some (.ref f))) (b : Meth K C m g) : g = f := by
  have := b.at_
  rw [a] at this
  cases this
  rfl
end
section
variable {X : Cx} {e o value : Expr} {es : List Expr} {te ta tv : TE} {t : TA} {pos p apos pos' : Pos} {C : Addr} {m x f : Str}
theorem qe_methH {k n : Nat} {ps : List Str} {sp : Sp} {pl : Sem Bool} (c : Cls X.K C) (h : HasM X.prog X.w X.K X.mg X.base C k m ps sp) (hr : Room n X.A) (he : QE X o ta) (ha : QA X (e :: es) t) (hk : k ≤ n := by decide)
    (hst : starEach (e :: es) X.env = (false, eval e X.env) :: starEach es X.env := by rfl) (hpl : (backTo pos (starEach es X.env)).any (·.1) = false := by rfl)
    (ht : eval (.Call (.Attribute o m apos) (e :: es) [] pos) X.env = (do
      let ov ← eval o X.env
      standAt apos.atName
      let (f, first) ← holding [ov] (getMethod ov m pl)
      callWith pos f first (backTo pos (starEach (e :: es) X.env)) (backToKw pos (keywordEach [] X.env))) := by rfl) :
    QE X (.Call (.Attribute o m apos) (e :: es) [] pos) (tMeth C m sp [] E0 ta t) := by
  obtain ⟨f, fd, h1, h2, h3⟩ := h
  exact ⟨pe_meth (pl := pl) he.of c h1 h3 (hr.mono hk) h2 .nil pass0 ha.of hst hpl ht⟩
theorem qe_methH0 {k n : Nat} {ps : List Str} {sp : Sp} {pl : Sem Bool} (c : Cls X.K C) (h : HasM X.prog X.w X.K X.mg X.base C k m ps sp) (hr : Room n X.A) (he : QE X o ta) (hk : k ≤ n := by decide)
    (ht : eval (.Call (.Attribute o m apos) [] [] pos) X.env = (do
      let ov ← eval o X.env
      standAt apos.atName
      let (f, first) ← holding [ov] (getMethod ov m pl)
      callWith pos f first (backTo pos (starEach [] X.env)) (backToKw pos (keywordEach [] X.env))) := by rfl) :
    QE X (.Call (.Attribute o m apos) [] [] pos) (tMeth C m sp [] E0 ta tNil) := by
  obtain ⟨f, fd, h1, h2, h3⟩ := h
  exact ⟨pe_meth0 (pl := pl) he.of c h1 h3 (hr.mono hk) h2 .nil pass0 ht⟩
theorem qe_makeH {k n : Nat} {ps : List Str} {sp : Sp} (h : HasI X.prog X.w X.K X.mg X.base C k x ps sp) (hr : Room n X.A) (ha : QA X (e :: es) t) (hk : k + 1 ≤ n := by decide) (hg : Gl X x := by rfl)
    (hdb : (x == ("__debug__" : Str)) = false := by decide) (he : starEach (e :: es) X.env = (false, eval e X.env) :: starEach es X.env := by rfl) (hpl : (backTo pos (starEach es X.env)).any (·.1) = false := by rfl) :
    QE X (.Call (.Name x p) (e :: es) [] pos) (tMake C sp [] E0 t) := by
  obtain ⟨f, fd, h0, h1, h2, h3⟩ := h
  exact ⟨pe_make h1 h3 (hr.mono hk) hg h0 h2 .nil pass0 ha.of hdb he hpl⟩
theorem qe_fld (he : QE X e ta) (hb : attributeBase e f X.env (eval e X.env) = eval e X.env) : QE X (.Attribute e f pos) (tFld X.K ta f) := ⟨pe_fld he.of hb⟩
theorem qs_fld (ha : QE X o ta) (hv : QE X value tv) (hs : swapsWith value (some (.Attribute o f pos')) pos.line X.env = pure false) : QS X (.Assign [.Attribute o f pos'] value pos) (sFld X.K ta tv f) := ⟨ps_fld ha.of hv.of hs⟩
theorem qa_at {b : Expr} {g : Str} (ha : QE X (.Attribute b g pos) te) (hr : QA X es t) : QA X (.Attribute b g pos :: es) (tCons te t) := ⟨pa_cons ha.of hr.of rfl⟩
end
end Mx
set_option Elab.async false
set_option linter.all false
set_option maxRecDepth 100000
namespace L2
open PySem PySem.Spec PyProof.Rows
/-- the numbers ahead of n -/
def natsV (n : Nat) : List V := (List.range n).map fun i : Nat => V.int i
theorem vals_items : ∀ {n : Nat} {acc : Array Value}, ItemsOf (fun i v => ∃ t, v = Value.int (0 + (i : Int) * 1) t) acc n → Vals (natsV n) acc.toList := by
  intro n acc h
  have go : ∀ (k : Nat) (l : List Value), (∀ (j : Nat) v, l[j]? = some v → ∃ t, v = Value.int ((k + j : Nat) : Int) t) → Vals ((List.range' k l.length).map fun i : Nat => V.int i) l := by
    intro k l
    induction l generalizing k with
    | nil => intro _; exact .nil
    | cons v l ih =>
      intro hj
      obtain ⟨t, rfl⟩ := hj 0 v rfl
      rw [List.length_cons, List.range'_succ, List.map_cons]
      refine .cons ⟨t, by simp⟩ (ih (k + 1) fun j v hv => ?_)
      obtain ⟨t, e⟩ := hj (j + 1) v (by simpa using hv)
      exact ⟨t, by rw [e]; congr 1; omega⟩
  have := go 0 acc.toList fun j v hv => by
    obtain ⟨t, e⟩ := h.2 j v (by simpa using hv)
    exact ⟨t, by rw [e]; congr 1; omega⟩
  have hl : acc.toList.length = n := by rw [Array.length_toList]; exact h.1
  rw [hl] at this
  unfold natsV
  rw [List.range_eq_range']
  exact this
section
variable {X : Cx}
def tLR (ta : TA) : TE := fun σ H Q => ta σ H fun vs H1 => ∃ n : Nat, vs = [.int (n : Int)] ∧ n ≤ 1000 ∧ ∀ l, H1 l = none → Q (.ref l) (upd H1 l (.lst (natsV n)))
theorem pe_listRange {a : Expr} {ta : TA} {p p2 pos pos2 : Pos} (hh : X.A.handled = none) (hgl : Gl X "list") (hml : X.mg "list" = none) (hgr : Gl X "range") (hmr : X.mg "range" = none) (ha : PA X [a] ta)
    (hs : starEach [a] X.env = [(false, eval a X.env)] := by rfl)
    (hs2 : starEach [.Call (.Name "range" p2) [a] [] pos2] X.env = [(false, eval (.Call (.Name "range" p2) [a] [] pos2) X.env)] := by rfl) :
    PE X (.Call (.Name "list" p) [.Call (.Name "range" p2) [a] [] pos2] [] pos) (tLR ta) := by
  intro pins s σ H Q I h
  refine Call_ (ld_blt I hgl hml boot_list (PyProof.Rows.callWith_type1 ?_ hs2 rfl))
  rw [hs2]
  show wpAny _ _ (spliced ((false, eval (.Call (.Name "range" p2) [a] [] pos2) X.env) :: backTo pos (starEach [] X.env))) _ _ s
  refine Calls.spliced_cons ?_
  refine Call_ (ld_blt I hgr hmr boot_range (PyProof.Rows.callWith_type1 (thn (ha pos2 pins s σ H _ I h) fun us s1 ⟨vs, H1, I1, r1, q1⟩ => ?_) hs rfl))
  obtain ⟨n, e, hn, q⟩ := q1
  subst e
  obtain ⟨u, rfl, r⟩ := vals1 r1
  obtain ⟨t, rfl⟩ := r
  refine call_range_1 ?_
  refine Calls.spliced_nil ?_
  have I2 : Inv X pins σ H1 { s1 with heap := s1.heap.push { cls := .type "range", data := .fields #[.int 0 s1.toks, .int n t, .int 1 (s1.toks + 1)] }, toks := s1.toks + 1 + 1 } := I1.kept fun b o e => Heap.get?_push_of_some _ e
  refine call_list_range (n := n) hh (IsRange.new ..) (small_one (by omega) (by omega) (by omega) (by omega)) (by rw [rangeSize_one]; split <;> omega) (by omega) fun h' tk acc' c' kp e hi => ?_
  have r' := vals_items hi
  have hl : (natsV n).length = n := by simp [natsV]
  exact ⟨.ref _, _, I2.laid (t' := tk) kp (Nat.le_refl _) (show ObjOk X.prog X.w _ h' _ (.lst (natsV n)) from ⟨by rw [hl]; exact Nat.le_trans hn (by decide), acc'.toList, c', r', by simpa using e⟩), rfl, q _ (I2.hok.fresh (Nat.le_refl _))⟩
end
end L2
set_option Elab.async false
set_option linter.all false
set_option maxRecDepth 100000
set_option maxHeartbeats 2000000
namespace L2
open PySem PySem.Spec PyProof.Rows PySem.W
section
variable {X : Cx} {pins : List (Addr × Obj)} {σ : St} {H : Hp} {s : Shared} {a C : Addr} {dx : Option Addr}
end
end L2
set_option Elab.async false
set_option linter.all false
set_option maxRecDepth 100000
set_option maxHeartbeats 2000000
namespace L2
open PySem PySem.Spec PyProof.Rows PySem.W
section
variable {X : Cx} {pins : List (Addr × Obj)} {σ : St} {H : Hp} {s : Shared} {a C : Addr} {dx : Option Addr}
end
section
variable {P : Program} {w : World} {K : PySem.W.Frag} {mg : Str → Option Value} {base : Heap} {N : List Str} {qual : Str} {scope : Scope} {f : Addr} {cd : Value} {A : Around} {outer : List Env} {s0 : Shared} {H0 : Hp} {E : XK}
end
section
variable {P : Program} {w : World} {K : PySem.W.Frag} {mg : Str → Option Value} {base : Heap}
end
section
variable {X : Cx} {e o : Expr} {es : List Expr} {ta : TE} {t : TA} {p pos apos : Pos} {x m : Str} {C : Addr} {E : XK}
end
end L2
set_option Elab.async false
set_option linter.all false
set_option maxRecDepth 100000
set_option maxHeartbeats 2000000
namespace L2
open PySem PySem.Spec PyProof.Rows PySem.W
section
variable {X : Cx} {pins : List (Addr × Obj)} {σ : St} {H : Hp} {s : Shared} {v : Value}
variable {e : Expr} {es : List Expr} {p pos apos : Pos} {x m : Str} {C : Addr} {t : TA} {te ta : TE}
end
end L2
set_option Elab.async false
set_option linter.all false
set_option maxRecDepth 100000
set_option maxHeartbeats 2000000
namespace L2
open PySem PySem.Spec PyProof.Rows PySem.W
section
variable {X : Cx} {e o : Expr} {es : List Expr} {t : TA} {ta : TE} {p pos apos : Pos} {x m : Str} {C : Addr}
end
section
variable {P : Program} {w : World} {K : PySem.W.Frag} {mg : Str → Option Value} {base : Heap} {C : Addr}
end
section
variable {X : Cx} {pins : List (Addr × Obj)} {σ : St} {H : Hp} {s : Shared} {e o : Expr} {es : List Expr} {t : TA} {ta : TE} {p pos apos : Pos} {x m : Str} {C : Addr}
end
end L2
set_option Elab.async false
set_option linter.all false
set_option maxRecDepth 100000
set_option maxHeartbeats 2000000
namespace L2
open PySem PySem.Spec PyProof.Rows PySem.W
section
variable {X : Cx}
end
end L2
set_option Elab.async false
set_option linter.all false
set_option maxRecDepth 100000
set_option maxHeartbeats 2000000
namespace L2
open PySem PySem.Spec PyProof.Rows PySem.W
section
variable {X : Cx}
end
end L2
namespace Mx
open PySem L2 PyProof.Rows
section
variable {X : Cx} {o e : Expr} {es : List Expr} {te to : TE} {t : TA} {pos p2 : Pos}
theorem qe_sl {lo hi : Option Expr} {tl th : TO} {r : V → Option Int → Option Int → Hp → VK → Prop} (hr : SlR X r) (he : QE X e te) (hl : PO X lo tl) (hu : PO X hi th) : QE X (.Subscript e (.Slice lo hi none p2) pos) (tSl r te tl th) := ⟨pe_slice hr he.of hl hu⟩
theorem qe_bm {name : Str} {apos cpos : Pos} {T id : String} {r : V → List V → Hp → VK → Prop} (pa : PlainAttrs T) (slot : Slot T name id) (hty : typeOf (.builtin id) = pure (.type "method_descriptor")) (hm : MtR X id r) (ho : QE X o to) (ha : QA X (e :: es) t)
    (hbase : attributeBase o name X.env (eval o X.env) = eval o X.env := by rfl)
    (hfew : ((backTo cpos (starEach (e :: es) X.env)).all (fun x => !x.1) && (backToKw cpos (keywordEach [] X.env)).all (fun x => x.1.isSome)
      && decide ((e :: es).length + ([] : List Keyword).length + (if ([] : List Keyword).isEmpty then 0 else 1) < 30)) = true := by rfl)
    (hline : (apos.endLine == cpos.line) = true := by rfl) (hs : starEach (e :: es) X.env = (false, eval e X.env) :: starEach es X.env := by rfl) (hplain : (backTo cpos (starEach es X.env)).any (·.1) = false := by rfl) :
    QE X (.Call (.Attribute o name apos) (e :: es) [] cpos) (tBM X.K T r to t) := ⟨pe_bm pa slot hty hm ho.of ha.of hbase hfew hline hs hplain⟩
end
end Mx
set_option Elab.async false
set_option linter.all false
set_option maxRecDepth 100000
set_option maxHeartbeats 2000000
namespace L2
open PySem PySem.Spec PyProof.Rows PySem.W
def AtX (H : Hp) (v : V) (d : PyData) : Prop := At H v d ∨ (d = .dict [] ∧ ∃ a, v = .ref a ∧ H a = some (.dK []))
section
variable {X : Cx}
end
end L2
set_option Elab.async false
set_option linter.all false
set_option maxRecDepth 100000
set_option maxHeartbeats 2000000
namespace L2
open PySem PySem.Spec PyProof.Rows PySem.W
section
variable {X : Cx}
end
end L2
set_option Elab.async false
set_option linter.all false
set_option maxRecDepth 100000
set_option maxHeartbeats 4000000
namespace L2
open PySem PyProof.Rows
def Lay (L : List Addr) (te : TE) (σ : L2.St) (d : PyData) (H : Hp) : Prop := (∀ b ∈ L, H b ≠ none) → ∀ H1, Same H H1 → ∀ Q : VK, (∀ v H', Same H1 H' → At (hideL H' L) v d → Q v H') → te σ H1 Q
def LayA (L : List Addr) (ta : TA) (σ : L2.St) (ds : List PyData) (H : Hp) : Prop := (∀ b ∈ L, H b ≠ none) → ∀ H1, Same H H1 → ∀ Q : List V → Hp → Prop, (∀ vs H', Same H1 H' → AtAll (hideL H' L) vs ds → Q vs H') → ta σ H1 Q
theorem not_hid {L : List Addr} {H H1 : Hp} {p : Addr} (hL : ∀ b ∈ L, H b ≠ none) (s : Same H H1) (hp : H1 p = none) : p ∉ L := fun z => by
  cases e : H p with
  | none => exact hL p z e
  | some o => rw [s _ _ e] at hp; cases hp
section
variable {K : PySem.W.Frag} {σ : L2.St} {H : Hp} {te tf : TE} {ta : TA} {d : PyData} {ds es : List PyData} {L : List Addr}
theorem lay_nil : LayA L tNil σ [] H := fun hL H1 s Q k => k [] H1 (Same.refl H1) .nil
theorem lay_cons (h : Lay L te σ d H) (r : LayA L ta σ ds H) : LayA L (tCons te ta) σ (d :: ds) H := fun hL H1 s Q k =>
  h hL H1 s _ fun v H2 s2 a2 => r hL H2 (s.trans s2) _ fun vs H3 s3 a3 => k (v :: vs) H3 (s2.trans s3) (.cons (a2.same (hideL_mono s3 L)) a3)
theorem new_tup {H0 H2 : Hp} {p : Addr} {vs : List V} (hL : ∀ b ∈ L, H0 b ≠ none) (s : Same H0 H2) (hp : H2 p = none) (a : AtAll (hideL H2 L) vs ds) : At (hideL (upd H2 p (.tup vs)) L) (.ref p) (.tuple ds) :=
  .tup (by rw [hideL_get (not_hid hL s hp)]; exact upd_same) (a.same (hideL_mono ((Same.refl H2).upd hp) L))
theorem new_lst {H0 H2 : Hp} {p : Addr} {vs : List V} (hL : ∀ b ∈ L, H0 b ≠ none) (s : Same H0 H2) (hp : H2 p = none) (a : AtAll (hideL H2 L) vs ds) : At (hideL (upd H2 p (.lst vs)) L) (.ref p) (.list ds) :=
  .lst (by rw [hideL_get (not_hid hL s hp)]; exact upd_same) (a.same (hideL_mono ((Same.refl H2).upd hp) L))
theorem lay_tup (h : LayA L ta σ ds H) (z : ds.length ≤ 1000 := by exact Nat.le_of_ble_eq_true rfl) : Lay L (tTup ta) σ (.tuple ds) H := fun hL H1 s Q k =>
  h hL H1 s _ fun vs H2 s2 a2 => ⟨by rw [a2.length]; exact Nat.le_trans z (by decide), fun p hp => k _ _ (s2.upd hp) (new_tup hL (s.trans s2) hp a2)⟩
theorem lay_lst (h : LayA L ta σ ds H) (z : ds.length ≤ 1000 := by exact Nat.le_of_ble_eq_true rfl) : Lay L (tLst ta) σ (.list ds) H := fun hL H1 s Q k =>
  h hL H1 s _ fun vs H2 s2 a2 => ⟨by rw [a2.length]; exact Nat.le_trans z (by decide), fun p hp => k _ _ (s2.upd hp) (new_lst hL (s.trans s2) hp a2)⟩
theorem lay_non : Lay L (tC .non) σ .none H := fun hL H1 s Q k => k _ H1 (Same.refl H1) .non
theorem lay_bl {b : Bool} : Lay L (tC (.bl b)) σ (.bool b) H := fun hL H1 s Q k => k _ H1 (Same.refl H1) (.bl b)
theorem lay_int {i : Int} : Lay L (tC (.int i)) σ (.int i) H := fun hL H1 s Q k => k _ H1 (Same.refl H1) (.int i)
theorem lay_str {x : Str} : Lay L (tC (.str x)) σ (.str x) H := fun hL H1 s Q k => k _ H1 (Same.refl H1) (.str x)
theorem lay_neg {i : Int} : Lay L (tUn (rU fun i => V.int (-i)) (tC (.int i))) σ (.int (-i)) H := fun hL H1 s Q k => ⟨i, rfl, k _ H1 (Same.refl H1) (.int _)⟩
theorem lay_var {i : Nat} {v : V} (hσ : σ[i]? = some (some v)) (h : At (hideL H L) v d) : Lay L (tVar i) σ d H := fun hL H1 s Q k => ⟨v, hσ, k v H1 (Same.refl H1) (h.same (hideL_mono s L))⟩
theorem gn {i : Nat} {v : V} {σ : L2.St} {H : Hp} {Q : L2.St → Hp → Prop} (h : Q (σ.set i (some v)) H) : gName i v σ H Q := h
theorem lay_go {Q : VK} (h : Lay L te σ d H) (hL : ∀ b ∈ L, H b ≠ none) (k : ∀ v H', Same H H' → At (hideL H' L) v d → Q v H') : te σ H Q := h hL H (Same.refl H) Q k
theorem lay_set {i : Nat} {rest : TS} {KK : Ends} (h : Lay [] te σ d H) (k : ∀ v H', Same H H' → At H' v d → rest KK (σ.set i (some v)) H') : tSeq (tAsg te (gName i)) rest KK σ H :=
  h (fun b hb => by cases hb) H (Same.refl H) _ fun v H' s a => k v H' s (a.same (hideL_same _ _))
def Sm (D B : Nat) (d : PyData) : Prop := d.showable = true ∧ d.depth ≤ D ∧ d.leavesShort 40 = true ∧ d.bulk ≤ B
theorem Sm.list {D B n : Nat} {xs : List PyData} (h : ∀ x ∈ xs, Sm D B x) (hl : xs.length ≤ n) : Sm (D + 1) ((B + 1) * n) (.list xs) := by
  refine ⟨?_, ?_, ?_, ?_⟩
  · simp only [PyData.showable]
    exact Spec.showableAll_of fun x hx => (h x hx).1
  · have := depthAll_le (n := D) (xs := xs) fun x hx => (h x hx).2.1
    simp only [PyData.depth]
    omega
  · unfold PyData.leavesShort
    exact shortAll_of fun x hx => (h x hx).2.2.1
  · have := bulkAll_le (n := B) (xs := xs) fun x hx => (h x hx).2.2.2
    simp only [PyData.bulk]
    exact Nat.le_trans this (Nat.mul_le_mul_left _ hl)
theorem Sm.shown {D B : Nat} {d : PyData} (h : Sm D B d) (hD : D ≤ 60 := by decide) (hB : B ≤ 100000 := by decide) : d.showable = true ∧ d.depth ≤ 60 ∧ d.shown.length ≤ sizeLine := by
  refine ⟨h.1, Nat.le_trans h.2.1 hD, ?_⟩
  have h1 := PyData.shown_le_bulk 40 (by decide) d h.2.2.1
  have h2 := h.2.2.2
  have hsl : (sizeLine : Nat) = 16777216 := rfl
  omega
end
section
variable {X : Cx}
end
end L2
set_option Elab.async false
set_option linter.all false
set_option maxRecDepth 100000
set_option maxHeartbeats 2000000
namespace L2
open PySem PySem.Spec PyProof.Rows PySem.W Mx
section
variable {P : Program} {w : World} {K : PySem.W.Frag} {mg : Str → Option Value} {base : Heap} {C : Addr}
end
section
variable {X : Cx} {o e : Expr} {es : List Expr} {ta : TE} {t : TA} {C : Addr} {m : Str} {pos apos : Pos} {E : XK}
end
end L2
set_option Elab.async false
set_option linter.all false
set_option maxRecDepth 100000
set_option maxHeartbeats 2000000
namespace L2
open PySem PySem.Spec PyProof.Rows PySem.W
inductive AllX (H : Hp) : List V → List PyData → Prop
  | nil : AllX H [] []
  | cons {v : V} {d : PyData} {vs : List V} {ds : List PyData} : AtX H v d → AllX H vs ds → AllX H (v :: vs) (d :: ds)
theorem AtX.readsX {P : Program} {w : World} {H : Hp} {h : Heap} {v : V} {d : PyData} {u : Value} (ok : HOk P w H h) (a : AtX H v d) (r : RelV v u) : ∃ as, Reads h u d as ∧ (d.hasDict = true → sysModules ∉ as) := by
  rcases a with a | ⟨e, p, ea, hp⟩
  · obtain ⟨as, q⟩ := a.reads ok r
    exact ⟨as, q, fun z => by rw [a.noDict] at z; cases z⟩
  · subst e ea
    cases r
    obtain ⟨_, hm, vs, kv, o, es, ep, e1, e2, e3, e4, e5, _⟩ := ok p _ hp
    cases kv
    have hes : es.toList = [] := by
      revert e5
      generalize es.toList = l
      intro e5
      cases e5
      rfl
    refine ⟨p :: [] ++ [], .dict e1 e2.1 e3 (by rw [hes]; exact .nil) (by rw [hes]; exact .nil), fun _ hmem => ?_⟩
    have : sysModules = p := by simpa using hmem
    rw [this] at hm
    simp at hm
theorem AllX.repr {P : Program} {w : World} {H : Hp} {h : Heap} (ok : HOk P w H h) : ∀ {vs : List V} {ds : List PyData} {us : List Value}, AllX H vs ds → Vals vs us → PyData.showableAll ds = true → (∀ t ∈ PyData.shownAll ds, t.length ≤ sizeLine) →
    ∃ as bs, ReadsAll h us ds as ∧ ReadAtMost h (PyData.depthAll ds) bs ∧ ReprAllK P w bs h (PyData.depthAll ds) us (PyData.shownAll ds)
  | _, _, _, .nil, .nil, _, _ => ⟨_, [], .nil, (fun _ h => nomatch h), by simp only [PyData.shownAll]; exact .nil⟩
  | _, _, _, .cons (d := d) (ds := ds) a x, .cons r rs, hs, hz => by
    have hs' : d.showable = true ∧ PyData.showableAll ds = true := by simpa [PyData.showableAll] using hs
    obtain ⟨as, rd, hsm⟩ := a.readsX ok r
    obtain ⟨b1, hb1, k1⟩ := ReprK.of_reads (prog := P) (w := w) rd hs'.1 hsm (hz _ (by simp only [PyData.shownAll]; exact List.mem_cons_self ..))
    obtain ⟨as2, b2, rd2, hb2, k2⟩ := AllX.repr ok x rs hs'.2 (fun t ht => hz t (by simp only [PyData.shownAll]; exact List.mem_cons_of_mem _ ht))
    refine ⟨_, b1 ++ b2, .cons rd rd2, ?_, ?_⟩
    · intro b hm
      simp only [PyData.depthAll]
      rcases List.mem_append.mp hm with hm | hm
      · obtain ⟨d', as', r', hd'⟩ := hb1 b hm
        exact ⟨d', as', r', Nat.le_trans hd' (Nat.le_max_left _ _)⟩
      · obtain ⟨d', as', r', hd'⟩ := hb2 b hm
        exact ⟨d', as', r', Nat.le_trans hd' (Nat.le_max_right _ _)⟩
    · simp only [PyData.depthAll, PyData.shownAll]
      exact .cons ((k1.more fun b hb => List.mem_append_left _ hb).level_le (Nat.le_max_left _ _)) (k2.more_le (fun b hb => List.mem_append_right _ hb) (Nat.le_max_right _ _))
section
variable {X : Cx}
def rReprXL : List V → Hp → VK → Prop := fun xs H Q => ∃ a vs ds, xs = [.ref a] ∧ H a = some (.lst vs) ∧ vs ≠ [] ∧ AllX H vs ds ∧ (PyData.list ds).showable = true ∧ (PyData.list ds).depth ≤ 60 ∧ (PyData.list ds).shown.length ≤ sizeLine ∧ Q (.str (PyData.list ds).shown) H
theorem call_reprXL {k : Nat} (hr : Room k X.A) : CallR X (.builtin "repr") rReprXL := by
  intro pins s σ H xs us Q I r h
  obtain ⟨a, vs, ds, rfl, hL, hne, hx, hs, hd, hz, q⟩ := h
  cases r with
  | cons r rr =>
    cases rr
    cases r
    obtain ⟨z, its, n, rv, ho⟩ := I.hok _ _ hL
    have hz' : (listText (PyData.shownAll ds)).length ≤ sizeLine := by simpa only [PyData.shown] using hz
    obtain ⟨as, bs, rd, hb, hk⟩ := AllX.repr I.hok hx rv (by simpa [PyData.showable] using hs) (fun t ht => Nat.le_trans (listText_mem_le ht) hz')
    have hna : a ∉ bs := not_mem_of_deeper (.list ho rfl rfl (by simpa using rd)) (by simp only [PyData.depth]; omega) hb
    have hu := hr.units
    simp only [PyData.depth] at hd
    cases hits : its with
    | nil => subst hits; cases rv; exact absurd rfl hne
    | cons x l =>
      subst hits
      refine call_repr_slot (by omega) ⟨_, ho, rfl⟩ F.slot_list_repr.toG ?_
      refine call_list_reprK ho rfl rfl hna (by simpa using hk.length_eq) (fun i y e => hk.item i y (by simpa using e)) hr.gd (fun b _ => Clear.nil b) (by show X.A.units + 1 + (PyData.depthAll ds + 1) < cLine; omega) (fun _ _ z => z) (fun h' u tk hkp => ⟨_, _, rfl, ?_⟩) hz'
      refine ⟨.str _, H, I.kept hkp, ⟨_, rfl⟩, ?_⟩
      simp only [PyData.shown] at q
      exact q
end
end L2
set_option Elab.async false
set_option linter.all false
set_option maxRecDepth 100000
set_option maxHeartbeats 2000000
namespace L2
open PySem PySem.Spec PyProof.Rows PySem.W
section
variable {X : Cx}
end
end L2
set_option Elab.async false
set_option linter.all false
set_option maxRecDepth 100000
set_option maxHeartbeats 2000000
namespace L2
open PySem PyProof.Rows
theorem AtAll.allX {H : Hp} : ∀ {vs : List V} {ds : List PyData}, AtAll H vs ds → AllX H vs ds
  | _, _, .nil => .nil
  | _, _, .cons a r => .cons (.inl a) (AtAll.allX r)
section
variable {K : PySem.W.Frag} {σ : L2.St} {H : Hp} {te tf : TE} {ta : TA} {d : PyData} {ds es : List PyData} {L : List Addr}
end
end L2
set_option Elab.async false
set_option linter.all false
set_option maxRecDepth 100000
namespace L2
open PySem PySem.Spec PyProof.Rows
section
variable {P : Program} {w : World} {A : Around} {E : Value → Shared → Prop} {s : Shared}
end
end L2
set_option Elab.async false
set_option linter.all false
set_option maxRecDepth 100000
namespace L2
open PySem PySem.Spec PyProof.Rows
open Builtin.SmallTypes (nextOf)
section
variable {prog : Program} {w : World} {A : Around} {E : Value → Shared → Prop} {s : Shared}
end
end L2
set_option Elab.async false
set_option linter.all false
set_option maxRecDepth 100000
namespace L2
open PySem PySem.Spec PyProof.Rows
section
variable {P : Program} {w : World} {A : Around} {E : Value → Shared → Prop} {s : Shared}
end
end L2
set_option Elab.async false
set_option linter.all false
set_option maxRecDepth 100000
namespace L2
open PySem PySem.Spec PyProof.Rows
theorem boot_dictT : bootBuiltins "dict" = some (.type "dict") := by decide +kernel
section
variable {P : Program} {w : World} {A : Around} {E : Value → Shared → Prop} {s : Shared}
end
section
variable {X : Cx}
end
end L2
set_option Elab.async false
set_option linter.all false
set_option maxRecDepth 100000
namespace L2
open PySem PySem.Spec PyProof.Rows
section
variable {X : Cx}
end
theorem rising_eq {a b : List Int} (p : a.Perm b) (ha : a.Pairwise (· ≤ ·)) (hb : b.Pairwise (· ≤ ·)) : a = b := p.eq_of_pairwise (fun x y _ _ h1 h2 => Int.le_antisymm h1 h2) ha hb
end L2
set_option Elab.async false
set_option linter.all false
set_option maxRecDepth 100000
namespace L2
open PySem PySem.Spec PyProof.Rows
def Srt (xs : Array Nat) : Prop := ∀ (i j : Nat) (x y : Nat), i < j → xs[i]? = some x → xs[j]? = some y → x < y
theorem below_go (xs : Array Nat) (j : Nat) (hs : Srt xs) : ∀ (fuel lo hi : Nat), hi - lo ≤ fuel → lo ≤ hi → hi ≤ xs.size → (∀ k x, k < lo → xs[k]? = some x → x < j) → (∀ k x, hi ≤ k → xs[k]? = some x → j ≤ x) →
    (∀ k x, k < SetTable.below.go xs j fuel lo hi → xs[k]? = some x → x < j) ∧ (∀ k x, SetTable.below.go xs j fuel lo hi ≤ k → xs[k]? = some x → j ≤ x) ∧ SetTable.below.go xs j fuel lo hi ≤ xs.size
  | 0, lo, hi, hf, h1, h2, ha, hb => by
    have e : lo = hi := by omega
    subst e
    exact ⟨ha, hb, h2⟩
  | fuel + 1, lo, hi, hf, h1, h2, ha, hb => by
    unfold SetTable.below.go
    by_cases hlt : lo < hi
    · rw [if_pos hlt]
      have hm : (lo + hi) / 2 < xs.size := by omega
      have hg : xs[(lo + hi) / 2]? = some (xs.getD ((lo + hi) / 2) j) := by
        rw [Array.getD_eq_getD_getElem?, Array.getElem?_eq_getElem hm]; rfl
      dsimp only
      by_cases hc : xs.getD ((lo + hi) / 2) j < j
      · rw [if_pos hc]
        refine below_go xs j hs fuel _ hi (by omega) (by omega) h2 (fun k x hk hx => ?_) hb
        by_cases he : k = (lo + hi) / 2
        · subst he; rw [hg] at hx; cases hx; exact hc
        · have := hs k ((lo + hi) / 2) x _ (by omega) hx hg
          omega
      · rw [if_neg hc]
        refine below_go xs j hs fuel lo _ (by omega) (by omega) (by omega) ha (fun k x hk hx => ?_)
        by_cases he : k = (lo + hi) / 2
        · subst he; rw [hg] at hx; cases hx; omega
        · have := hs ((lo + hi) / 2) k _ x (by omega) hg hx
          omega
    · rw [if_neg hlt]
      have e : lo = hi := by omega
      subst e
      exact ⟨ha, hb, h2⟩
theorem below_is {xs : Array Nat} (j : Nat) (hs : Srt xs) : (∀ k x, k < SetTable.below xs j → xs[k]? = some x → x < j) ∧ (∀ k x, SetTable.below xs j ≤ k → xs[k]? = some x → j ≤ x) ∧ SetTable.below xs j ≤ xs.size := by
  unfold SetTable.below
  refine below_go xs j hs xs.size 0 xs.size (by omega) (Nat.zero_le _) (Nat.le_refl _) (fun k x h => absurd h (Nat.not_lt_zero _)) (fun k x h hx => ?_)
  rw [Array.getElem?_eq_none h] at hx; cases hx
theorem below_at {xs : Array Nat} {j n : Nat} (hs : Srt xs) (hn : n ≤ xs.size) (h1 : ∀ k x, k < n → xs[k]? = some x → x < j) (h2 : ∀ k x, n ≤ k → xs[k]? = some x → j ≤ x) : SetTable.below xs j = n := by
  obtain ⟨b1, b2, b3⟩ := below_is j hs
  rcases Nat.lt_trichotomy (SetTable.below xs j) n with h | h | h
  · have hlt : SetTable.below xs j < xs.size := by omega
    have g := Array.getElem?_eq_getElem hlt
    have := h1 _ _ h g
    have := b2 _ _ (Nat.le_refl _) g
    omega
  · exact h
  · have hlt : n < xs.size := by omega
    have g := Array.getElem?_eq_getElem hlt
    have := h2 _ _ (Nat.le_refl _) g
    have := b1 _ _ h g
    omega
theorem insertAt_get {α : Type} (xs : Array α) (p : Nat) (x : α) (hp : p ≤ xs.size) (i : Nat) : (SetTable.insertAt xs p x)[i]? = if i < p then xs[i]? else if i = p then some x else xs[i - 1]? := by
  unfold SetTable.insertAt
  have e1 : ((xs.extract 0 p).push x ++ xs.extract p xs.size).toList = xs.toList.take p ++ x :: xs.toList.drop p := by
    simp
    exact List.take_of_length_le (by simp)
  rw [← Array.getElem?_toList, e1]
  have hl : (xs.toList.take p).length = p := by rw [List.length_take, Array.length_toList]; omega
  by_cases h1 : i < p
  · rw [if_pos h1, List.getElem?_append_left (by omega), List.getElem?_take_of_lt h1, Array.getElem?_toList]
  · rw [if_neg h1, List.getElem?_append_right (by omega), hl]
    by_cases h2 : i = p
    · rw [if_pos h2, h2, Nat.sub_self]; rfl
    · rw [if_neg h2]
      obtain ⟨d, hd⟩ : ∃ d, i - p = d + 1 := ⟨i - p - 1, by omega⟩
      rw [hd, List.getElem?_cons_succ, List.getElem?_drop, Array.getElem?_toList]
      congr 1
      omega
theorem srt_insert {xs : Array Nat} {j : Nat} (hs : Srt xs) (hj : xs[SetTable.below xs j]? ≠ some j) : Srt (SetTable.insertAt xs (SetTable.below xs j) j) := by
  obtain ⟨b1, b2, b3⟩ := below_is j hs
  have hgt : ∀ k x, SetTable.below xs j ≤ k → xs[k]? = some x → j < x := fun k x hk hx => by
    have h1 := b2 k x hk hx
    by_cases he : x = j
    · subst he
      by_cases hk2 : k = SetTable.below xs x
      · subst hk2; exact absurd hx hj
      · have hlt : SetTable.below xs x < xs.size := by
          have := (Array.getElem?_eq_some_iff.mp hx).1
          omega
        have g := Array.getElem?_eq_getElem hlt
        have h2 := hs _ k _ x (by omega) g hx
        have h3 := b2 _ _ (Nat.le_refl _) g
        omega
    · omega
  intro a b x y hab hx hy
  rw [insertAt_get _ _ _ b3] at hx hy
  by_cases ha : a < SetTable.below xs j
  · rw [if_pos ha] at hx
    by_cases hb : b < SetTable.below xs j
    · rw [if_pos hb] at hy
      exact hs a b x y hab hx hy
    · rw [if_neg hb] at hy
      have hxj := b1 a x ha hx
      by_cases hb2 : b = SetTable.below xs j
      · rw [if_pos hb2] at hy; cases hy; exact hxj
      · rw [if_neg hb2] at hy
        have := hgt (b - 1) y (by omega) hy
        omega
  · rw [if_neg ha] at hx
    have hb : ¬ b < SetTable.below xs j := by omega
    rw [if_neg hb] at hy
    by_cases ha2 : a = SetTable.below xs j
    · rw [if_pos ha2] at hx
      cases hx
      rw [if_neg (by omega)] at hy
      exact hgt (b - 1) y (by omega) hy
    · rw [if_neg ha2] at hx
      rw [if_neg (by omega)] at hy
      exact hs (a - 1) (b - 1) x y (by omega) hx hy
theorem srt_range (n : Nat) : Srt (Array.range n) := by
  intro i j x y hij hx hy
  have h1 := (Array.getElem?_eq_some_iff.mp hx).2
  have h2 := (Array.getElem?_eq_some_iff.mp hy).2
  simp at h1 h2
  omega
theorem srt_of {l : List Nat} (h : l.Pairwise (· < ·)) : Srt l.toArray := by
  intro i j x y hij hx hy
  have hx' : l[i]? = some x := by simpa using hx
  have hy' : l[j]? = some y := by simpa using hy
  obtain ⟨hi, e1⟩ := List.getElem?_eq_some_iff.mp hx'
  obtain ⟨hj, e2⟩ := List.getElem?_eq_some_iff.mp hy'
  have := List.pairwise_iff_getElem.mp h i j hi hj hij
  rw [e1, e2] at this
  exact this
end L2
set_option Elab.async false
set_option linter.all false
set_option maxRecDepth 100000
namespace L2
open PySem PySem.Spec PyProof.Rows
def TOk (t : SetTable) : Prop := Srt t.place ∧ t.dummies = #[]
theorem has_none (j : Nat) : SetTable.has #[] j = false := by
  unfold SetTable.has
  simp
theorem slot_no {t : SetTable} (h : TOk t) (j : Nat) : t.slot j ≠ .dummy := by
  unfold SetTable.slot
  rw [h.2, has_none]
  dsimp only
  split
  · intro z; cases z
  · simp
theorem slot_empty {t : SetTable} {j : Nat} (h : t.slot j = .empty) : t.place[SetTable.below t.place j]? ≠ some j := by
  intro e
  unfold SetTable.slot at h
  dsimp only at h
  rw [if_pos (by rw [e]; simp)] at h
  cases h
theorem advance_dummy (t : SetTable) (p : SetTable.Probe) : (t.advance p).dummy = p.dummy := by
  unfold SetTable.advance
  split <;> rfl
theorem probe_empty {t : SetTable} (ht : TOk t) (f : Nat → Int) (h : Int) : ∀ (fuel : Nat) (p : SetTable.Probe) (j : Nat) (d : Option Nat), p.dummy = none → SetTable.probe.go t f h fuel p = some (.empty j d) → t.slot j = .empty ∧ d = none
  | 0, p, j, d, hp, e => by
    unfold SetTable.probe.go at e
    cases e
  | fuel + 1, p, j, d, hp, e => by
    unfold SetTable.probe.go at e
    split at e
    · rename_i hs
      cases e
      exact ⟨hs, hp⟩
    · rename_i hs
      exact absurd hs (slot_no ht _)
    · split at e
      · cases e
      · exact probe_empty ht f h fuel _ j d (by rw [advance_dummy]; exact hp) e
theorem freeSlot_is {t : SetTable} (ht : TOk t) {h : Int} {j : Nat} {b : Bool} (e : t.freeSlot h = some (j, b)) : t.slot j = .empty := by
  unfold SetTable.freeSlot at e
  split at e
  · rename_i j' d hp
    have hq : SetTable.probe.go t (fun _ => h + 1) h (10 * SetTable.turns t.mask) (t.probeStart h) = some (.empty j' d) := hp
    obtain ⟨h1, h2⟩ := probe_empty ht _ _ _ _ _ _ rfl hq
    subst h2
    cases e
    exact h1
  · cases e
theorem put_ok {t : SetTable} (ht : TOk t) {j : Nat} (h : t.slot j = .empty) : TOk (t.put j).1 ∧ (t.put j).1.led = t.led := by
  refine ⟨⟨srt_insert ht.1 (slot_empty h), ?_⟩, rfl⟩
  show (if SetTable.has t.dummies j then SetTable.eraseAt t.dummies (SetTable.below t.dummies j) else t.dummies) = #[]
  rw [ht.2, has_none]
  rfl
theorem standIn_ok (t : SetTable) (n : Nat) : TOk (t.standIn n) ∧ (t.standIn n).led = t.led := ⟨⟨srt_range n, rfl⟩, rfl⟩
theorem orStandIn_ok {t : SetTable} (ht : TOk t) (n : Nat) : TOk (t.orStandIn n) ∧ (t.orStandIn n).led = t.led := by
  unfold SetTable.orStandIn
  split
  · exact ⟨ht, rfl⟩
  · exact standIn_ok t n
theorem layNew_ok {t : SetTable} (ht : TOk t) (es : Array (Int × Value)) (h : Int) (x : Value) : TOk (layNew t es h x).2.1 ∧ (layNew t es h x).2.1.led = t.led := by
  unfold layNew
  split
  · rename_i j b e
    have hp := put_ok ht (freeSlot_is ht e)
    have ho := orStandIn_ok hp.1 (SetTable.insertAt es (t.put j).2 (h, x)).size
    exact ⟨ho.1, ho.2.trans hp.2⟩
  · exact standIn_ok t _
theorem pairwise_filterMap {α : Type} (f : Nat → Option α) : ∀ (l : List Nat), l.Pairwise (· < ·) → ((l.filterMap fun j => (f j).map (j, ·)).map (·.1)).Pairwise (· < ·) := by
  intro l hl
  have hsub : ((l.filterMap fun j => (f j).map (j, ·)).map (·.1)).Sublist l := by
    induction l with
    | nil => exact .slnil
    | cons a l ih =>
      rw [List.filterMap_cons]
      have := ih (List.pairwise_cons.mp hl).2
      cases f a with
      | none => exact .cons _ this
      | some b => exact .cons₂ _ this
  exact hl.sublist hsub
theorem relaid_ok {t t' : SetTable} {hs : Array Int} {n : Nat} {o : Array Nat} (e : t.relaid hs n = some (t', o)) : TOk t' ∧ t'.led = t.led := by
  unfold SetTable.relaid SetTable.laid at e
  cases ho : SetTable.layClean (SetTable.sizeAbove n - 1) hs with
  | none => rw [ho] at e; cases e
  | some owner =>
    rw [ho] at e
    cases e
    refine ⟨⟨srt_of ?_, rfl⟩, rfl⟩
    exact pairwise_filterMap (fun j => owner.getD j none) _ List.pairwise_lt_range
theorem relayAll_ok {t : SetTable} (es : Array (Int × Value)) (n : Nat) : TOk (relayAll t es n).2.1 ∧ (relayAll t es n).2.1.led = t.led := by
  unfold relayAll
  split
  · rename_i t' o e
    dsimp only
    split
    · exact relaid_ok e
    · exact standIn_ok t _
  · exact standIn_ok t _
def byTx (w : World) : Bool := w.params.followText "set-order"
def SetL (P : Program) (w : World) (h : Heap) (a : Addr) (ks : List Int) : Prop :=
  ∃ o es ep t, h.get? a = some o ∧ o.ExactSet ∧ o.data = .set es ep t ∧ ElemsOf (intKind P w) es.toList ∧ (∃ ns, IntsAre (es.toList.map (·.2)) ns ∧ ns.Perm ks) ∧ es.size < scanBound ∧ t.fits es.size = true ∧ TOk t ∧ (byTx w = true ∨ t.led = true)
end L2
set_option Elab.async false
set_option linter.all false
set_option maxRecDepth 100000
namespace L2
open PySem PySem.Spec PyProof.Rows
theorem ints_perm {vs' vs : List Value} (p : vs'.Perm vs) : ∀ {ns : List Int}, IntsAre vs ns → ∃ ns', IntsAre vs' ns' ∧ ns'.Perm ns := by
  induction p with
  | nil => intro ns h; exact ⟨ns, h, List.Perm.refl _⟩
  | cons x _ ih =>
    intro ns h
    cases h with
    | cons n t r =>
      obtain ⟨ns', h1, h2⟩ := ih r
      exact ⟨n :: ns', .cons n t h1, h2.cons n⟩
  | swap x y l =>
    intro ns h
    cases h with
    | cons n t r =>
      cases r with
      | cons m u r => exact ⟨m :: n :: _, .cons m u (.cons n t r), List.Perm.swap ..⟩
  | trans _ _ ih1 ih2 =>
    intro ns h
    obtain ⟨n1, a1, b1⟩ := ih2 h
    obtain ⟨n2, a2, b2⟩ := ih1 a1
    exact ⟨n2, a2, b2.trans b1⟩
theorem ints_mem : ∀ {vs : List Value} {ns : List Int}, IntsAre vs ns → (∀ v ∈ vs, ∃ n t, v = .int n t ∧ n ∈ ns) ∧ ∀ n ∈ ns, ∃ t, Value.int n t ∈ vs
  | _, _, .nil => ⟨fun v h => by simp at h, fun n h => by simp at h⟩
  | _, _, .cons n t r => by
    obtain ⟨h1, h2⟩ := ints_mem r
    refine ⟨fun v hv => ?_, fun m hm => ?_⟩
    · rcases List.mem_cons.mp hv with rfl | hv
      · exact ⟨n, t, rfl, List.mem_cons_self ..⟩
      · obtain ⟨m, u, e, hm⟩ := h1 v hv
        exact ⟨m, u, e, List.mem_cons_of_mem _ hm⟩
    · rcases List.mem_cons.mp hm with rfl | hm
      · exact ⟨t, List.mem_cons_self ..⟩
      · obtain ⟨u, hu⟩ := h2 m hm
        exact ⟨u, List.mem_cons_of_mem _ hu⟩
theorem ints_snoc : ∀ {vs : List Value} {ns : List Int} (k : Int) (t : Tok), IntsAre vs ns → IntsAre (vs ++ [.int k t]) (ns ++ [k])
  | _, _, k, t, .nil => .cons k t .nil
  | _, _, k, t, .cons n u r => .cons n u (ints_snoc k t r)
section
variable {P : Program} {w : World} {A : Around} {E : Value → Shared → Prop} {s : Shared} {a : Addr} {ks : List Int}
theorem storeL {o : Obj} {es : Array (Int × Value)} {ep : Nat} {t : SetTable} {es' : Array (Int × Value)} {t' : SetTable} {ks' : List Int} {h : Heap} (g : h.get? a = some o) (gx : o.ExactSet) (gd : o.data = .set es ep t)
    (el : ElemsOf (intKind P w) es'.toList) (hv : ∃ ns, IntsAre (es'.toList.map (·.2)) ns ∧ ns.Perm ks') (hb : es'.size < scanBound) (hf : t'.fits es'.size = true) (ht : TOk t') (hl : byTx w = true ∨ t'.led = true) :
    (h.update a (Obj.putSet es' t')).get? a = some { o with data := .set es' (ep + 1) t' } ∧ SetL P w (h.update a (Obj.putSet es' t')) a ks' := by
  have hg : (h.update a (Obj.putSet es' t')).get? a = some { o with data := .set es' (ep + 1) t' } := by
    have z := Heap.get?_update_self (Obj.putSet es' t') g (by rw [putSet_of es' t' gd]; rfl)
    rw [putSet_of es' t' gd] at z
    exact z
  exact ⟨hg, _, es', ep + 1, t', hg, gx, rfl, el, hv, hb, hf, ht, hl⟩
theorem addL {k : Int} {tk : Tok} {Q : Bool → Shared → Prop} (hS : SetL P w s.heap a ks) (hroom : ks.length + 1 < scanBound)
    (h : ∀ b h', Heap.SameBut a s.heap h' → SetL P w h' a (if k ∈ ks then ks else ks ++ [k]) → Q b { s with heap := h' }) :
    wpAny (model P w) A (setAddHashed a (.int k tk) ((intKind P w).hash k)) Q E s := by
  obtain ⟨o, es, ep, t, g, gx, gd, el, ⟨ns, hi, hp⟩, hb, hf, ht, hl⟩ := hS
  have hlen : es.size = ks.length := by
    have h1 := IntsAre.length hi
    rw [List.length_map, Array.length_toList] at h1
    rw [h1, hp.length_eq]
  have kk : (intKind P w).is k (.int k tk) = true := intKind_is _ _ _ _
  unfold setAddHashed setAddHashedIn
  refine wpAny_holding (wpAny_bind (wpAny_setState_of g gd hf ?_))
  dsimp only
  rw [byScan_of (knd := intKind P w) rfl hb el]
  simp only [↓reduceIte]
  unfold setAddByScan
  refine wpAny_bind ?_
  refine wpAny_bind (wpAny_rule ?_)
  refine wpAny_bind (wpAny_setScan_of kk g gd hf el ?_)
  have same : ∀ m u, (intKind P w).is k (.int m u) = true → m = k := fun m u z => (intKind P w).inj _ m k (intKind_is _ _ _ _) z
  cases hr : List.findIdx? (fun e => (intKind P w).is k e.2) es.toList with
  | some j =>
    dsimp only
    obtain ⟨hj, hpj, _⟩ := List.findIdx?_eq_some_iff_getElem.mp hr
    have hin : k ∈ ks := by
      obtain ⟨m, u, e, hm⟩ := (ints_mem hi).1 (es.toList[j]).2 (List.mem_map.mpr ⟨_, List.getElem_mem hj, rfl⟩)
      rw [e] at hpj
      have := same m u hpj
      subst this
      exact hp.mem_iff.mp hm
    refine wpAny_pure (wpAny_pure ?_)
    have e : s = { s with heap := s.heap } := by cases s; rfl
    have z := h false s.heap (Heap.SameBut.refl a s.heap) (by rw [if_pos hin]; exact ⟨o, es, ep, t, g, gx, gd, el, ⟨ns, hi, hp⟩, hb, hf, ht, hl⟩)
    rw [e]
    exact z
  | none =>
    dsimp only
    have hout : k ∉ ks := fun hin => by
      obtain ⟨u, hu⟩ := (ints_mem hi).2 k (hp.mem_iff.mpr hin)
      obtain ⟨e, he, e2⟩ := List.mem_map.mp hu
      have z := List.findIdx?_eq_none_iff.mp hr e he
      rw [e2] at z
      rw [show (intKind P w).is k (.int k u) = true from intKind_is _ _ _ _] at z
      cases z
    rw [if_neg hout] at h
    have gw : ∀ (b : Bool) {s1 : Shared} {Q' : Unit → Shared → Prop}, Q' () s1 → wpAny (model P w) A (match b with | true => rule "set.scan.the-table-gave-way" | false => pure ()) Q' E s1 := fun b s1 Q' z => by cases b <;> first | exact wpAny_pure z | exact wpAny_rule z
    have pm := layNew_perm t es ((intKind P w).hash k) (.int k tk)
    have fm := layNew_fits t es ((intKind P w).hash k) (.int k tk)
    have tm := layNew_ok ht es ((intKind P w).hash k) (.int k tk)
    generalize hL : layNew t es ((intKind P w).hash k) (.int k tk) = L at pm fm tm ⊢
    obtain ⟨es1, t1, wasDummy, gave⟩ := L
    dsimp only at pm fm tm ⊢
    rw [Array.toList_push] at pm
    have el1 : ElemsOf (intKind P w) es1.toList := (el.push kk rfl).perm pm
    have hv1 : ∃ ns, IntsAre (es1.toList.map (·.2)) ns ∧ ns.Perm (ks ++ [k]) := by
      have q := pm.map (·.2)
      rw [List.map_append] at q
      obtain ⟨n1, i1, p1⟩ := ints_perm q (ints_snoc k tk hi)
      exact ⟨n1, i1, p1.trans (hp.append_right [k])⟩
    have sz1 : es1.size = ks.length + 1 := by
      rw [← Array.length_toList, pm.length_eq, List.length_append, Array.length_toList, hlen]; rfl
    have hb1 : es1.size < scanBound := by rw [sz1]; exact hroom
    refine wpAny_bind (gw _ ?_)
    have tail : ∀ (t2 : SetTable), t2.fits es1.size = true → TOk t2 → (byTx w = true ∨ t2.led = true) → wpAny (model P w) A (do
        storeSet a es1 t2
        if (!wasDummy && t2.tooFull) = true then do
            (match (relayAll t2 es1 (SetTable.grown es1.size)).2.2 with | true => rule "set.scan.the-table-gave-way" | false => pure ())
            storeSet a (relayAll t2 es1 (SetTable.grown es1.size)).1 (relayAll t2 es1 (SetTable.grown es1.size)).2.1
            pure (some true)
          else pure (some true)) (fun r s1 => wpAny (model P w) A (match r with | some added => pure added | none => setAddHashedIn a (.int k tk) ((intKind P w).hash k) 99999) Q E s1) E s := by
      intro t2 f2 k2 l2
      refine wpAny_bind (wpAny_storeSet_of g gd ?_ (fits_of_scanBound hb1))
      obtain ⟨g1, S1⟩ := storeL (P := P) (w := w) g gx gd el1 hv1 hb1 f2 k2 l2
      have sb1 := Heap.SameBut.update s.heap a (Obj.putSet es1 t2)
      split
      · have pr := relayAll_perm t2 es1 (SetTable.grown es1.size)
        have fr := relayAll_fits t2 es1 (SetTable.grown es1.size)
        have tr := relayAll_ok (t := t2) es1 (SetTable.grown es1.size)
        generalize hR : relayAll t2 es1 (SetTable.grown es1.size) = R at pr fr tr ⊢
        obtain ⟨es2, t3, gave2⟩ := R
        dsimp only at pr fr tr ⊢
        have sz2 : es2.size = es1.size := by rw [← Array.length_toList, pr.length_eq, Array.length_toList]
        have hb2 : es2.size < scanBound := by rw [sz2]; exact hb1
        refine wpAny_bind (gw _ ?_)
        refine wpAny_bind (wpAny_storeSet_of g1 rfl ?_ (fits_of_scanBound hb2))
        have hv2 : ∃ ns, IntsAre (es2.toList.map (·.2)) ns ∧ ns.Perm (ks ++ [k]) := by
          obtain ⟨n1, i1, p1⟩ := hv1
          obtain ⟨n2, i2, p2⟩ := ints_perm (pr.map (·.2)) i1
          exact ⟨n2, i2, p2.trans p1⟩
        obtain ⟨_, S2⟩ := storeL (P := P) (w := w) g1 gx rfl (el1.perm pr) hv2 hb2 fr tr.1 (l2.imp id fun z => tr.2.trans z)
        exact wpAny_pure (wpAny_pure (h true _ (sb1.trans (Heap.SameBut.update _ a _)) S2))
      · exact wpAny_pure (wpAny_pure (h true _ sb1 S1))
    have l1 : byTx w = true ∨ t1.led = true := hl.imp id fun z => tm.2.trans z
    split
    · refine wpAny_bind ?_
      rw [hashByValue_scannable 8 (rfl : (Value.int k tk).scannable = true)]
      refine wpAny_pure ?_
      split
      · exact tail t1 fm tm.1 l1
      · exact tail { t1 with plain := false } (SetTable.fits_plain_off fm) tm.1 l1
    · refine wpAny_bind (wpAny_pure ?_)
      simp only [↓reduceIte]
      exact tail t1 fm tm.1 l1
end
end L2
set_option Elab.async false
set_option linter.all false
set_option maxRecDepth 100000
namespace L2
open PySem PySem.Spec PyProof.Rows
def firstL (f : Nat → Int) : Nat → List Int
  | 0 => []
  | i + 1 => if f i ∈ firstL f i then firstL f i else firstL f i ++ [f i]
theorem firstL_len (f : Nat → Int) : ∀ i, (firstL f i).length ≤ i
  | 0 => Nat.le_refl _
  | i + 1 => by
    have ih := firstL_len f i
    unfold firstL
    split
    · omega
    · rw [List.length_append]; show _ + 1 ≤ _; omega
theorem SetL.at {P : Program} {w : World} {h h' : Heap} {a : Addr} {ks : List Int} (x : SetL P w h a ks) (k : ∀ o, h.get? a = some o → h'.get? a = some o) : SetL P w h' a ks := by
  obtain ⟨o, es, ep, t, g, r⟩ := x
  exact ⟨o, es, ep, t, k o g, r⟩
section
variable {P : Program} {w : World} {A : Around} {R : Result → Shared → Prop} {I : Addr} {fp wr : List Addr} {G : Array GenState → Array GenState → Prop} {n : Nat} {Pv : Nat → Value → Prop} {St : Nat → Shared → Prop}
theorem loopL (W : WalksS P w A.in1 I fp wr G n Pv St) (d : Addr) (hd : d ∉ fp) (f : Nat → Int) (hf : ∀ i v, Pv i v → ∃ t, v = .int (f i) t) (hb : n + 1 < scanBound) : ∀ (k i : Nat) (s : Shared), n - i = k → i ≤ n → St i s → SetL P w s.heap d (firstL f i) →
      (∀ s', Moved (d :: wr) G s s' → SetL P w s'.heap d (firstL f n) → R (.ok (.ret .none)) s') → codeAny (model P w) A (.builtin "set.update.loop" ⟨[.ref d, .ref I], []⟩) R s := by
  have hw : d ∉ wr := fun z => hd (W.sub _ z)
  have up : ∀ b ∈ wr, b ∈ d :: wr := fun b z => List.mem_cons_of_mem _ z
  intro k
  induction k with
  | zero =>
    intro i s hk hi st hS hR
    have e : i = n := by omega
    subst e
    refine codeAny_builtin F.entry_set_update_loop ?_
    rw [Around.under_plainId F.plain_set_update_loop _]
    show wpAny _ A.in1 (pyNext (.ref I) >>= _) _ _ _
    refine wpAny_bind (W.done s _ _ st fun s' m => ?_)
    show wpAny _ A.in1 (ret Value.none) _ _ _
    exact wpAny_pure (hR s' (m.mono up) (hS.at fun o g => m.heap d o hw g))
  | succ k ih =>
    intro i s hk hi st hS hR
    have hlt : i < n := by omega
    refine codeAny_builtin F.entry_set_update_loop ?_
    rw [Around.under_plainId F.plain_set_update_loop _]
    show wpAny _ A.in1 (pyNext (.ref I) >>= _) _ _ _
    refine wpAny_bind (W.item i s _ _ hlt st fun v s' hP st' m => ?_)
    obtain ⟨t, rfl⟩ := hf i v hP
    have hS' : SetL P w s'.heap d (firstL f i) := hS.at fun o g => m.heap d o hw g
    show wpAny _ A.in1 (holding [Value.int (f i) t] (setAdd d (.int (f i) t)) >>= _) _ _ _
    refine wpAny_bind (wpAny_holding ?_)
    unfold setAdd
    refine wpAny_holding ?_
    refine wpAny_bind ((intKind P w).pyHash (k := f i) (intKind_is _ _ _ _) ?_)
    have room : (firstL f i).length + 1 < scanBound := by have := firstL_len f i; omega
    refine addL (s := { s' with toks := s'.toks + 1 }) hS' room fun b h' sb S2 => ?_
    have S3 : SetL P w h' d (firstL f (i + 1)) := S2
    refine wpAny_pure ⟨plainId_quiet F.plain_set_update_loop _, ?_⟩
    refine ih (i + 1) _ (by omega) hlt (W.frame _ s' _ _ st' (Nat.le_succ _) fun b hb o g => ?_) S3 fun s2 m2 S4 => ?_
    · rw [sb.2 b (fun z : b = d => hd (by rw [← z]; exact hb))]; exact g
    · refine hR s2 (Moved.trans W.gtrans ((m.mono up).then_heap (Nat.le_succ _) fun b o hb g => ?_) m2) S4
      rw [sb.2 b (fun z : b = d => hb (by rw [z]; exact List.mem_cons_self))]; exact g
end
section
variable {P : Program} {w : World} {A : Around} {E : Value → Shared → Prop} {s : Shared}
theorem newL (v : Value) {Q1 : Value → Shared → Prop} (h : Q1 (.ref s.heap.objs.size) { s with heap := s.heap.push { cls := .type "set", dict := none, data := .set #[] 0 (.fresh 0 0 (!byTx w)) } }) :
    codeAny (model P w) A (.call (.builtin "set.__new__") ⟨[.type "set", v], []⟩) (wants Q1 E) s := by
  refine codeAny_of_tree ?_
  show wpAny _ A.in1 (do checkBuiltinCall "set.__new__" ⟨[.type "set", v], []⟩; again (.builtin "set.__new__" ⟨[.type "set", v], []⟩)) _ _ s
  refine wpAny_bind (wpAny_of_eq (F.newCall_set_1 v) (wpAny_pure ⟨plainId_quiet F.plain_set_new _, ?_⟩))
  refine codeAny_builtin F.entry_set_new ?_
  rw [Around.under_plainId F.plain_set_new _]
  unfold Builtin.«set.__new__» Builtin.Frozenset.newClass
  have hsub := sub_set_self
  obtain ⟨hp, g, d, tk, os⟩ := s
  dsimp only
  wp_walk
  refine wpAny_askSetting ?_
  refine wpAny_pure ?_
  dsimp only
  simp only [newObj]
  refine wpAny_bind (wpAny_alloc ?_)
  exact wpAny_pure (wpAny_pure h)
theorem SetL.new {h : Heap} {a : Addr} (g : h.get? a = some { cls := .type "set", dict := none, data := .set #[] 0 (.fresh 0 0 (!byTx w)) }) : SetL P w h a [] := by
  refine ⟨_, #[], 0, _, g, ⟨rfl, rfl, rfl⟩, rfl, fun e he => by simp at he, ⟨[], .nil, List.Perm.refl _⟩, by decide, rfl, ⟨fun i j x y _ hx => by simp [SetTable.fresh] at hx, rfl⟩, ?_⟩
  cases byTx w
  · exact .inr rfl
  · exact .inl rfl
set_option maxHeartbeats 6400000 in
theorem call_setL {l : Addr} {its : Array Value} {ns : List Int} {Q : Value → Shared → Prop} (hh : A.handled = none) (hl : s.heap.IsList l its) (hi : IntsAre its.toList ns) (hb : its.size + 1 < scanBound)
    (k : ∀ (h' : Heap) (tk : Nat), SetL P w h' s.heap.objs.size (firstL (fun i => ns.getD i 0) its.size) → (∀ b o, b < s.heap.objs.size → s.heap.get? b = some o → h'.get? b = some o) → Q (.ref s.heap.objs.size) { s with heap := h', toks := tk }) :
    wpAny (model P w) A (call (.type "set") [.ref l]) Q E s := by
  obtain ⟨c0, tl0, c1⟩ := F.called_set.mro
  have c2 := F.called_set.made
  have c3 := F.called_set.sub
  refine wpAny_call (codeAny_of_tree ?_)
  show wpAny _ _ (callAny (.type "set") _) _ _ s
  refine wpAny_pure ⟨?_, ?_⟩
  · exact Code.quiet_builtin _ (by decide +kernel)
  refine codeAny_builtin F.entry_type_call ?_
  rw [Around.under_plain (weight_type_call_type "set" [.ref l] []) rfl]
  have c4 := F.called_set.notType
  have c5 := F.called_set.canCreate
  have c6 := F.typeCall_set_1 (.ref l)
  repeat (any_goals first | assumption | wp_step)
  refine codeAny_mono (newL (.ref l) (E := E) (Q1 := fun v s1 => v = .ref s.heap.objs.size ∧ s1 = { s with heap := s.heap.push { cls := .type "set", dict := none, data := .set #[] 0 (.fresh 0 0 (!byTx w)) } }) ⟨rfl, rfl⟩) fun r s1 hr => ?_
  cases r with
  | error e => exact hr
  | ok fl =>
    cases fl with
    | ret v =>
      obtain ⟨rfl, rfl⟩ := hr
      have g1 : (s.heap.push { cls := .type "set", dict := none, data := .set #[] 0 (.fresh 0 0 (!byTx w)) }).get? s.heap.objs.size = some { cls := .type "set", dict := none, data := .set #[] 0 (.fresh 0 0 (!byTx w)) } := Heap.get?_push_size _ rfl
      have c7 : Shared.TypeIs { s with heap := s.heap.push { cls := .type "set", dict := none, data := .set #[] 0 (.fresh 0 0 (!byTx w)) } } (.ref s.heap.objs.size) "set" := ⟨_, g1, rfl⟩
      have c8 := F.called_set.init.lookup
      have c9 := F.called_set.init.bind (.ref s.heap.objs.size)
      repeat (any_goals first | assumption | wp_step)
      refine codeAny_mono (codeAny_call_builtin (R := wants (fun r s2 => r = .none ∧ ∃ h' tk, s2 = { s with heap := h', toks := tk } ∧ SetL P w h' s.heap.objs.size (firstL (fun i => ns.getD i 0) its.size) ∧
          (∀ b o, b < s.heap.objs.size → s.heap.get? b = some o → h'.get? b = some o)) E) F.called_set.init.plain F.entry_set_init (check_set_init_1 c7 ?_)) fun r2 s2 hr2 => ?_
      · obtain ⟨ol, gl, cl, nl, dl⟩ := hl
        obtain ⟨qc, qd, qa, qs⟩ := ol
        simp only at cl dl
        subst cl
        subst dl
        have gl' : (s.heap.push { cls := .type "set", dict := none, data := .set #[] 0 (.fresh 0 0 (!byTx w)) }).get? l = some { cls := .type "list", dict := qd, data := .seq its nl, slots := qs } := Heap.get?_push_of_some _ gl
        have d1 := F.sub_list_set
        have d2 := F.sub_list_frozenset
        have d3 : (Value.type "list" == Value.type "dict") = false := by decide
        have hl1 : (s.heap.push { cls := .type "set", dict := none, data := .set #[] 0 (.fresh 0 0 (!byTx w)) }).IsList l its := ⟨_, gl', rfl, nl, rfl⟩
        unfold Builtin.«set.__init__» noKeywords Builtin.Frozenset.updateFrom
        generalize hPI : pyIter = PI
        wp_walk
        subst hPI
        refine wpAny_pyIter_list hl1 ?_
        refine wpAny_bind (wpAny_runValue ?_)
        have lt : l < s.heap.objs.size := Heap.lt_size gl
        have h3 : A.in1.in1.in1.handled = none := by simp [hh]
        have nI : l ≠ (s.heap.push { cls := .type "set", dict := none, data := .set #[] 0 (.fresh 0 0 (!byTx w)) }).objs.size := by
          rw [Heap.size_push]; exact Nat.ne_of_lt (Nat.lt_succ_of_lt lt)
        have nf : s.heap.objs.size ∉ [(s.heap.push { cls := .type "set", dict := none, data := .set #[] 0 (.fresh 0 0 (!byTx w)) }).objs.size, l] := by
          rw [Heap.size_push]; simp only [List.mem_cons, List.mem_singleton, List.not_mem_nil, or_false, not_or]
          exact ⟨Nat.ne_of_lt (Nat.lt_succ_self _), Nat.ne_of_gt lt⟩
        have hv : ∀ (i : Nat) (v : Value), its[i]? = some v → ∃ t, v = .int ((fun i => ns.getD i 0) i) t := fun i v z => PyProof.Rows.IntsAre.int_at hi i v (by rw [Array.getElem?_toList]; exact z)
        refine loopL ((Walks.list h3 _ l nI its).toS) s.heap.objs.size nf (fun i => ns.getD i 0) hv hb (its.size - 0) 0 _ (by omega) (Nat.zero_le _) ⟨⟨_, Heap.get?_push_size _ rfl, rfl, rfl⟩, (hl1.push _)⟩ ?S0 ?R0
        case S0 => exact SetL.new (Heap.get?_push_of_some _ g1)
        case R0 =>
          intro s' m S'
          obtain ⟨h', g', d', tk', os'⟩ := s'
          have eg : g' = s.gens := m.gens
          have ed : d' = s.drawn := m.drawn
          have eo : os' = s.os := m.os
          subst eg
          subst ed
          subst eo
          show wpAny _ _ _ _ _ _
          refine wpAny_pure ?_
          show wpAny _ _ (ret Value.none) _ _ _
          refine wpAny_pure ⟨rfl, h', tk', rfl, S', fun b o lb g => ?_⟩
          have b1 : b ≠ s.heap.objs.size := Nat.ne_of_lt lb
          have b2 : b ≠ (s.heap.push { cls := .type "set", dict := none, data := .set #[] 0 (.fresh 0 0 (!byTx w)) }).objs.size := by
            rw [Heap.size_push]; exact Nat.ne_of_lt (Nat.lt_succ_of_lt lb)
          exact m.heap b o (by simp only [List.mem_cons, List.mem_singleton, List.not_mem_nil, or_false, not_or]; exact ⟨b1, b2⟩) (Heap.get?_push_of_some _ (Heap.get?_push_of_some _ g))
      · cases r2 with
        | error e => exact hr2
        | ok fl2 =>
          cases fl2 with
          | ret r =>
            obtain ⟨rfl, h', tk, rfl, S', kp⟩ := hr2
            repeat (any_goals first | assumption | wp_step)
            exact k _ _ S' kp
          | _ => exact hr2.elim
    | _ => exact hr.elim
end
end L2
set_option Elab.async false
set_option linter.all false
set_option maxRecDepth 100000
namespace L2
open PySem PySem.Spec PyProof.Rows
theorem slot_setit_next : Slot "set_iterator" "__next__" "set_iterator.__next__" :=
  .of (owner := "set_iterator") (n := "__next__") (by rw [typeLookup_type, builtinLookup_eq_fast]; kernel_rfl) (by decide +kernel) (by decide +kernel) (by decide +kernel) (by first | exact .inl (by decide +kernel) | exact .inr (by decide +kernel)) (by rw [isSubtype_type]; kernel_rfl)
theorem entry_setit_next : entryFor table "set_iterator.__next__" = some Builtin.«set_iterator.__next__» := entryFor_of_tree (by kernel_rfl)
theorem args_setit_next (v : Value) : argsOk "set_iterator.__next__" ⟨[v], []⟩ := by unfold argsOk; kernel_rfl
theorem entry_set_iterF : entryFor table "set.__iter__" = some Builtin.«frozenset.__iter__» :=
  entryFor_alias (id' := "frozenset.__iter__") (by kernel_rfl) (by first | rfl | decide +kernel | (unfold String.splitOn; simp +decide [String.splitOnAux])) (by decide +kernel) (by kernel_rfl)
end L2
set_option Elab.async false
set_option linter.all false
set_option maxRecDepth 100000
namespace L2
open PySem PySem.Spec PyProof.Rows
theorem wpAny_chooseO {M : Model} {A : Around} {E : Value → Shared → Prop} {s : Shared} {n : Nat} {Q : Nat → Shared → Prop} (hn : n ≠ 0) (h : ∀ i d, i < n → Q i { s with drawn := d }) : wpAny M A (choose .order n) Q E s :=
  fun Γ p hΓ => ⟨hn, h _ _ (Nat.mod_lt _ (Nat.pos_of_ne_zero hn))⟩
theorem perm_erase {α : Type} : ∀ (xs : List α) (i : Nat) (x : α), xs[i]? = some x → (x :: xs.eraseIdx i).Perm xs
  | [], i, x, h => by simp at h
  | a :: xs, 0, x, h => by
    have e : a = x := by simpa using h
    subst e
    exact List.Perm.refl _
  | a :: xs, i + 1, x, h => by
    have ih := perm_erase xs i x (by simpa using h)
    show (x :: a :: xs.eraseIdx i).Perm (a :: xs)
    exact (List.Perm.swap a x _).trans (ih.cons a)
theorem drawOrder_ok {α : Type} {M : Model} {A : Around} {E : Value → Shared → Prop} : ∀ (n : Nat) (xs : List α) (s : Shared) (Q : List α → Shared → Prop), xs.length = n → (∀ ys d, ys.Perm xs → Q ys { s with drawn := d }) → wpAny M A (drawOrder n xs) Q E s
  | 0, xs, s, Q, hl, h => by
    unfold drawOrder
    have e : xs = [] := List.length_eq_zero_iff.mp hl
    subst e
    exact wpAny_pure (h [] s.drawn (List.Perm.refl _))
  | n + 1, [], s, Q, hl, h => by simp at hl
  | n + 1, x :: xs, s, Q, hl, h => by
    unfold drawOrder
    refine wpAny_bind (wpAny_chooseO (by simp) fun i d hi => ?_)
    have hg : (x :: xs)[i]? = some (x :: xs)[i] := List.getElem?_eq_getElem hi
    rw [hg]
    dsimp only
    refine wpAny_bind (drawOrder_ok n _ _ _ (by rw [List.length_eraseIdx]; simp only [if_pos hi]; omega) fun ys d' hp => ?_)
    exact wpAny_pure (h _ d' ((hp.cons _).trans (perm_erase _ i _ hg)))
theorem pick_go {α : Type} (f : Nat → Nat) : ∀ (n k : Nat) (xs : List α) (out : Array α), xs.length = n → ∃ ys : List α, ys.Perm xs ∧ (pickOrder.go f n k xs out).toList = out.toList ++ ys
  | 0, k, xs, out, hl => ⟨[], by rw [List.length_eq_zero_iff.mp hl], by unfold pickOrder.go; simp⟩
  | n + 1, k, xs, out, hl => by
    have hlt : f k % xs.length < xs.length := Nat.mod_lt _ (by omega)
    have hg : xs[f k % xs.length]? = some xs[f k % xs.length] := List.getElem?_eq_getElem hlt
    unfold pickOrder.go
    rw [hg]
    dsimp only
    obtain ⟨ys, hp, e⟩ := pick_go f n (k + 1) (xs.eraseIdx (f k % xs.length)) (out.push xs[f k % xs.length]) (by rw [List.length_eraseIdx, if_pos hlt]; omega)
    refine ⟨xs[f k % xs.length] :: ys, (hp.cons _).trans (perm_erase _ _ _ hg), ?_⟩
    rw [e]
    simp
theorem pickOrder_perm {α : Type} (f : Nat → Nat) (xs : Array α) : (pickOrder f xs).toList.Perm xs.toList := by
  obtain ⟨ys, hp, e⟩ := pick_go f xs.size 0 xs.toList #[] (by simp)
  unfold pickOrder
  rw [e]
  simpa using hp
section
variable {P : Program} {w : World} {A : Around} {E : Value → Shared → Prop} {s : Shared} {a : Addr} {o : Obj} {es : Array (Int × Value)} {ep : Nat} {t : SetTable}
theorem next_text {Q : Option (Value × Nat) → Shared → Prop} {slot i : Nat} (hb : byTx w = true) (g : s.heap.get? a = some o) (gd : o.data = .set es ep t) (hf : t.fits es.size = true)
    (h : Q (((pickOrder (w.params.setOrder a ep) es).toList.map (·.2))[i]?.map fun v => (v, slot)) s) : wpAny (model P w) A (setNext a slot i ep) Q E s := by
  unfold setNext
  refine wpAny_bind (wpAny_setState_of g gd hf ?_)
  dsimp only
  unfold setsByText
  refine wpAny_bind (wpAny_bind (wpAny_askSetting (wpAny_pure ?_)))
  have hb' : w.params.followText "set-order" = true := hb
  show wpAny _ _ (if w.params.followText "set-order" = true then _ else _) _ _ _
  rw [if_pos hb', if_neg (by simp)]
  unfold setWalk
  refine wpAny_bind (wpAny_bind (wpAny_setState_of g gd hf ?_))
  dsimp only
  unfold setsByText
  refine wpAny_bind (wpAny_bind (wpAny_askSetting (wpAny_pure ?_)))
  show wpAny _ _ (if w.params.followText "set-order" = true then _ else _) _ _ _
  rw [if_pos hb']
  refine wpAny_bind (wpAny_askSetting (wpAny_pure ?_))
  refine wpAny_pure ?_
  rw [List.getElem?_map, Array.getElem?_toList, Option.map_map] at h
  exact h
theorem next_led {Q : Option (Value × Nat) → Shared → Prop} {slot i : Nat} (hb : byTx w = false) (g : s.heap.get? a = some o) (gd : o.data = .set es ep t) (hf : t.fits es.size = true) (hl : t.led = true) (hp : t.plain = true ∨ es.size ≤ 1)
    (h : Q (match es[SetTable.below t.place slot]?, t.place[SetTable.below t.place slot]? with | some (_, x), some j => some (x, j + 1) | _, _ => none) s) : wpAny (model P w) A (setNext a slot i ep) Q E s := by
  unfold setNext
  refine wpAny_bind (wpAny_setState_of g gd hf ?_)
  dsimp only
  unfold setsByText
  refine wpAny_bind (wpAny_bind (wpAny_askSetting (wpAny_pure ?_)))
  have hb' : w.params.followText "set-order" = false := hb
  show wpAny _ _ (if w.params.followText "set-order" = true then _ else _) _ _ _
  rw [if_neg (by rw [hb']; exact Bool.false_ne_true)]
  refine wpAny_ite_split (fun hd => ?_) fun _ => ?_
  · exfalso
    have hd' : (!t.plain && decide (es.size > 1)) = true := hd
    rw [Bool.and_eq_true, decide_eq_true_eq] at hd'
    rcases hp with hp | hp
    · rw [hp] at hd'; exact absurd hd'.1 (by decide)
    · omega
  · refine wpAny_bind ?_
    refine wpAny_ite_split (fun hd => ?_) fun _ => ?_
    · exfalso
      have hd' : (!t.led && !es.isEmpty) = true := hd
      rw [hl] at hd'
      exact absurd hd' (by simp)
    · exact wpAny_pure (wpAny_pure h)
end
end L2
set_option Elab.async false
set_option linter.all false
set_option maxRecDepth 100000
namespace L2
open PySem PySem.Spec PyProof.Rows
theorem slot_setit_iter : Slot "set_iterator" "__iter__" "set_iterator.__iter__" :=
  .of (owner := "set_iterator") (n := "__iter__") (by rw [typeLookup_type, builtinLookup_eq_fast]; kernel_rfl) (by decide +kernel) (by decide +kernel) (by decide +kernel) (by first | exact .inl (by decide +kernel) | exact .inr (by decide +kernel)) (by rw [isSubtype_type]; kernel_rfl)
theorem entry_setit_iter : entryFor table "set_iterator.__iter__" = some Builtin.«dict_keyiterator.__iter__» :=
  entryFor_alias (id' := "dict_keyiterator.__iter__") (by kernel_rfl) (by first | rfl | decide +kernel | (unfold String.splitOn; simp +decide [String.splitOnAux])) (by decide +kernel) (by kernel_rfl)
theorem args_setit_iter (v : Value) : argsOk "set_iterator.__iter__" ⟨[v], []⟩ := by unfold argsOk; kernel_rfl
def SI (h : Heap) (I : Addr) (f : Value) (i : Nat) (a : Addr) (n ep : Nat) : Prop := h.get? I = some { cls := .type "set_iterator", dict := none, data := .fields #[f, rawInt i, .ref a, rawInt n, rawInt ep], slots := #[] }
section
variable {P : Program} {w : World} {A : Around} {E : Value → Shared → Prop} {s : Shared}
theorem iter_self {I : Addr} {Q : Value → Shared → Prop} (hT : s.TypeIs (.ref I) "set_iterator") (h : Q (.ref I) s) : wpAny (model P w) A (pyIter (.ref I)) Q E s := by
  refine wpAny_pyIter_slot hT slot_setit_iter (wpAny_call_entry slot_setit_iter hT entry_setit_iter ?_ (args_setit_iter _))
  show wpAny _ _ (ret (.ref I)) _ _ s
  exact wpAny_pure ⟨_, rfl, "set_iterator", _, hT, slot_setit_next.lookup, h⟩
/-- what a walk is told at its end -/
theorem stop_raise {Q : Fin → Shared → Prop} (hh : A.handled = none) (h : ∀ h' e, (∀ b o, s.heap.get? b = some o → h'.get? b = some o) → (∃ o, h'.get? e = some o ∧ o.cls = .type "StopIteration") → E (.ref e) { s with heap := h' }) :
    wpAny (model P w) A (newExc (.type "StopIteration") [] >>= fun e => (raiseNew e : Sem Fin)) Q E s := by
  refine wpAny_bind ?_
  simp only [newExc, newTuple]
  refine wpAny_bind (wpAny_newObj_type ?_ (by size_fits))
  refine wpAny_bind (m := firstArgMember _ _) ?_
  refine wpAny_of_eq (a := Value.none) (by first | rfl | (simp only [firstArgMember]; rfl)) ?_
  refine wpAny_newObj_type ?_ (by size_fits)
  simp only [raiseNew]
  refine wpAny_bind (wpAny_handled ?_)
  rw [hh]
  refine wpAny_bind (wpAny_pure (wpAny_throw ?_))
  exact h _ _ (fun b o g => Heap.get?_push_of_some _ (Heap.get?_push_of_some _ g)) ⟨_, Heap.get?_push_size _ rfl, rfl⟩
theorem moved_of {h' : Heap} {I : Addr} (k : ∀ b o, b ≠ I → s.heap.get? b = some o → h'.get? b = some o) : Moved [I] (fun x y => y = x) s { s with heap := h' } :=
  ⟨fun b o hb g => k b o (fun z => hb (by rw [z]; exact List.mem_singleton.mpr rfl)) g, rfl, rfl, rfl, Nat.le_refl _⟩
theorem walkInt (hh : A.handled = none) {I a : Addr} {o : Obj} {es : Array (Int × Value)} {ep : Nat} {t : SetTable} (nI : a ≠ I) (gd : o.data = .set es ep t) (hf : t.fits es.size = true) (F : Nat → Nat) (vs : List Value) (hvs : vs.length = es.size)
    (hn : ∀ (B : Around) (D : Value → Shared → Prop) (s : Shared) (i : Nat) (Q : Option (Value × Nat) → Shared → Prop), s.heap.get? a = some o → i ≤ es.size → Q (vs[i]?.map fun v => (v, F (i + 1))) s → wpAny (model P w) B (setNext a (F i) i ep) Q D s) :
    WalksS P w A I [I, a] [I] (fun x y => y = x) es.size (fun i v => vs[i]? = some v) (fun i s => SI s.heap I (rawInt (F i)) i a es.size ep ∧ s.heap.get? a = some o) where
  sub := fun b hb => by rw [List.mem_singleton] at hb; rw [hb]; exact List.mem_cons_self ..
  grefl := fun _ => rfl
  gtrans := fun _ _ _ h1 h2 => h2.trans h1
  frame := fun i s h' tk st _ k => ⟨k I (by simp) _ st.1, k a (by simp) _ st.2⟩
  item := fun i s Q E hi st hQ => by
    obtain ⟨gI, ga⟩ := st
    have hT : s.TypeIs (.ref I) "set_iterator" := ⟨_, gI, rfl⟩
    have hv : vs[i]? = some vs[i] := List.getElem?_eq_getElem (by omega)
    unfold pyNext
    refine wpAny_bind (wpAny_attempt (wpAny_callSpecial?_slot (name := Str.ofString "__next__") hT slot_setit_next (wpAny_call_entry slot_setit_next hT entry_setit_next ?_ (args_setit_next _))))
    show wpAny _ _ (fieldsOf (.ref I) >>= _) _ _ s
    refine wpAny_bind (wpAny_fieldsOf gI rfl ?_)
    show wpAny _ _ (setEntries a >>= _) _ _ s
    refine wpAny_bind (wpAny_setEntries_of ga gd hf ?_)
    rw [if_neg (by simp)]
    show wpAny _ _ (setNext a (F i) i ep >>= _) _ _ s
    refine wpAny_bind (hn _ _ s i _ ga (by omega) ?_)
    rw [hv]
    show wpAny _ _ (setField (.ref I) 0 (rawInt (F (i + 1))) >>= _) _ _ s
    refine wpAny_bind (wpAny_setField_rec gI (by simp) fun m1 g1 e1 => ?_)
    refine wpAny_bind (wpAny_setField_rec g1 (by simp) fun m2 g2 e2 => ?_)
    refine wpAny_pure ⟨_, rfl, wpAny_pure (hQ _ _ hv ⟨?_, ?_⟩ (moved_of fun b ob hb g => (e2.extBut _ _ hb (e1.extBut _ _ hb g))))⟩
    · exact g2
    · exact e2.extBut _ _ nI (e1.extBut _ _ nI ga)
  done := fun s Q E st hQ => by
    obtain ⟨gI, ga⟩ := st
    have hT : s.TypeIs (.ref I) "set_iterator" := ⟨_, gI, rfl⟩
    have hv : vs[es.size]? = none := List.getElem?_eq_none (by omega)
    unfold pyNext
    refine wpAny_bind (wpAny_attempt (wpAny_callSpecial?_slot (name := Str.ofString "__next__") hT slot_setit_next (wpAny_call_entry slot_setit_next hT entry_setit_next ?_ (args_setit_next _))))
    show wpAny _ _ (fieldsOf (.ref I) >>= _) _ _ s
    refine wpAny_bind (wpAny_fieldsOf gI rfl ?_)
    show wpAny _ _ (setEntries a >>= _) _ _ s
    refine wpAny_bind (wpAny_setEntries_of ga gd hf ?_)
    rw [if_neg (by simp)]
    show wpAny _ _ (setNext a (F es.size) es.size ep >>= _) _ _ s
    refine wpAny_bind (hn _ _ s es.size _ ga (Nat.le_refl _) ?_)
    rw [hv]
    show wpAny _ _ (setField (.ref I) 2 Value.none >>= _) _ _ s
    refine wpAny_bind (wpAny_setField_rec gI (by simp) fun m1 g1 e1 => ?_)
    refine stop_raise (by first | exact hh | simpa using hh) fun m2 e kp he => ?_
    obtain ⟨ob, go, gc⟩ := he
    refine wpAny_bind (wpAny_isInstance (T := "StopIteration") (b := true) ⟨ob, go, gc⟩ isSubtype_stop ?_)
    exact wpAny_pure (hQ _ (moved_of fun b ob hb g => kp b ob (e1.extBut _ _ hb g)))
  self := fun i s Q E st hQ => by
    obtain ⟨gI, ga⟩ := st
    exact iter_self ⟨_, gI, rfl⟩ hQ
theorem walkDrawn (hh : A.handled = none) {I a T : Addr} {o : Obj} {es : Array (Int × Value)} {ep : Nat} {t : SetTable} (nI : a ≠ I) (nT : T ≠ I) (gd : o.data = .set es ep t) (hf : t.fits es.size = true) (ps : List Nat) (hps : ps.length = es.size) (hlt : ∀ p ∈ ps, p < es.size) (vs : List Value) (hvs : vs = ps.map fun p => (es.getD p (0, .none)).2) :
    WalksS P w A I [I, a, T] [I] (fun x y => y = x) es.size (fun i v => vs[i]? = some v) (fun i s => SI s.heap I (.ref T) i a es.size ep ∧ s.heap.get? a = some o ∧ s.heap.get? T = some { cls := .type "tuple", data := .seq (ps.map fun (p : Nat) => rawInt p).toArray }) where
  sub := fun b hb => by rw [List.mem_singleton] at hb; rw [hb]; exact List.mem_cons_self ..
  grefl := fun _ => rfl
  gtrans := fun _ _ _ h1 h2 => h2.trans h1
  frame := fun i s h' tk st _ k => ⟨k I (by simp) _ st.1, k a (by simp) _ st.2.1, k T (by simp) _ st.2.2⟩
  item := fun i s Q E hi st hQ => by
    obtain ⟨gI, ga, gT⟩ := st
    have hT : s.TypeIs (.ref I) "set_iterator" := ⟨_, gI, rfl⟩
    have hp : ps[i]? = some ps[i] := List.getElem?_eq_getElem (by omega)
    have hpl : ps[i] < es.size := hlt _ (List.getElem_mem _)
    have he : es[ps[i]]? = some es[ps[i]] := Array.getElem?_eq_getElem hpl
    have hv : vs[i]? = some (es[ps[i]]).2 := by
      rw [hvs, List.getElem?_map, hp, Option.map_some, Array.getD_eq_getD_getElem?, he]
      rfl
    have hpi : (ps.map fun (p : Nat) => rawInt p).toArray[i]? = some (rawInt ps[i]) := by
      rw [List.getElem?_toArray, List.getElem?_map, hp]; rfl
    unfold pyNext
    refine wpAny_bind (wpAny_attempt (wpAny_callSpecial?_slot (name := Str.ofString "__next__") hT slot_setit_next (wpAny_call_entry slot_setit_next hT entry_setit_next ?_ (args_setit_next _))))
    show wpAny _ _ (fieldsOf (.ref I) >>= _) _ _ s
    refine wpAny_bind (wpAny_fieldsOf gI rfl ?_)
    show wpAny _ _ (setEntries a >>= _) _ _ s
    refine wpAny_bind (wpAny_setEntries_of ga gd hf ?_)
    rw [if_neg (by simp)]
    show wpAny _ _ (seqItems? (.ref T) >>= _) _ _ s
    refine wpAny_bind (wpAny_seqItems gT rfl ?_)
    dsimp only
    rw [show ((i : Int)).toNat = i from rfl, hpi]
    show wpAny _ _ (setNextDrawn a ps[i] ep >>= _) _ _ s
    unfold setNextDrawn
    refine wpAny_bind (wpAny_bind (wpAny_setState_of ga gd hf ?_))
    dsimp only
    rw [if_neg (by simp), he]
    refine wpAny_pure ?_
    show wpAny _ _ (setField (.ref I) 1 (rawInt (i + 1)) >>= _) _ _ s
    refine wpAny_bind (wpAny_setField_rec gI (by simp) fun m1 g1 e1 => ?_)
    refine wpAny_pure ⟨_, rfl, wpAny_pure (hQ _ _ hv ⟨?_, ?_, ?_⟩ (moved_of fun b ob hb g => e1.extBut _ _ hb g))⟩
    · exact g1
    · exact e1.extBut _ _ nI ga
    · exact e1.extBut _ _ nT gT
  done := fun s Q E st hQ => by
    obtain ⟨gI, ga, gT⟩ := st
    have hT : s.TypeIs (.ref I) "set_iterator" := ⟨_, gI, rfl⟩
    have hpi : (ps.map fun (p : Nat) => rawInt p).toArray[es.size]? = none := by
      rw [List.getElem?_toArray]; exact List.getElem?_eq_none (by rw [List.length_map]; omega)
    unfold pyNext
    refine wpAny_bind (wpAny_attempt (wpAny_callSpecial?_slot (name := Str.ofString "__next__") hT slot_setit_next (wpAny_call_entry slot_setit_next hT entry_setit_next ?_ (args_setit_next _))))
    show wpAny _ _ (fieldsOf (.ref I) >>= _) _ _ s
    refine wpAny_bind (wpAny_fieldsOf gI rfl ?_)
    show wpAny _ _ (setEntries a >>= _) _ _ s
    refine wpAny_bind (wpAny_setEntries_of ga gd hf ?_)
    rw [if_neg (by simp)]
    show wpAny _ _ (seqItems? (.ref T) >>= _) _ _ s
    refine wpAny_bind (wpAny_seqItems gT rfl ?_)
    dsimp only
    rw [show ((es.size : Int)).toNat = es.size from rfl, hpi]
    show wpAny _ _ (setField (.ref I) 0 (rawInt 0) >>= _) _ _ s
    refine wpAny_bind (wpAny_setField_rec gI (by simp) fun m0 g0 e0 => ?_)
    refine wpAny_bind (wpAny_setField_rec g0 (by simp) fun m1 g1 e1 => ?_)
    refine stop_raise (by first | exact hh | simpa using hh) fun m2 e kp he => ?_
    obtain ⟨ob, go, gc⟩ := he
    refine wpAny_bind (wpAny_isInstance (T := "StopIteration") (b := true) ⟨ob, go, gc⟩ isSubtype_stop ?_)
    exact wpAny_pure (hQ _ (moved_of fun b ob hb g => kp b ob (e1.extBut _ _ hb (e0.extBut _ _ hb g))))
  self := fun i s Q E st hQ => by
    obtain ⟨gI, ga, gT⟩ := st
    exact iter_self ⟨_, gI, rfl⟩ hQ
end
end L2
set_option Elab.async false
set_option linter.all false
set_option maxRecDepth 100000
namespace L2
open PySem PySem.Spec PyProof.Rows
theorem fits_size {t : SetTable} {n : Nat} (h : t.fits n = true) : t.place.size = n := by
  unfold SetTable.fits at h
  rw [Bool.and_eq_true, beq_iff_eq] at h
  exact h.1
def slotAt (t : SetTable) (i : Nat) : Nat := if i = 0 then 0 else t.place.getD (i - 1) 0 + 1
theorem slotAt_below {t : SetTable} (hs : Srt t.place) {i : Nat} (hi : i ≤ t.place.size) : SetTable.below t.place (slotAt t i) = i := by
  by_cases h0 : i = 0
  · subst h0
    exact below_at hs (Nat.zero_le _) (fun k x hk => absurd hk (Nat.not_lt_zero _)) fun k x _ _ => Nat.zero_le _
  · have hlt : i - 1 < t.place.size := by omega
    have hg : t.place[i - 1]? = some (t.place.getD (i - 1) 0) := by
      rw [Array.getD_eq_getD_getElem?, Array.getElem?_eq_getElem hlt]; rfl
    have e : slotAt t i = t.place.getD (i - 1) 0 + 1 := by unfold slotAt; rw [if_neg h0]
    rw [e]
    refine below_at hs hi (fun k x hk hx => ?_) fun k x hk hx => ?_
    · by_cases hk2 : k = i - 1
      · subst hk2; rw [hg] at hx; cases hx; omega
      · have := hs k (i - 1) x _ (by omega) hx hg; omega
    · have := hs (i - 1) k _ x (by omega) hg hx; omega
section
variable {P : Program} {w : World} {A : Around} {E : Value → Shared → Prop} {s : Shared} {a : Addr} {ks : List Int}
def WalkOf (P : Program) (w : World) (s : Shared) (a : Addr) (ks : List Int) (I : Addr) (h' : Heap) (d : Drawn) : Prop :=
  ∃ (n : Nat) (fp : List Addr) (vs : List Value) (ns : List Int) (St : Nat → Shared → Prop), n = ks.length ∧ (∀ B : Around, B.handled = none → WalksS P w B I fp [I] (fun x y => y = x) n (fun i v => vs[i]? = some v) St) ∧ St 0 { s with heap := h', drawn := d } ∧
    s.heap.objs.size ≤ I ∧ (∀ b ∈ fp, b = a ∨ s.heap.objs.size ≤ b) ∧ (∀ b o, s.heap.get? b = some o → h'.get? b = some o) ∧ IntsAre vs ns ∧ ns.Perm ks
theorem iterL {Q : Value → Shared → Prop} (hS : SetL P w s.heap a ks) (k : ∀ I h' d, WalkOf P w s a ks I h' d → Q (.ref I) { s with heap := h', drawn := d }) : wpAny (model P w) A (pyIter (.ref a)) Q E s := by
  obtain ⟨o, es, ep, t, g, gx, gd, el, ⟨ns, hi, hp⟩, hb, hf, ht, hl⟩ := hS
  have hT : s.TypeIs (.ref a) "set" := ⟨o, g, gx.1⟩
  have hlen : es.size = ks.length := by
    have h1 := IntsAre.length hi
    rw [List.length_map, Array.length_toList] at h1
    rw [h1, hp.length_eq]
  have hpl : t.place.size = es.size := fits_size hf
  have ha : a < s.heap.objs.size := Heap.lt_size g
  refine wpAny_pyIter_slot hT F.slot_set_iter (wpAny_call_entry F.slot_set_iter hT entry_set_iterF ?_ (F.args_set_iter_1 _))
  show wpAny _ _ (Builtin.Frozenset.sizeOf a >>= _) _ _ s
  refine wpAny_bind ?_
  unfold Builtin.Frozenset.sizeOf
  refine wpAny_bind (wpAny_setEntries_of g gd hf ?_)
  refine wpAny_pure ?_
  refine wpAny_bind ?_
  refine wpAny_bind ?_
  refine wpAny_setState_of g gd hf ?_
  dsimp only
  unfold setsByText
  refine wpAny_bind (wpAny_bind (wpAny_askSetting (wpAny_pure ?_)))
  refine wpAny_pure ?_
  dsimp only
  refine wpAny_ite_split (fun hd => ?_) fun hd => ?_
  · refine wpAny_bind (drawOrder_ok es.size (List.range es.size) s _ (by simp) fun ps d pp => ?_)
    have hpsl : ps.length = es.size := by rw [pp.length_eq, List.length_range]
    refine wpAny_bind (wpAny_newTuple ?_ (by rw [List.length_map, hpsl]; exact fits_of_scanBound hb))
    have gT : (s.heap.push { cls := .type "tuple", data := .seq (ps.map fun (p : Nat) => rawInt p).toArray }).get? s.heap.objs.size = some { cls := .type "tuple", data := .seq (ps.map fun (p : Nat) => rawInt p).toArray } := Heap.get?_push_size _ rfl
    have ga : (s.heap.push { cls := .type "tuple", data := .seq (ps.map fun (p : Nat) => rawInt p).toArray }).get? a = some o := Heap.get?_push_of_some _ g
    refine wpAny_bind (wpAny_setEpoch_of (s := { s with heap := s.heap.push { cls := .type "tuple", data := .seq (ps.map fun (p : Nat) => rawInt p).toArray }, drawn := d }) ga gd hf ?_)
    refine wpAny_bind (wpAny_newObj_type ?_ (by size_fits))
    have z1 : (s.heap.push { cls := .type "tuple", data := .seq (ps.map fun (p : Nat) => rawInt p).toArray }).objs.size = s.heap.objs.size + 1 := Heap.size_push ..
    have hvp : (ps.map fun p => (es.getD p (0, .none)).2).Perm (es.toList.map (·.2)) := by
      refine (pp.map _).trans (List.Perm.of_eq ?_)
      refine List.ext_getElem (by simp) fun i h1 h2 => ?_
      have hi : i < es.size := by simpa using h2
      rw [List.getElem_map, List.getElem_map, List.getElem_range, Array.getElem_toList]
      show (es.getD i (0, .none)).2 = (es[i]).2
      rw [Array.getD_eq_getD_getElem?, Array.getElem?_eq_getElem hi]
      rfl
    obtain ⟨n2, i2, p2⟩ := ints_perm hvp hi
    have nI : a ≠ (s.heap.push { cls := .type "tuple", data := .seq (ps.map fun (p : Nat) => rawInt p).toArray }).objs.size := by rw [z1]; exact neN (.inl (Nat.lt_succ_of_lt ha))
    have nT : s.heap.objs.size ≠ (s.heap.push { cls := .type "tuple", data := .seq (ps.map fun (p : Nat) => rawInt p).toArray }).objs.size := by rw [z1]; exact neN (.inl (Nat.lt_succ_self _))
    refine wpAny_pure ⟨_, rfl, "set_iterator", _, ⟨_, Heap.get?_push_size _ rfl, rfl⟩, slot_setit_next.lookup, k _ _ d ?_⟩
    refine ⟨es.size, _, _, n2, _, hlen, fun B hB => walkDrawn hB nI nT gd hf ps hpsl (fun p hp => List.mem_range.mp (pp.mem_iff.mp hp)) _ rfl, ⟨Heap.get?_push_size _ rfl, Heap.get?_push_of_some _ ga, Heap.get?_push_of_some _ gT⟩, by rw [z1]; exact Nat.le_succ _, fun b hb => ?_, fun b ob gb => Heap.get?_push_of_some _ (Heap.get?_push_of_some _ gb), i2, p2.trans hp⟩
    have hb' : b = (s.heap.push { cls := .type "tuple", data := .seq (ps.map fun (p : Nat) => rawInt p).toArray }).objs.size ∨ b = a ∨ b = s.heap.objs.size := by simpa using hb
    rcases hb' with rfl | rfl | rfl
    · exact .inr (by rw [z1]; exact Nat.le_succ _)
    · exact .inl rfl
    · exact .inr (Nat.le_refl _)
  · refine wpAny_bind (wpAny_pure ?_)
    refine wpAny_bind (wpAny_setEpoch_of g gd hf ?_)
    refine wpAny_bind (wpAny_newObj_type ?_ (by size_fits))
    have nI : a ≠ s.heap.objs.size := neN (.inl ha)
    have es0 : s = { s with drawn := s.drawn } := by cases s; rfl
    have fpk : ∀ b ∈ [s.heap.objs.size, a], b = a ∨ s.heap.objs.size ≤ b := fun b hb => by
      have hb' : b = s.heap.objs.size ∨ b = a := by simpa using hb
      rcases hb' with rfl | rfl
      · exact .inr (Nat.le_refl _)
      · exact .inl rfl
    refine wpAny_pure ⟨_, rfl, "set_iterator", _, ⟨_, Heap.get?_push_size _ rfl, rfl⟩, slot_setit_next.lookup, ?_⟩
    have key : WalkOf P w s a ks s.heap.objs.size (s.heap.push { cls := .type "set_iterator", data := .fields #[rawInt 0, rawInt 0, .ref a, rawInt es.size, rawInt ep] }) s.drawn := by
      by_cases hbt : byTx w = true
      · have hvp : ((pickOrder (w.params.setOrder a ep) es).toList.map (·.2)).Perm (es.toList.map (·.2)) := (pickOrder_perm _ es).map _
        obtain ⟨n2, i2, p2⟩ := ints_perm hvp hi
        refine ⟨es.size, _, (pickOrder (w.params.setOrder a ep) es).toList.map (·.2), n2, _, hlen, fun B hB => walkInt hB nI gd hf (fun _ => 0) _ (by rw [hvp.length_eq, List.length_map, Array.length_toList]) fun C D s i Q g1 hi1 q => next_text hbt g1 gd hf q, ⟨Heap.get?_push_size _ rfl, Heap.get?_push_of_some _ g⟩, Nat.le_refl _, fpk, fun b ob gb => Heap.get?_push_of_some _ gb, i2, p2.trans hp⟩
      · have hbf : byTx w = false := eq_false_of_ne_true hbt
        have hled : t.led = true := hl.resolve_left hbt
        have hpz : t.plain = true ∨ es.size ≤ 1 := by
          have hd' : ¬ ((!byTx w && (!t.plain && decide (es.size > 1))) = true) := hd
          rw [hbf] at hd'
          cases hq : t.plain with
          | true => exact .inl rfl
          | false =>
            right
            rw [hq] at hd'
            simpa using hd'
        refine ⟨es.size, _, es.toList.map (·.2), ns, _, hlen, fun B hB => walkInt hB nI gd hf (slotAt t) _ (by rw [List.length_map, Array.length_toList]) fun C D s i Q g1 hi1 q => next_led hbf g1 gd hf hled hpz ?_, ⟨Heap.get?_push_size _ rfl, Heap.get?_push_of_some _ g⟩, Nat.le_refl _, fpk, fun b ob gb => Heap.get?_push_of_some _ gb, hi, hp⟩
        rw [slotAt_below ht.1 (by omega)]
        by_cases hlt : i < es.size
        · have e1 : es[i]? = some es[i] := Array.getElem?_eq_getElem hlt
          have e2 : t.place[i]? = some (t.place.getD i 0) := by
            rw [Array.getD_eq_getD_getElem?, Array.getElem?_eq_getElem (by omega)]; rfl
          rw [List.getElem?_map, Array.getElem?_toList, e1] at q
          rw [e1, e2]
          exact q
        · have e1 : es[i]? = none := Array.getElem?_eq_none (by omega)
          rw [List.getElem?_map, Array.getElem?_toList, e1] at q
          rw [e1]
          exact q
    have z := k _ _ _ key
    exact z
end
end L2
set_option Elab.async false
set_option linter.all false
set_option maxRecDepth 100000
namespace L2
open PySem PySem.Spec PyProof.Rows
theorem len_set : typeLookup (.type "set") "__len__" = pure (some (.builtin "set.__len__")) := by rw [typeLookup_type, builtinLookup_eq_fast]; kernel_rfl
section
variable {P : Program} {w : World} {A : Around} {E : Value → Shared → Prop} {s : Shared} {a : Addr} {ks : List Int}
theorem collectL {Q : List Value → Shared → Prop} (hh : A.handled = none) (hS : SetL P w s.heap a ks) (hz : ks.length ≤ 4000)
    (k : ∀ vs ns h' d tk, IntsAre vs ns → ns.Perm ks → s.heap.objs.size < h'.objs.size → (∀ b o, s.heap.get? b = some o → h'.get? b = some o) → Q vs { s with heap := h', drawn := d, toks := tk }) : wpAny (model P w) A (collect (.ref a)) Q E s := by
  have hT : s.TypeIs (.ref a) "set" := by
    obtain ⟨o, es, ep, t, g, gx, _⟩ := hS
    exact ⟨o, g, gx.1⟩
  have ha : a < s.heap.objs.size := by
    obtain ⟨o, es, ep, t, g, gx, _⟩ := hS
    exact Heap.lt_size g
  unfold collect
  refine wpAny_bind (wpAny_runValue (codeAny_builtin F.entry_proto_collect ?_))
  rw [Around.under_plainId F.plain_proto_collect _]
  show wpAny _ A.in1 (newList [] >>= fun l => again (.builtin "list.__iadd__" ⟨[l, .ref a], []⟩)) _ _ s
  refine wpAny_bind (wpAny_newObj_type ?_)
  refine wpAny_pure ⟨plainId_quiet F.plain_list_iadd _, ?_⟩
  refine codeAny_builtin F.entry_list_iadd ?_
  rw [Around.under_plainId F.plain_list_iadd _]
  show wpAny _ A.in1 (Builtin.List.listExtendWith (.ref s.heap.objs.size) (.ref a) (.ref s.heap.objs.size)) _ _ _
  generalize hH : s.heap.push { cls := .type "list", data := .seq ([] : List Value).toArray } = H1
  have g0 : H1.get? s.heap.objs.size = some { cls := .type "list", data := .seq ([] : List Value).toArray } := by rw [← hH]; exact Heap.get?_push_size _ rfl
  have z1 : H1.objs.size = s.heap.objs.size + 1 := by rw [← hH]; exact Heap.size_push ..
  have kp1 : ∀ b o, s.heap.get? b = some o → H1.get? b = some o := fun b o g => by rw [← hH]; exact Heap.get?_push_of_some _ g
  have hS1 : SetL P w H1 a ks := hS.at fun o g => kp1 a o g
  have hT1 : Shared.TypeIs { s with heap := H1 } (.ref a) "set" := by
    obtain ⟨o, es, ep, t, g, gx, _⟩ := hS1
    exact ⟨o, g, gx.1⟩
  unfold Builtin.List.listExtendWith
  refine wpAny_bind (wpAny_typeOf hT1 ?_)
  have n1 : Builtin.List.listSameRef (.ref s.heap.objs.size) (.ref a) = false := by
    have : s.heap.objs.size ≠ a := neN (.inr ha)
    simp [Builtin.List.listSameRef, this]
  rw [if_neg (by rw [n1]; decide)]
  refine wpAny_bind (iterL (s := { s with heap := H1 }) hS1 fun I h' d W => ?_)
  refine wpAny_bind (wpAny_holding ?_)
  have hT2 : Shared.TypeIs { s with heap := h', drawn := d } (.ref a) "set" := by
    obtain ⟨n, fp, vs, ns, St, e, W1, st, lI, fpk, kp, i2, p2⟩ := W
    obtain ⟨o, g, c⟩ := hT1
    exact ⟨o, kp _ _ g, c⟩
  unfold Builtin.List.listLengthHint
  refine wpAny_bind (wpAny_specialOf hT2 len_set ?_)
  wp_delta
  refine wpAny_bind (wpAny_isInstance (T := "set") (b := true) hT2 (by rw [isSubtype_type]; kernel_rfl) ?_)
  show wpAny _ A.in1 (typeOf (Value.ref a) >>= _) _ _ _
  refine wpAny_bind (wpAny_typeOf hT2 ?_)
  refine wpAny_pure ?_
  rw [if_pos (by decide)]
  refine wpAny_bind (wpAny_rule ?_)
  obtain ⟨n, fp, vs, ns, St, en, W1, st, lI, fpk, kp, i2, p2⟩ := W
  have lI' : s.heap.objs.size + 1 ≤ I := by rw [← z1]; exact lI
  have hd : s.heap.objs.size ∉ fp := fun hm => by
    rcases fpk _ hm with z | z
    · exact absurd ha (by rw [← z]; exact Nat.lt_irrefl _)
    · have z' : s.heap.objs.size + 1 ≤ s.heap.objs.size := by rw [← z1]; exact z
      exact absurd z' (Nat.not_succ_le_self _)
  have gS : h'.get? s.heap.objs.size = some { cls := .type "list", data := .seq ([] : List Value).toArray } := kp _ _ g0
  refine wpAny_bind ?_
  show wpAny _ _ (updateSeq s.heap.objs.size (·.push .none) >>= fun _ => updateSeq s.heap.objs.size (·.pop)) _ _ _
  refine wpAny_bind (wpAny_updateSeq gS rfl ?_ (by simp) (by simp))
  have gS1 := Heap.get?_update_self (Obj.mapSeq (·.push Value.none)) gS rfl
  refine wpAny_updateSeq gS1 rfl ?_ (by simp; decide) (by simp)
  have gS2 := Heap.get?_update_self (Obj.mapSeq (·.pop)) gS1 rfl
  have oth : ∀ b o, b ≠ s.heap.objs.size → h'.get? b = some o → ((h'.update s.heap.objs.size (Obj.mapSeq (·.push Value.none))).update s.heap.objs.size (Obj.mapSeq (·.pop))).get? b = some o := fun b o hb g => by
    rw [Heap.get?_update_other _ _ (Ne.symm hb), Heap.get?_update_other _ _ (Ne.symm hb)]
    exact g
  have st2 := (W1 A.in1 (by simpa using hh)).frame 0 _ ((h'.update s.heap.objs.size (Obj.mapSeq (·.push Value.none))).update s.heap.objs.size (Obj.mapSeq (·.pop))) s.toks st (Nat.le_refl _) fun b hb o g => oth b o (fun z => hd (z ▸ hb)) g
  have hvl : n ≤ sizeLine := by rw [en]; exact sl_le (by omega)
  refine wpAny_pure ⟨plainId_quiet F.plain_extend_loop _, ?_⟩
  refine codeAny_extend_loopS (W1 A.in1 (by simpa using hh)) hvl _ hd _ n 0 _ _ _ rfl (Nat.zero_le _) st2 gS2 ⟨rfl, fun j v z => by simp at z⟩ fun s2 acc c m g2 it => ?_
  show wpAny _ A (load s.heap.objs.size >>= _) _ _ s2
  refine wpAny_bind (wpAny_load g2 ?_)
  have ev : acc.toList = vs := by
    have hl : acc.size = n := it.1
    have hvn : vs.length = n := by
      have h1 := IntsAre.length i2
      rw [h1, p2.length_eq, en]
    refine List.ext_getElem? fun j => ?_
    cases hj : acc.toList[j]? with
    | none =>
      have := List.getElem?_eq_none_iff.mp hj
      rw [Array.length_toList] at this
      rw [List.getElem?_eq_none (by omega)]
    | some v => exact (it.2 j v (by rw [← Array.getElem?_toList]; exact hj)).symm
  obtain ⟨h2, g', d2, tk, os⟩ := s2
  have eg : g' = s.gens := m.gens
  have ed : d2 = d := m.drawn
  have eo : os = s.os := m.os
  subst eg
  subst ed
  subst eo
  refine wpAny_pure ?_
  show Q acc.toList _
  rw [ev]
  refine k vs ns h2 d2 tk i2 p2 (Heap.lt_size g2) fun b o g => ?_
  have hb : b < s.heap.objs.size := Heap.lt_size g
  refine m.heap b o (fun z => ?_) (oth b o (neN (.inl hb)) (kp b o (kp1 b o g)))
  have z' : b = s.heap.objs.size ∨ b = I := by simpa using z
  rcases z' with z | z
  · exact absurd hb (by rw [z]; exact Nat.lt_irrefl _)
  · exact absurd (Nat.lt_of_lt_of_le hb (Nat.le_of_succ_le lI')) (by rw [z]; exact Nat.lt_irrefl _)
end
end L2
set_option Elab.async false
set_option linter.all false
set_option maxRecDepth 100000
namespace L2
open PySem PySem.Spec PyProof.Rows
theorem firstL_mem (f : Nat → Int) (k : Int) : ∀ n, k ∈ firstL f n ↔ ∃ i, i < n ∧ f i = k
  | 0 => by
    unfold firstL
    constructor
    · intro h; simp at h
    · rintro ⟨i, h, _⟩; omega
  | n + 1 => by
    have ih := firstL_mem f k n
    have e : k ∈ firstL f (n + 1) ↔ k ∈ firstL f n ∨ k = f n := by
      show k ∈ (if f n ∈ firstL f n then firstL f n else firstL f n ++ [f n]) ↔ _
      split
      · rename_i h
        exact ⟨.inl, fun z => z.elim id fun z => z ▸ h⟩
      · rw [List.mem_append, List.mem_singleton]
    rw [e, ih]
    constructor
    · rintro (⟨i, h, z⟩ | z)
      · exact ⟨i, by omega, z⟩
      · exact ⟨n, by omega, z.symm⟩
    · rintro ⟨i, h, z⟩
      by_cases hi : i = n
      · subst hi; exact .inr z.symm
      · exact .inl ⟨i, by omega, z⟩
theorem firstL_nodup (f : Nat → Int) : ∀ n, (firstL f n).Nodup
  | 0 => List.nodup_nil
  | n + 1 => by
    have ih := firstL_nodup f n
    show (if f n ∈ firstL f n then firstL f n else firstL f n ++ [f n]).Nodup
    split
    · exact ih
    · rename_i h
      rw [List.nodup_append]
      exact ⟨ih, by simp, fun x hx y hy z => h (by rw [← List.mem_singleton.mp hy, ← z]; exact hx)⟩
/-- a list's unlike things, as they come -/
def uniq (ns : List Int) : List Int := firstL (fun i => ns.getD i 0) ns.length
theorem uniq_mem (ns : List Int) (k : Int) : k ∈ uniq ns ↔ k ∈ ns := by
  unfold uniq
  rw [firstL_mem]
  constructor
  · rintro ⟨i, h, z⟩
    rw [List.getD_eq_getElem?_getD, List.getElem?_eq_getElem h] at z
    rw [← z]
    exact List.getElem_mem h
  · intro h
    obtain ⟨i, hi, e⟩ := List.getElem_of_mem h
    exact ⟨i, hi, by rw [List.getD_eq_getElem?_getD, List.getElem?_eq_getElem hi, e]; rfl⟩
theorem uniq_nodup (ns : List Int) : (uniq ns).Nodup := firstL_nodup _ _
theorem uniq_len (ns : List Int) : (uniq ns).length ≤ ns.length := firstL_len _ _
/-- a set of ints in the abstract heap -/
def SetO (P : Program) (w : World) (a : Addr) (ks : List Int) : HO := .ext fun h => SetL P w h a ks
section
variable {P : Program} {w : World} {A : Around} {E : Value → Shared → Prop} {s : Shared} {a : Addr} {ks : List Int}
theorem sortedL {Q : Value → Shared → Prop} (hh : A.handled = none) (hS : SetL P w s.heap a ks) (h64 : ks.length < 64)
    (k : ∀ l h' d tk vs ns e, s.heap.objs.size ≤ l → h'.get? l = some (seqObj "list" (List.toArray vs) e) → IntsAre vs ns → ns.Perm ks → ns.Pairwise (· ≤ ·) → (∀ b o, s.heap.get? b = some o → h'.get? b = some o) → Q (.ref l) { s with heap := h', drawn := d, toks := tk }) :
    wpAny (model P w) A (call (.builtin "sorted") [.ref a]) Q E s := by
  refine Calls.call_function_entry kind_sorted plain_sorted entry_sorted (args_sorted1 (.ref a)) ?_
  unfold Builtin.«sorted»
  refine wpAny_bind (m := checkCount "sorted" 1 1 _) ?_
  refine wpAny_pure ?_
  refine wpAny_bind (collectL (by simpa using hh) hS (by omega) fun vs ns h1 d tk i1 p1 hz kp => ?_)
  have hvl : vs.length = ks.length := by
    have h1 := IntsAre.length i1
    rw [h1, p1.length_eq]
  refine wpAny_bind (wpAny_newList ?_ (sl_le (by omega)))
  have gL : (h1.push (seqObj "list" vs.toArray 0)).get? h1.objs.size = some (seqObj "list" vs.toArray 0) := Heap.get?_push_size _ rfl
  refine wpAny_bind (wpAny_holding (wpAny_call_entry slot_list_sort ⟨_, gL, rfl⟩ entry_list_sort (list_sort_tree gL i1 (by omega) fun out n2 a1 a2 a3 => ⟨_, rfl, ?_⟩) (args_list_sort _)))
  obtain ⟨ep, ge⟩ := sortedHeap_at (out := out) gL
  refine wpAny_pure ⟨_, rfl, k _ _ d tk out.toList n2 ep (Nat.le_of_lt hz) (by simpa using ge) a1 (a2.trans p1) a3 fun b o g => ?_⟩
  have hb : b < h1.objs.size := Heap.lt_size (kp b o g)
  rw [sortedHeap_old (Nat.ne_of_lt hb) (by rw [show (h1.push (seqObj "list" vs.toArray 0)).objs.size = h1.objs.size + 1 from Heap.size_push ..]; exact Nat.lt_succ_of_lt hb)]
  exact Heap.get?_push_of_some _ (kp b o g)
end
section
variable {X : Cx} {pins : List (Addr × Obj)} {σ : St} {H : Hp} {s : Shared}
theorem Inv.draw (I : Inv X pins σ H s) (d : Drawn) : Inv X pins σ H { s with drawn := d } := ⟨I.ok, I.os, I.bare, I.base, I.loc, I.cell, I.free, I.freeC, I.pin, I.hok, I.len⟩
def rSet (P : Program) (w : World) : List V → Hp → VK → Prop := fun xs H Q => ∃ (l : Addr) (ns : List Int), xs = [.ref l] ∧ H l = some (.lst (ns.map V.int)) ∧ ns.length ≤ 4000 ∧ ∀ p, H p = none → Q (.ref p) (upd H p (SetO P w p (uniq ns)))
theorem call_setR (hc : X.calm = true) : CallR X (.type "set") (rSet X.prog X.w) := by
  intro pins s σ H xs us Q I r h
  obtain ⟨l, ns, rfl, hH, h4, q⟩ := h
  cases r with
  | cons r rr =>
    cases rr
    cases r
    obtain ⟨z, its, n, rv, hl, e⟩ := I.lstM hH
    have hil : its.length = ns.length := by rw [← hl, List.length_map]
    have hf : H s.heap.objs.size = none := I.hok.fresh (Nat.le_refl _)
    refine call_setL (by simpa using I.ok.hd hc) (its := its.toArray) (ns := ns) ⟨_, e, rfl, n, rfl⟩ (by simpa using intsAre_of rv) (by rw [List.size_toArray, hil]; unfold scanBound; omega) fun h' tk S kp => ?_
    have ez : its.toArray.size = ns.length := by rw [List.size_toArray, hil]
    rw [ez] at S
    refine ⟨.ref s.heap.objs.size, _, I.laid (o := SetO X.prog X.w s.heap.objs.size (uniq ns)) (t' := tk) (fun b o g => kp b o (Heap.lt_size g) g) (Nat.le_refl _) ?_, rfl, q _ hf⟩
    refine ⟨S, ?_, fun h1 h2 x y => SetL.at x y⟩
    obtain ⟨o, es, ep, t, g, _⟩ := S
    exact ⟨o, g⟩
def rLenSet (P : Program) (w : World) : List V → Hp → VK → Prop := fun xs H Q => ∃ (p : Addr) (ks : List Int), xs = [.ref p] ∧ H p = some (SetO P w p ks) ∧ Q (.int ks.length) H
theorem call_lenSet : CallR X (.builtin "len") (rLenSet X.prog X.w) := by
  intro pins s σ H xs us Q I r h
  obtain ⟨p, ks, rfl, hH, q⟩ := h
  cases r with
  | cons r rr =>
    cases rr
    cases r
    obtain ⟨⟨o, es, ep, t, g, gx, gd, el, ⟨ns, hi, hp⟩, hb, hf, ht, hl⟩, _⟩ := I.hok p _ hH
    have hlen : es.size = ks.length := by
      have h1 := IntsAre.length hi
      rw [List.length_map, Array.length_toList] at h1
      rw [h1, hp.length_eq]
    refine call_len_set g gx gd hf (by unfold scanBound at hb; omega) ?_
    rw [hlen]
    exact ⟨.int ks.length, H, I.tok _, ⟨_, rfl⟩, q⟩
def rSortSet (P : Program) (w : World) : List V → Hp → VK → Prop := fun xs H Q => ∃ (p : Addr) (ks : List Int), xs = [.ref p] ∧ H p = some (SetO P w p ks) ∧ ks.length < 64 ∧ ∀ (l : Addr) (ns : List Int), H l = none → ns.Perm ks → ns.Pairwise (· ≤ ·) → Q (.ref l) (upd H l (.lst (ns.map V.int)))
theorem call_sortSet (hc : X.calm = true) : CallR X (.builtin "sorted") (rSortSet X.prog X.w) := by
  intro pins s σ H xs us Q I r h
  obtain ⟨p, ks, rfl, hH, h64, q⟩ := h
  cases r with
  | cons r rr =>
    cases rr
    cases r
    obtain ⟨S, _⟩ := I.hok p _ hH
    refine sortedL (by simpa using I.ok.hd hc) S h64 fun l h' d tk vs ns e hz gl i1 p1 w1 kp => ?_
    have hf : H l = none := I.hok.fresh hz
    refine ⟨.ref l, _, (I.draw d).laid (o := .lst (ns.map V.int)) (t' := tk) (fun b o g => kp b o g) hz ?_, rfl, q l ns hf p1 w1⟩
    exact ⟨sl_le (by rw [List.length_map, p1.length_eq]; omega), vs, e, ints_vals i1, gl⟩
end
end L2
set_option Elab.async false
set_option linter.all false
set_option maxRecDepth 100000
namespace L2
open PySem PySem.Spec PyProof.Rows
theorem boot_setT : bootBuiltins "set" = some (.type "set") := by decide +kernel
/-- a comprehension over zip -/
theorem comp_zip {K : PySem.W.Frag} {t1 t2 : Bool} {l1 l2 : Addr} {xs ys : List V} {g : TG} {tt : TT} {te : TE} {ix : List (Option Nat)} {σ : St} {H : Hp} {QD : Hp → Prop} {D : Addr} (hlen : xs.length = ys.length) (Pv : Nat → Hp → Prop) (h0 : Pv 0 (upd H D (.lst [])))
    (hl : ∀ i H', Pv i H' → Sq K t1 H' l1 xs ∧ Sq K t2 H' l2 ys) (stop : ∀ H', Pv xs.length H' → QD H')
    (step : ∀ i x y p H', xs[i]? = some x → ys[i]? = some y → Pv i H' → H' p = none → g (.ref p) (capS ix σ) (upd H' p (.tup [x, y])) fun σ2 H3 => KeepS (capS ix σ) σ2 ∧ tt σ2 H3 fun b H4 =>
      if b = true then te σ2 H4 fun v H5 => ∃ zs, H5 D = some (.lst zs) ∧ zs.length < sizeLine ∧ Pv (i + 1) (upd H5 D (.lst (zs ++ [v]))) else Pv (i + 1) H4) :
    ∃ W : Nat → Nat → Hp → Prop, (∃ m, W 0 m (upd H D (.lst []))) ∧ ∀ i m H, W i m H →
      ((Itz K t1 t2 l1 l2).stop i H ∧ QD H) ∨ ((Itz K t1 t2 l1 l2).go i H ∧ ∃ N : Hp → Prop, (∀ H', N H' → ∃ m', m' < m ∧ W (i + 1) m' H') ∧ ∀ x H', (Itz K t1 t2 l1 l2).yld i H x H' → g x (capS ix σ) H' fun σ2 H2 => KeepS (capS ix σ) σ2 ∧ tt σ2 H2 fun b H3 =>
        if b = true then te σ2 H3 fun v H4 => ∃ zs, H4 D = some (.lst zs) ∧ zs.length < sizeLine ∧ N (upd H4 D (.lst (zs ++ [v]))) else N H3) := by
  refine comp_by (n := xs.length) Pv h0 (fun H' p => ⟨?_, stop H' p⟩) fun i H' hi p => ⟨?_, ?_⟩
  · obtain ⟨q1, q2⟩ := hl _ H' p
    exact ⟨xs, ys, q1, q2, .inl (by simp)⟩
  · obtain ⟨q1, q2⟩ := hl _ H' p
    exact ⟨xs, ys, _, _, q1, q2, List.getElem?_eq_getElem hi, List.getElem?_eq_getElem (by omega)⟩
  · rintro x H2 ⟨pp, u, v, hp, rfl, rfl, hu⟩
    obtain ⟨q1, q2⟩ := hl _ H' p
    obtain ⟨h1, h2⟩ := hu xs ys q1 q2
    exact step i u v pp H' h1 h2 p hp
end L2
set_option Elab.async false
set_option linter.all false
set_option maxRecDepth 100000
namespace L2
open PySem PySem.Spec PyProof.Rows
section
variable {X : Cx}
def rMinL : List V → Hp → VK → Prop := fun xs H Q => ∃ (l : Addr) (ns : List Int), xs = [.ref l] ∧ H l = some (.lst (ns.map V.int)) ∧ 0 < ns.length ∧ ∀ M, M ∈ ns → (∀ a ∈ ns, M ≤ a) → Q (.int M) H
def rMaxL : List V → Hp → VK → Prop := fun xs H Q => ∃ (l : Addr) (ns : List Int), xs = [.ref l] ∧ H l = some (.lst (ns.map V.int)) ∧ 0 < ns.length ∧ ∀ M, M ∈ ns → (∀ a ∈ ns, a ≤ M) → Q (.int M) H
theorem call_minL (hc : X.calm = true) : CallR X (.builtin "min") rMinL := by
  intro pins s σ H xs us Q I r h
  obtain ⟨l, ns, rfl, hH, hne, q⟩ := h
  cases r with
  | cons r rr =>
    cases rr
    cases r
    obtain ⟨z, its, n, rv, hl, e⟩ := I.lstM hH
    have hi : IntsAre its ns := intsAre_of rv
    obtain ⟨ys, e2⟩ := hi.allInts.items
    have hns : ns = ys.toList.map (·.1) := by rw [← hi.numsOf, ← nums_intItems, ← e2]
    have hsz : 0 < ys.size := by
      have h3 := hne; rw [hns, List.length_map, Array.length_toList] at h3; exact h3
    have hl' : s.heap.IsList l its.toArray := ⟨_, e, rfl, n, rfl⟩
    rw [e2] at hl'
    refine min_intList (I.ok.hd hc) hl' hsz fun v h' tk hv hk => ?_
    obtain ⟨t, rfl⟩ := intItems_at hv
    obtain ⟨h1, h2⟩ := argBest_lt (numAt ys) (ys.size - 1)
    refine ⟨.int _, H, I.kept hk, ⟨_, rfl⟩, q _ ?_ fun a ha => ?_⟩
    · rw [hns, numAt_eq]; exact getD_mem (by rw [List.length_map, Array.length_toList]; omega)
    · rw [hns] at ha
      obtain ⟨j, hj, rfl⟩ := mem_getD ha
      rw [List.length_map, Array.length_toList] at hj
      rw [← numAt_eq]; exact h2 j (by omega)
theorem call_maxL (hc : X.calm = true) : CallR X (.builtin "max") rMaxL := by
  intro pins s σ H xs us Q I r h
  obtain ⟨l, ns, rfl, hH, hne, q⟩ := h
  cases r with
  | cons r rr =>
    cases rr
    cases r
    obtain ⟨z, its, n, rv, hl, e⟩ := I.lstM hH
    have hi : IntsAre its ns := intsAre_of rv
    obtain ⟨ys, e2⟩ := hi.allInts.items
    have hns : ns = ys.toList.map (·.1) := by rw [← hi.numsOf, ← nums_intItems, ← e2]
    have hsz : 0 < ys.size := by
      have h3 := hne; rw [hns, List.length_map, Array.length_toList] at h3; exact h3
    have hl' : s.heap.IsList l its.toArray := ⟨_, e, rfl, n, rfl⟩
    rw [e2] at hl'
    refine max_intList (I.ok.hd hc) hl' hsz fun v h' tk hv hk => ?_
    obtain ⟨t, rfl⟩ := intItems_at hv
    obtain ⟨h1, h2⟩ := argBest_gt (numAt ys) (ys.size - 1)
    refine ⟨.int _, H, I.kept hk, ⟨_, rfl⟩, q _ ?_ fun a ha => ?_⟩
    · rw [hns, numAt_eq]; exact getD_mem (by rw [List.length_map, Array.length_toList]; omega)
    · rw [hns] at ha
      obtain ⟨j, hj, rfl⟩ := mem_getD ha
      rw [List.length_map, Array.length_toList] at hj
      rw [← numAt_eq]; exact h2 j (by omega)
end
end L2
set_option Elab.async false
set_option linter.all false
set_option maxRecDepth 100000
namespace L2
open PySem PySem.Spec PyProof.Rows
def dOf : V → PyData
  | .non => .none
  | .bl b => .bool b
  | .int i => .int i
  | .str s => .str s
  | _ => .none
theorem flat_at {H : Hp} : ∀ {v : V}, flatV v = true → At H v (dOf v)
  | .non, _ => .non
  | .bl b, _ => .bl b
  | .int i, _ => .int i
  | .str s, _ => .str s
theorem flats_at {H : Hp} : ∀ {vs : List V}, vs.all flatV = true → AtAll H vs (vs.map dOf)
  | [], _ => .nil
  | v :: vs, h => by
    rw [List.all_cons, Bool.and_eq_true] at h
    exact .cons (flat_at h.1) (flats_at h.2)
theorem flats_depth : ∀ {vs : List V}, vs.all flatV = true → PyData.depthAll (vs.map dOf) ≤ 1
  | [], _ => by simp [PyData.depthAll]
  | v :: vs, h => by
    rw [List.all_cons, Bool.and_eq_true] at h
    have ih := flats_depth h.2
    have h1 : (dOf v).depth ≤ 1 := by
      cases v <;> first | simp [dOf, PyData.depth] | (simp [flatV] at h)
    simp only [List.map_cons, PyData.depthAll]
    omega
def Fl (xs : List V) : Prop := xs.all flatV = true ∧ PyData.canLayAll0 (xs.map dOf) = true
def tEq (H : Hp) (xs : List V) : V → Bool
  | .ref a => match H a with | some (.tup ys) => PyData.eqvAll (ys.map dOf) (xs.map dOf) | _ => false
  | _ => false
def tEqU (H : Hp) (xs : List V) : Value → Bool
  | .ref a => match H a with | some (.tup ys) => PyData.eqvAll (ys.map dOf) (xs.map dOf) | _ => false
  | _ => false
theorem any_tEq {H : Hp} {xs : List V} : ∀ {us : List V} {vs : List Value}, Vals us vs → (∀ v ∈ us, ∃ a, v = .ref a) → vs.any (tEqU H xs) = us.any (tEq H xs)
  | _, _, .nil, _ => rfl
  | u :: us, _, .cons r t, h => by
    obtain ⟨a, rfl⟩ := h u (by simp)
    cases r
    rw [List.any_cons, List.any_cons, any_tEq t (fun v hv => h v (by simp [hv]))]
    rfl
section
variable {X : Cx}
def rInT : R2 := fun x y H Q => ∃ q xs p us, x = .ref q ∧ H q = some (.tup xs) ∧ Fl xs ∧ y = .ref p ∧ H p = some (.lst us) ∧ (∀ v ∈ us, ∃ a ys, v = .ref a ∧ H a = some (.tup ys) ∧ Fl ys) ∧ Q (.bl (us.any (tEq H xs))) H
theorem op_inT {k : Nat} (hr : Room k X.A) : OpR X (compareOp .In) rInT := by
  intro pins s σ H x y v u Q I rx ry h
  obtain ⟨q, xs, p, us, rfl, hq, fx, rfl, hp, hus, k⟩ := h
  cases rx
  cases ry
  obtain ⟨its, r, pl, hz⟩ := I.list (SqL.of hp)
  have hu := hr.units
  obtain ⟨as, rx⟩ := (At.tup hq (flats_at fx.1)).reads I.hok (u := .ref q) rfl
  refine SeqAt.in_listAt (tEqU H xs) pl.isList (fun w hw => ?_) ⟨.bl _, H, I, rfl, ?_⟩
  · obtain ⟨v, hv, rv⟩ := r.back w (by simpa using hw)
    obtain ⟨a, ys, rfl, ha, fy⟩ := hus v hv
    cases rv
    obtain ⟨bs, ry⟩ := (At.tup ha (flats_at fy.1)).reads I.hok (u := .ref a) rfl
    have e : tEqU H xs (.ref a) = PyData.eqv (.tuple (ys.map dOf)) (.tuple (xs.map dOf)) := by
      unfold tEqU
      dsimp only
      rw [ha]
      simp [PyData.eqv]
    rw [e]
    refine PySem.SeqAt.eqAt_reads _ _ _ _ _ _ _ _ ry rx fy.2 fx.2 ?_
    have h1 := flats_depth fy.1
    have h2 := Nat.min_le_left (PyData.tuple (ys.map dOf)).depth (PyData.tuple (xs.map dOf)).depth
    have h3 : (PyData.tuple (ys.map dOf)).depth ≤ 2 := by
      simp only [PyData.depth]
      omega
    show X.A.units + 1 + _ < _
    omega
  · rw [show its.toArray.any (tEqU H xs) = its.any (tEqU H xs) by simp, any_tEq r (fun v hv => by obtain ⟨a, _, e, _⟩ := hus v hv; exact ⟨a, e⟩)]
    exact k
end
end L2
set_option Elab.async false
set_option linter.all false
set_option maxRecDepth 100000
set_option maxHeartbeats 1600000
namespace Mh
open PySem L2 PyProof.Rows
def top (i : Nat) : Stmt := PySem.Challenge.pw_marchmend_k52_mended_reads.main.body.getD i (.Pass ⟨0, 0, 0, 0⟩)
def b2i (b : Bool) : Int := if b then 1 else 0
theorem iteB {b : Bool} {A B : Prop} (hb : b = true) (h : A) : if b = true then A else B := by
  rw [if_pos hb]; exact h
theorem iteN {b : Bool} {A B : Prop} (hb : b = false) (h : B) : if b = true then A else B := by
  rw [if_neg (by rw [hb]; exact Bool.false_ne_true)]; exact h
theorem iteD {c : Prop} [Decidable c] {A B : Prop} (hc : c) (h : A) : if decide c = true then A else B := iteB (decide_eq_true hc) h

theorem map_get {α β : Type} {f : α → β} {l : List α} {i : Nat} {d : β} (h : (l.map f)[i]? = some d) : ∃ x, l[i]? = some x ∧ d = f x := by
  rw [List.getElem?_map] at h
  cases e : l[i]? with
  | none => rw [e] at h; cases h
  | some x => rw [e] at h; exact ⟨x, rfl, (Option.some.inj h).symm⟩
structure Hm where
  w : Str
  c : List Int
  r : List V
def tabP : List (Str × List V) := [("stuck", [.str "cell", .str "bit"]), ("slow", [.str "cell", .str "bit"]), ("forgets", [.str "cell", .str "bit"]), ("misreads", [.str "cell", .str "bit"]), ("turns", [.str "cell", .str "cell", .str "bit"]), ("sets", [.str "cell", .str "cell", .str "bit", .str "bit"]),
  ("keeps", [.str "cell", .str "cell", .str "bit", .str "bit"]), ("nowhere", [.str "cell", .str "bit"]), ("other", [.str "cell", .str "cell"]), ("both", [.str "cell", .str "cell", .str "how"])]
def bitV (v : V) : Prop := ∃ b, v = .int (b2i b)
def howV (v : V) : Prop := v = .str "and" ∨ v = .str "or"
/-- the rest's names, and the things that bear them -/
inductive Rest : List Str → List V → Prop
  | nil : Rest [] []
  | bit {v : V} {ns : List Str} {vs : List V} : bitV v → Rest ns vs → Rest ("bit" :: ns) (v :: vs)
  | how {v : V} {ns : List Str} {vs : List V} : howV v → Rest ns vs → Rest ("how" :: ns) (v :: vs)
def namesOf (n : Nat) (ns : List Str) : List V := List.replicate n (V.str "cell") ++ ns.map V.str
def hV (h : Hm) : List V := .str h.w :: (h.c.map V.int ++ h.r)
structure okH (h : Hm) (ns : List Str) : Prop where
  tab : KTD.datumAt h.w tabP = some (namesOf h.c.length ns)
  rest : Rest ns h.r
  cl : 1 ≤ h.c.length ∧ h.c.length ≤ 2
  rl : ns.length ≤ 2
  nd : h.c.Nodup
  rg : ∀ x ∈ h.c, 0 ≤ x ∧ x < 64
theorem Rest.len {ns : List Str} {vs : List V} (h : Rest ns vs) : vs.length = ns.length := by
  induction h with
  | nil => rfl
  | bit _ _ ih => simp [ih]
  | how _ _ ih => simp [ih]
theorem okH.len {h : Hm} {ns : List Str} (o : okH h ns) : (h.c.map V.int ++ h.r).length = (namesOf h.c.length ns).length := by
  unfold namesOf
  simp [o.rest.len]
section
variable {P : Program} {w : World} {K : PySem.W.Frag} {mg : Str → Option Value} {base : Heap}
def sp_is_whole : Sp := fun vs H Q _ => ∃ i, vs = [.int i] ∧ Q (.bl true) H
abbrev s_is_whole : Stmt := top 8
theorem sc_is_whole : FnScope ["thing"] ["thing"] (defScope s_is_whole) := ⟨rfl, rfl, rfl, by decide +kernel, rfl, by decide +kernel, by decide +kernel⟩
/- slots: 0 thing -/
theorem ok_is_whole (B : Bl mg) (F : FnAt K mg "is_whole" s_is_whole ["thing"]) : Has P w K mg base 1 "is_whole" ["thing"] sp_is_whole := by
  refine Has.of F sc_is_whole (fun vs H Q E h => ?_) (fun f cdv A outer s H vs Q E hr h => ?_)
  · obtain ⟨i, rfl, _⟩ := h
    rfl
  · obtain ⟨i, rfl, k⟩ := h
    have sc := sc_is_whole
    refine ⟨_, (pss_one (ps_ret (pe_and (pe_callB call_isi rfl (B.of rfl) boot_isinstance (pa_cons (pv 0) (pa_cons (pe_bltn (v := .ty "int") rfl (B.of rfl) boot_int rfl) pa_nil))) (pe_one (pe_not (pe_callB call_isi rfl (B.of rfl) boot_isinstance (pa_cons (pv 0) (pa_cons (pe_bltn (v := .ty "bool") rfl (B.of rfl) boot_bool rfl) pa_nil)))))))), ?_⟩
    refine ⟨_, rfl, _, _, _, _, rfl, .int i, rfl, _, rfl, iteT ?_⟩
    refine ⟨_, rfl, _, _, _, _, rfl, .int i, rfl, _, rfl, ?_⟩
    exact k

def sp_is_bit : Sp := fun vs H Q _ => ∃ b, vs = [.int (b2i b)] ∧ ∀ H', Same H H' → Q (.bl true) H'
abbrev s_is_bit : Stmt := top 9
theorem sc_is_bit : FnScope ["thing"] ["thing"] (defScope s_is_bit) := ⟨rfl, rfl, rfl, by decide +kernel, rfl, by decide +kernel, by decide +kernel⟩
/- slots: 0 thing -/
theorem ok_is_bit (h_is_whole : Has P w K mg base 1 "is_whole" ["thing"] sp_is_whole) (F : FnAt K mg "is_bit" s_is_bit ["thing"]) : Has P w K mg base 2 "is_bit" ["thing"] sp_is_bit := by
  refine Has.of F sc_is_bit (fun vs H Q E h => ?_) (fun f cdv A outer s H vs Q E hr h => ?_)
  · obtain ⟨i, rfl, _⟩ := h
    rfl
  · obtain ⟨b, rfl, k⟩ := h
    have sc := sc_is_bit
    refine ⟨_, (pss_one (ps_ret (pe_and (pe_callH h_is_whole hr (pa_cons (pv 0) pa_nil)) (pe_one (pe_cmpR op_in_seq (pv 0) (pe_tup (pa_cons pe_int (pa_cons pe_int pa_nil))) (by with_unfolding_all rfl)))))), ?_⟩
    refine ⟨_, rfl, _, rfl, _, rfl, iteT ?_⟩
    refine ⟨_, rfl, (by show 2 ≤ sizeLine; decide), fun p hp => ⟨p, _, rfl, .inr (SqT.of upd_same), rfl, rfl, ?_⟩⟩
    cases b <;> exact k _ (Same.upd (Same.refl _) hp)
def sp_is_one_of (K : PySem.W.Frag) : Sp := fun vs H Q _ => ∃ x a xs, vs = [.str x, .ref a] ∧ (∀ H', SqT K H' a xs) ∧ xs.all flatV = true ∧ Q (.bl (inV (.str x) xs)) H
abbrev s_is_one_of : Stmt := top 10
theorem sc_is_one_of : FnScope ["thing", "words"] ["thing", "words"] (defScope s_is_one_of) := ⟨rfl, rfl, rfl, by decide +kernel, rfl, by decide +kernel, by decide +kernel⟩
/- slots: 0 thing, 1 words -/
theorem ok_is_one_of (B : Bl mg) (F : FnAt K mg "is_one_of" s_is_one_of ["thing", "words"]) : Has P w K mg base 1 "is_one_of" ["thing", "words"] (sp_is_one_of K) := by
  refine Has.of F sc_is_one_of (fun vs H Q E h => ?_) (fun f cdv A outer s H vs Q E hr h => ?_)
  · obtain ⟨x, a, xs, rfl, _⟩ := h
    rfl
  · obtain ⟨x, a, xs, rfl, hq, hf, k⟩ := h
    have sc := sc_is_one_of
    refine ⟨_, (pss_one (ps_ret (pe_and (pe_callB call_isi rfl (B.of rfl) boot_isinstance (pa_cons (pv 0) (pa_cons (pe_bltn (v := .ty "str") rfl (B.of rfl) boot_str rfl) pa_nil))) (pe_one (pe_cmpR op_in_seq (pv 0) (pv 1) (by with_unfolding_all rfl)))))), ?_⟩
    refine ⟨_, rfl, _, _, _, _, rfl, .str x, rfl, _, rfl, iteT ?_⟩
    exact ⟨_, rfl, _, rfl, a, xs, rfl, .inr (hq _), rfl, hf, k⟩

def sp_is_cell : Sp := fun vs H Q _ => ∃ x, vs = [.int x] ∧ 0 ≤ x ∧ x < 64 ∧ Q (.bl true) H
abbrev s_is_cell : Stmt := top 17
theorem sc_is_cell : FnScope ["thing"] ["thing"] (defScope s_is_cell) := ⟨rfl, rfl, rfl, by decide +kernel, rfl, by decide +kernel, by decide +kernel⟩
/- slots: 0 thing -/
theorem ok_is_cell (g_MOST_CELLS : ∃ t, mg "MOST_CELLS" = some (.int 64 t)) (h_is_whole : Has P w K mg base 1 "is_whole" ["thing"] sp_is_whole) (F : FnAt K mg "is_cell" s_is_cell ["thing"]) : Has P w K mg base 2 "is_cell" ["thing"] sp_is_cell := by
  refine Has.of F sc_is_cell (fun vs H Q E h => ?_) (fun f cdv A outer s H vs Q E hr h => ?_)
  · obtain ⟨x, rfl, _⟩ := h
    rfl
  · obtain ⟨x, rfl, h0, h1, k⟩ := h
    have sc := sc_is_cell
    refine ⟨_, (pss_one (ps_ret (pe_and (pe_callH h_is_whole hr (pa_cons (pv 0) pa_nil)) (pe_and (pe_cmpR op_ge (pv 0) pe_int (nomark _)) (pe_one (pe_cmpR op_lt (pv 0) (pe_gint g_MOST_CELLS) (nomark _))))))), ?_⟩
    refine ⟨_, rfl, x, rfl, _, rfl, iteT ?_⟩
    refine ⟨_, rfl, _, _, rfl, rfl, _, rfl, iteD (by omega) ?_⟩
    refine ⟨_, rfl, _, _, rfl, rfl, ?_⟩
    show Q (.bl (decide (x < 64))) H
    rw [decide_eq_true h1]
    exact k
def PartOk (nm : Str) (v : V) : Prop := (nm = "cell" ∧ ∃ x, v = .int x ∧ 0 ≤ x ∧ x < 64) ∨ (nm = "bit" ∧ bitV v) ∨ (nm = "how" ∧ howV v)
def sp_is_part : Sp := fun vs H Q _ => ∃ nm v, vs = [.str nm, v] ∧ PartOk nm v ∧ ∀ H', Same H H' → Q (.bl true) H'
abbrev s_is_part : Stmt := top 18
theorem sc_is_part : FnScope ["name", "thing"] ["name", "thing"] (defScope s_is_part) := ⟨rfl, rfl, rfl, by decide +kernel, rfl, by decide +kernel, by decide +kernel⟩
/- slots: 0 name, 1 thing -/
theorem ok_is_part (g_JOININGS : GTup K mg "JOININGS" [.str "and", .str "or"]) (h_is_cell : Has P w K mg base 2 "is_cell" ["thing"] sp_is_cell) (h_is_bit : Has P w K mg base 2 "is_bit" ["thing"] sp_is_bit) (h_is_one_of : Has P w K mg base 1 "is_one_of" ["thing", "words"] (sp_is_one_of K)) (F : FnAt K mg "is_part" s_is_part ["name", "thing"]) : Has P w K mg base 3 "is_part" ["name", "thing"] sp_is_part := by
  refine Has.of F sc_is_part (fun vs H Q E h => ?_) (fun f cdv A outer s H vs Q E hr h => ?_)
  · obtain ⟨nm, v, rfl, _⟩ := h
    rfl
  · obtain ⟨nm, v, rfl, hp, k⟩ := h
    have sc := sc_is_part
    refine ⟨_, (pss_cons (ps_if (pt_cmpR op_eq (pv 0) pe_str (nomark _))
        (pss_one (ps_ret (pe_callH h_is_cell hr (pa_cons (pv 1) pa_nil))))
        pss_nil)
      (pss_cons (ps_if (pt_cmpR op_eq (pv 0) pe_str (nomark _))
        (pss_one (ps_ret (pe_callH h_is_bit hr (pa_cons (pv 1) pa_nil))))
        pss_nil)
      (pss_one (ps_ret (pe_callH h_is_one_of hr (pa_cons (pv 1) (pa_cons (pe_gtup g_JOININGS) pa_nil))))))), ?_⟩
    rcases hp with ⟨rfl, x, rfl, h0, h1⟩ | ⟨rfl, b, rfl⟩ | ⟨rfl, hv⟩
    · refine ⟨_, rfl, rfl, _, rfl, iteB (by decide +kernel) ?_⟩
      exact ⟨_, rfl, x, rfl, h0, h1, k H (Same.refl H)⟩
    · refine ⟨_, rfl, rfl, _, rfl, iteN (by decide +kernel) ?_⟩
      refine ⟨_, rfl, rfl, _, rfl, iteB (by decide +kernel) ?_⟩
      exact ⟨_, rfl, b, rfl, k⟩
    · refine ⟨_, rfl, rfl, _, rfl, iteN (by decide +kernel) ?_⟩
      refine ⟨_, rfl, rfl, _, rfl, iteN (by decide +kernel) ?_⟩
      rcases hv with rfl | rfl
      · refine ⟨_, rfl, fun a ha => ⟨_, a, _, rfl, ha, by decide, ?_⟩⟩
        exact k H (Same.refl H)
      · refine ⟨_, rfl, fun a ha => ⟨_, a, _, rfl, ha, by decide, ?_⟩⟩
        exact k H (Same.refl H)
/-- a harm in the heap -/
def HAt (H : Hp) (v : V) (h : Hm) : Prop := ∃ a, v = .ref a ∧ H a = some (.tup (hV h))
def sp_has_word : Sp := fun vs H Q _ => ∃ v h ns, vs = [v] ∧ HAt H v h ∧ okH h ns ∧ Q (.bl true) H
abbrev s_has_word : Stmt := top 19
theorem sc_has_word : FnScope ["thing"] ["thing"] (defScope s_has_word) := ⟨rfl, rfl, rfl, by decide +kernel, rfl, by decide +kernel, by decide +kernel⟩
/- slots: 0 thing -/
theorem ok_has_word (B : Bl mg) {aP : Addr} (gP : mg "PARTS" = some (.ref aP)) (TP : TabK K aP tabP) (F : FnAt K mg "has_word" s_has_word ["thing"]) : Has P w K mg base 1 "has_word" ["thing"] sp_has_word := by
  refine Has.of F sc_has_word (fun vs H Q E h => ?_) (fun f cdv A outer s H vs Q E hr h => ?_)
  · obtain ⟨v, h, ns, rfl, _⟩ := h
    rfl
  · obtain ⟨v, h, ns, rfl, ⟨a, rfl, ha⟩, ok, k⟩ := h
    have sc := sc_has_word
    refine ⟨_, (pss_one (ps_ret (pe_and (pe_callB call_isi rfl (B.of rfl) boot_isinstance (pa_cons (pv 0) (pa_cons (pe_bltn (v := .ty "tuple") rfl (B.of rfl) boot_tuple rfl) pa_nil))) (pe_and (pe_cmpR op_gt (pe_callB call_len_seq rfl (B.of rfl) boot_len (pa_cons (pv 0) pa_nil)) pe_int (nomark _)) (pe_and (pe_callB call_isi rfl (B.of rfl) boot_isinstance (pa_cons (pe_ix ix_tup (pv 0) pe_int (fun _ _ => rfl)) (pa_cons (pe_bltn (v := .ty "str") rfl (B.of rfl) boot_str rfl) pa_nil))) (pe_one (pe_cmpR (op_inTab (D := tabP)) (pe_ix ix_tup (pv 0) pe_int (fun _ _ => rfl)) (pe_glob (v := .ref aP) rfl gP rfl) (by with_unfolding_all rfl)))))))), ?_⟩
    refine ⟨_, rfl, _, _, _, _, rfl, .tup ha, rfl, _, rfl, iteT ?_⟩
    refine ⟨_, rfl, a, _, rfl, .inr (SqT.of ha), _, _, rfl, rfl, _, rfl, iteD (by unfold hV; simp; omega) ?_⟩
    refine ⟨_, rfl, a, _, _, _, rfl, rfl, SqT.of ha, atI_lit 0 rfl, _, _, _, _, rfl, .str _, rfl, _, rfl, iteT ?_⟩
    refine ⟨_, rfl, a, _, _, _, rfl, rfl, SqT.of ha, atI_lit 0 rfl, aP, h.w, rfl, rfl, TP, ?_⟩
    have e : KTD.inKeys h.w tabP = true := by rw [← KTD.isSome_datumAt, ok.tab]; rfl
    rw [e]
    exact k
end
end Mh
set_option Elab.async false
set_option linter.all false
set_option maxRecDepth 100000
set_option maxHeartbeats 1600000
namespace Mh
open PySem L2 PyProof.Rows
section
variable {P : Program} {w : World} {K : PySem.W.Frag} {mg : Str → Option Value} {base : Heap}
theorem Rest.get {ns : List Str} {vs : List V} (h : Rest ns vs) : ∀ {i : Nat} {n : Str} {v : V}, ns[i]? = some n → vs[i]? = some v → (n = "bit" ∧ bitV v) ∨ (n = "how" ∧ howV v) := by
  induction h with
  | nil => intro i n v h; simp at h
  | bit hb _ ih =>
    intro i n v h1 h2
    cases i with
    | zero => simp at h1 h2; subst h1 h2; exact .inl ⟨rfl, hb⟩
    | succ i => simp at h1 h2; exact ih h1 h2
  | how hb _ ih =>
    intro i n v h1 h2
    cases i with
    | zero => simp at h1 h2; subst h1 h2; exact .inr ⟨rfl, hb⟩
    | succ i => simp at h1 h2; exact ih h1 h2
theorem okH.cellAt {h : Hm} {ns : List Str} (o : okH h ns) {i : Nat} {x y : V} (hx : (namesOf h.c.length ns)[i]? = some x) (hy : (h.c.map V.int ++ h.r)[i]? = some y) :
    (x = .str "cell" ∧ ∃ c, h.c[i]? = some c ∧ y = .int c) ∨ (h.c.length ≤ i ∧ ((x = .str "bit" ∧ bitV y) ∨ (x = .str "how" ∧ howV y))) := by
  unfold namesOf at hx
  by_cases hi : i < h.c.length
  · rw [List.getElem?_append_left (by simpa using hi), List.getElem?_replicate, if_pos hi] at hx
    rw [List.getElem?_append_left (by simpa using hi)] at hy
    obtain ⟨c, hc, rfl⟩ := map_get hy
    exact .inl ⟨(Option.some.inj hx).symm, c, hc, rfl⟩
  · rw [List.getElem?_append_right (by simpa using Nat.le_of_not_lt hi)] at hx
    rw [List.getElem?_append_right (by simpa using Nat.le_of_not_lt hi)] at hy
    simp only [List.length_replicate, List.length_map] at hx hy
    obtain ⟨n, hn, rfl⟩ := map_get hx
    rcases o.rest.get hn hy with ⟨rfl, hb⟩ | ⟨rfl, hb⟩
    · exact .inr ⟨Nat.le_of_not_lt hi, .inl ⟨rfl, hb⟩⟩
    · exact .inr ⟨Nat.le_of_not_lt hi, .inr ⟨rfl, hb⟩⟩
theorem okH.partAt {h : Hm} {ns : List Str} (o : okH h ns) {i : Nat} {x y : V} (hx : (namesOf h.c.length ns)[i]? = some x) (hy : (h.c.map V.int ++ h.r)[i]? = some y) : ∃ nm, x = .str nm ∧ PartOk nm y := by
  rcases o.cellAt hx hy with ⟨rfl, c, hc, rfl⟩ | ⟨_, ⟨rfl, hb⟩ | ⟨rfl, hb⟩⟩
  · exact ⟨_, rfl, .inl ⟨rfl, c, rfl, o.rg c (List.mem_of_getElem? hc)⟩⟩
  · exact ⟨_, rfl, .inr (.inl ⟨rfl, hb⟩)⟩
  · exact ⟨_, rfl, .inr (.inr ⟨rfl, hb⟩)⟩
theorem tail_cut (h : Hm) : cutV (hV h) (some 1) none = h.c.map V.int ++ h.r := by
  unfold hV
  exact cut_drop 1
theorem tail_ne (h : Hm) : ¬ (HT.sIx (hV h).length 0 (some 1) = 0 ∧ HT.sIx (hV h).length (hV h).length none = (hV h).length) := by
  rintro ⟨h0, _⟩
  unfold hV HT.sIx at h0
  simp at h0
def sp_has_parts : Sp := fun vs H Q _ => ∃ v h ns, vs = [v] ∧ HAt H v h ∧ okH h ns ∧ ∀ H', Same H H' → Q (.bl true) H'
abbrev s_has_parts : Stmt := top 21
theorem sc_has_parts : FnScope ["thing", "names"] ["thing"] (defScope s_has_parts) := ⟨rfl, rfl, rfl, by decide +kernel, rfl, by decide +kernel, by decide +kernel⟩
/- slots: 0 thing, 1 names -/
theorem ok_has_parts (B : Bl mg) (z_zip : mg "zip" = none) (z_all : mg "all" = none) {aP : Addr} (gP : mg "PARTS" = some (.ref aP)) (TP : TabK K aP tabP) (h_is_part : Has P w K mg base 3 "is_part" ["name", "thing"] sp_is_part) (F : FnAt K mg "has_parts" s_has_parts ["thing"]) : Has P w K mg base 4 "has_parts" ["thing"] sp_has_parts := by
  refine Has.of F sc_has_parts (fun vs H Q E h => ?_) (fun f cdv A outer s H vs Q E hr h => ?_)
  · obtain ⟨v, h, ns, rfl, _⟩ := h
    rfl
  · obtain ⟨v, h, ns, rfl, ⟨a, rfl, ha⟩, ok, k⟩ := h
    have sc := sc_has_parts
    refine ⟨_, (pss_cons (ps_set (i := 1) sc.nd rfl (Or.inl rfl) (pe_ix (ix_tab (D := tabP)) (pe_glob (v := .ref aP) rfl gP rfl) (pe_ix ix_tup (pv 0) pe_int (fun _ _ => rfl)) (fun _ _ => rfl)))
      (pss_one (ps_ret (pe_and (pe_cmpR op_eq (pe_callB call_len_seq rfl (B.of rfl) boot_len (pa_cons (pv 0) pa_nil)) (pe_op op_add (pe_callB call_len_seq rfl (B.of rfl) boot_len (pa_cons (pv 1) pa_nil)) pe_int) (nomark _)) (pe_one (pe_callB (call_allB rfl) rfl z_all boot_allF (pa_cons (pe_comp rfl (compOk_of rfl) (M := ["name", "part"]) (ix := [none, none]) (pi_zip rfl z_zip (pa_cons (pv 1) (pa_cons (pe_slice sl_tup (pv 0) (po_some pe_int) po_none) pa_nil))) (fun _ _ _ _ => (pg_tupK (K := K) (n := 2) rfl rfl (pgs_cons (pg_name (i := 0) (show List.Nodup (["name", "part"] : List Str) by decide +kernel) rfl (Or.inl rfl)) (pgs_cons (pg_name (i := 1) (show List.Nodup (["name", "part"] : List Str) by decide +kernel) rfl (Or.inl rfl)) pgs_nil)))) (fun _ _ _ _ => pts_nil) (fun _ _ _ _ => (pe_callH h_is_part hr (pa_cons (pv 0) (pa_cons (pv 1) pa_nil))))) pa_nil))))))), ?_⟩
    refine ⟨_, rfl, a, _, _, _, rfl, rfl, SqT.of ha, atI_lit 0 rfl, aP, h.w, _, rfl, rfl, TP, ok.tab, fun pn hpn => ?_⟩
    refine ⟨_, rfl, a, _, rfl, .inr (SqT.of ha), _, rfl, pn, _, rfl, .inr (hpn _), _, _, rfl, rfl, rfl, _, rfl, iteD ?_ ?_⟩
    · have := ok.len
      congr 1
      unfold hV
      rw [List.length_cons, this]
      rfl
    refine ⟨_, rfl, _, rfl, _, rfl, a, _, rfl, SqT.of ha, tail_ne h, fun q hq => ?_⟩
    rw [tail_cut]
    have s1 : Same H (upd H q (.tup (h.c.map V.int ++ h.r))) := (Same.refl H).upd hq
    have e1 : upd H q (.tup (h.c.map V.int ++ h.r)) q = some (.tup (h.c.map V.int ++ h.r)) := upd_same
    revert s1 e1
    generalize upd H q (.tup (h.c.map V.int ++ h.r)) = H1
    intro s1 e1
    refine ⟨true, true, pn, q, _, _, rfl, hpn _, SqT.of e1, fun D hD => ?_⟩
    refine comp_zip (K := K) (ok.len.symm) (fun i H' => Same H1 H' ∧ H' D = some (.lst ((List.replicate i true).map V.bl))) ⟨(Same.refl H1).upd hD, upd_same⟩ ?_ ?_ ?_
    · rintro i H2 ⟨s2, e2⟩
      exact ⟨hpn _, SqT.of (s2 _ _ e1)⟩
    · rintro H2 ⟨s2, e2⟩
      refine ⟨D, _, rfl, e2, ?_⟩
      rw [show (List.replicate (namesOf h.c.length ns).length true).all id = true by simp]
      exact k _ (s1.trans s2)
    · rintro i x y p H2 hx hy ⟨s2, e2⟩ hp
      obtain ⟨nm, rfl, hpo⟩ := ok.partAt hx hy
      refine ⟨p, _, rfl, SqT.of upd_same, rfl, ?_⟩
      refine ⟨_, _, rfl, _, _, rfl, rfl, KeepS.set (KeepS.set (KeepS.refl _) rfl) rfl, yes ?_⟩
      refine ⟨_, rfl, _, rfl, nm, y, rfl, hpo, fun H3 s3 => ?_⟩
      have s23 : Same H2 H3 := ((Same.refl H2).upd hp).trans s3
      refine ⟨_, s23 _ _ e2, sl_lt ?_, (s2.trans s23).at hD, ?_⟩
      · have h1 := (List.getElem?_eq_some_iff.mp hx).1
        have h2 := ok.cl
        have h3 := ok.rl
        simp [namesOf] at h1 ⊢
        omega
      · rw [upd_same, List.replicate_succ', List.map_append]; rfl
end
end Mh
set_option Elab.async false
set_option linter.all false
set_option maxRecDepth 100000
set_option maxHeartbeats 1600000
namespace Mh
open PySem L2 PyProof.Rows
section
variable {P : Program} {w : World} {K : PySem.W.Frag} {mg : Str → Option Value} {base : Heap}
theorem take_more {h : Hm} {i : Nat} (hi : h.c.length ≤ i) : h.c.take (i + 1) = h.c.take i := by
  rw [List.take_of_length_le hi, List.take_of_length_le (by omega)]
def sp_cells_in : Sp := fun vs H Q _ => ∃ v h ns, vs = [v] ∧ HAt H v h ∧ okH h ns ∧ ∀ D H', Same H H' → H D = none → H' D = some (.lst (h.c.map V.int)) → Q (.ref D) H'
abbrev s_cells_in : Stmt := top 20
theorem sc_cells_in : FnScope ["harm"] ["harm"] (defScope s_cells_in) := ⟨rfl, rfl, rfl, by decide +kernel, rfl, by decide +kernel, by decide +kernel⟩
/- slots: 0 harm -/
theorem ok_cells_in (B : Bl mg) (z_zip : mg "zip" = none) {aP : Addr} (gP : mg "PARTS" = some (.ref aP)) (TP : TabK K aP tabP) (F : FnAt K mg "cells_in" s_cells_in ["harm"]) : Has P w K mg base 1 "cells_in" ["harm"] sp_cells_in := by
  refine Has.of F sc_cells_in (fun vs H Q E h => ?_) (fun f cdv A outer s H vs Q E hr h => ?_)
  · obtain ⟨v, h, ns, rfl, _⟩ := h
    rfl
  · obtain ⟨v, h, ns, rfl, ⟨a, rfl, ha⟩, ok, k⟩ := h
    have sc := sc_cells_in
    refine ⟨_, (pss_one (ps_ret (pe_comp rfl (compOk_of rfl) (M := ["name", "part"]) (ix := [none, none]) (pi_zip rfl z_zip (pa_cons (pe_ix (ix_tab (D := tabP)) (pe_glob (v := .ref aP) rfl gP rfl) (pe_ix ix_tup (pv 0) pe_int (fun _ _ => rfl)) (fun _ _ => rfl)) (pa_cons (pe_slice sl_tup (pv 0) (po_some pe_int) po_none) pa_nil))) (fun _ _ _ _ => (pg_tupK (K := K) (n := 2) rfl rfl (pgs_cons (pg_name (i := 0) (show List.Nodup (["name", "part"] : List Str) by decide +kernel) rfl (Or.inl rfl)) (pgs_cons (pg_name (i := 1) (show List.Nodup (["name", "part"] : List Str) by decide +kernel) rfl (Or.inl rfl)) pgs_nil)))) (fun _ _ _ _ => (pts_one (pt_cmpR op_eq (pv 0) pe_str (nomark _)))) (fun _ _ _ _ => (pv 1))))), ?_⟩
    refine ⟨_, rfl, a, _, _, _, rfl, rfl, SqT.of ha, atI_lit 0 rfl, aP, h.w, _, rfl, rfl, TP, ok.tab, fun pn hpn => ?_⟩
    refine ⟨_, rfl, _, rfl, a, _, rfl, SqT.of ha, tail_ne h, fun q hq => ?_⟩
    rw [tail_cut]
    have s1 : Same H (upd H q (.tup (h.c.map V.int ++ h.r))) := (Same.refl H).upd hq
    have e1 : upd H q (.tup (h.c.map V.int ++ h.r)) q = some (.tup (h.c.map V.int ++ h.r)) := upd_same
    revert s1 e1
    generalize upd H q (.tup (h.c.map V.int ++ h.r)) = H1
    intro s1 e1
    refine ⟨true, true, pn, q, _, _, rfl, hpn _, SqT.of e1, fun D hD => ?_⟩
    refine comp_zip (K := K) (ok.len.symm) (fun i H' => Same H1 H' ∧ H' D = some (.lst ((h.c.take i).map V.int))) ⟨(Same.refl H1).upd hD, upd_same⟩ ?_ ?_ ?_
    · rintro i H2 ⟨s2, e2⟩
      exact ⟨hpn _, SqT.of (s2 _ _ e1)⟩
    · rintro H2 ⟨s2, e2⟩
      rw [List.take_of_length_le (by simp [namesOf])] at e2
      exact k D H2 (s1.trans s2) (s1.free hD) e2
    · rintro i x y p H2 hx hy ⟨s2, e2⟩ hp
      have s3 : Same H2 (upd H2 p (.tup [x, y])) := (Same.refl H2).upd hp
      refine ⟨p, _, rfl, SqT.of upd_same, rfl, ?_⟩
      revert s3
      generalize upd H2 p (.tup [x, y]) = H3
      intro s3
      refine ⟨_, _, rfl, _, _, rfl, rfl, KeepS.set (KeepS.set (KeepS.refl _) rfl) rfl, ?_⟩
      rcases ok.cellAt hx hy with ⟨rfl, c, hc, rfl⟩ | ⟨hge, hh⟩
      · refine ⟨_, rfl, rfl, _, rfl, iteB (by decide +kernel) ?_⟩
        refine ⟨_, rfl, _, s3 _ _ e2, sl_lt ?_, (s2.trans s3).at hD, ?_⟩
        · have := ok.cl
          simp
          omega
        · rw [upd_same, List.take_add_one, hc]; simp
      · have hxn : ∃ nm, x = .str nm ∧ nm ≠ "cell" := by
          rcases hh with ⟨rfl, _⟩ | ⟨rfl, _⟩
          · exact ⟨_, rfl, by decide +kernel⟩
          · exact ⟨_, rfl, by decide +kernel⟩
        obtain ⟨nm, rfl, hnm⟩ := hxn
        refine ⟨_, rfl, rfl, _, rfl, iteN (by simpa using hnm) ?_⟩
        refine ⟨s2.trans s3, ?_⟩
        rw [take_more hge]
        exact s3 _ _ e2
/-- unlike ones stay as they are -/
theorem not_take {l : List Int} (h : l.Nodup) {i : Nat} (hi : i < l.length) : l[i] ∉ l.take i := by
  intro hm
  obtain ⟨j, hj, e⟩ := List.getElem_of_mem hm
  rw [List.getElem_take] at e
  have hj' : j < i := by simp at hj; omega
  have := (List.nodup_iff_pairwise_ne.mp h)
  exact (List.pairwise_iff_getElem.mp h j i (by omega) hi hj') e
theorem firstL_nd {l : List Int} (h : l.Nodup) : ∀ i, i ≤ l.length → firstL (fun i => l.getD i 0) i = l.take i
  | 0, _ => rfl
  | i + 1, hi => by
    show (if l.getD i 0 ∈ firstL (fun i => l.getD i 0) i then firstL (fun i => l.getD i 0) i else firstL (fun i => l.getD i 0) i ++ [l.getD i 0]) = _
    rw [firstL_nd h i (by omega)]
    have e : l.getD i 0 = l[i] := by rw [List.getD_eq_getElem?_getD, List.getElem?_eq_getElem (by omega)]; rfl
    rw [e, if_neg (not_take h (by omega)), List.take_add_one, List.getElem?_eq_getElem (by omega)]
    rfl
theorem uniq_nd {l : List Int} (h : l.Nodup) : uniq l = l := by
  unfold uniq
  rw [firstL_nd h _ (Nat.le_refl _), List.take_length]
theorem HAt.same {H H' : Hp} {v : V} {h : Hm} (s : Same H H') (x : HAt H v h) : HAt H' v h := by
  obtain ⟨a, rfl, ha⟩ := x
  exact ⟨a, rfl, s _ _ ha⟩
def sp_is_harm : Sp := fun vs H Q _ => ∃ v h ns, vs = [v] ∧ HAt H v h ∧ okH h ns ∧ ∀ H', Same H H' → Q (.bl true) H'
abbrev s_is_harm : Stmt := top 22
theorem sc_is_harm : FnScope ["thing", "cells"] ["thing"] (defScope s_is_harm) := ⟨rfl, rfl, rfl, by decide +kernel, rfl, by decide +kernel, by decide +kernel⟩
/- slots: 0 thing, 1 cells -/
theorem ok_is_harm (B : Bl mg) (z_set : mg "set" = none) (h_has_word : Has P w K mg base 1 "has_word" ["thing"] sp_has_word) (h_has_parts : Has P w K mg base 4 "has_parts" ["thing"] sp_has_parts) (h_cells_in : Has P w K mg base 1 "cells_in" ["harm"] sp_cells_in) (F : FnAt K mg "is_harm" s_is_harm ["thing"]) : Has P w K mg base 5 "is_harm" ["thing"] sp_is_harm := by
  refine Has.of F sc_is_harm (fun vs H Q E h => ?_) (fun f cdv A outer s H vs Q E hr h => ?_)
  · obtain ⟨v, h, ns, rfl, _⟩ := h
    rfl
  · obtain ⟨v, h, ns, rfl, hv, ok, k⟩ := h
    have sc := sc_is_harm
    refine ⟨_, (pss_cons (ps_if (PW.pt (pw_or (pt_not (pt_val (pe_callH h_has_word hr (pa_cons (pv 0) pa_nil)))) (pw_or1 (pt_not (pt_val (pe_callH h_has_parts hr (pa_cons (pv 0) pa_nil)))))))
        (pss_one (ps_ret pe_bl))
        pss_nil)
      (pss_cons (ps_set (i := 1) sc.nd rfl (Or.inl rfl) (pe_callH h_cells_in hr (pa_cons (pv 0) pa_nil)))
      (pss_one (ps_ret (pe_cmpR op_eq (pe_callB call_lenSet rfl (B.of rfl) boot_len (pa_cons (pe_callTy (call_setR rfl) rfl z_set boot_setT (pa_cons (pv 1) pa_nil)) pa_nil)) (pe_callB call_len_seq rfl (B.of rfl) boot_len (pa_cons (pv 1) pa_nil)) (nomark _)))))), ?_⟩
    refine ⟨_, rfl, v, h, ns, rfl, hv, ok, _, rfl, iteF ?_⟩
    refine ⟨_, rfl, v, h, ns, rfl, hv, ok, fun H1 s1 => ⟨_, rfl, iteF ?_⟩⟩
    refine ⟨_, rfl, v, h, ns, rfl, HAt.same s1 hv, ok, fun D H2 s2 hD e2 => ?_⟩
    refine ⟨_, rfl, D, h.c, rfl, e2, by have := ok.cl; omega, fun p hp => ?_⟩
    refine ⟨p, _, rfl, upd_same, ?_⟩
    have s3 : Same H2 (upd H2 p (SetO P w p (uniq h.c))) := (Same.refl H2).upd hp
    refine ⟨_, rfl, D, _, rfl, .inl (SqL.of (s3 _ _ e2)), rfl, ?_⟩
    rw [uniq_nd ok.nd, List.length_map, decide_eq_true rfl]
    rw [uniq_nd ok.nd] at s3
    exact k _ ((s1.trans s2).trans s3)
end
end Mh
set_option Elab.async false
set_option linter.all false
set_option maxRecDepth 100000
set_option maxHeartbeats 1600000
namespace Mh
open PySem L2 PyProof.Rows
theorem nodup_le {l : List Int} (h : l.Nodup) : ∀ {S : List Int}, (∀ x ∈ l, x ∈ S) → l.length ≤ S.length := by
  induction l with
  | nil => intro S _; exact Nat.zero_le _
  | cons x l ih =>
    intro S hs
    have hx := hs x (by simp)
    have hn := List.nodup_cons.mp h
    have := ih hn.2 (S := S.erase x) (fun y hy => (List.mem_erase_of_ne (fun z => by subst z; exact hn.1 hy)).mpr (hs y (by simp [hy])))
    rw [List.length_erase_of_mem hx] at this
    have := List.length_pos_of_mem hx
    simp
    omega
def allC (hs : List Hm) : List Int := hs.flatMap Hm.c
structure okHs (hs : List Hm) (S : List Int) : Prop where
  len : hs.length ≤ 3
  ok : ∀ h ∈ hs, ∃ ns, okH h ns
  sl : S.length ≤ 3
  mem : ∀ h ∈ hs, ∀ c ∈ h.c, c ∈ S
structure HsV (H : Hp) (vs : List V) (hs : List Hm) : Prop where
  len : vs.length = hs.length
  at_ : ∀ (i : Nat) (v : V) (h : Hm), vs[i]? = some v → hs[i]? = some h → HAt H v h
theorem HsV.same {H H' : Hp} {vs : List V} {hs : List Hm} (s : Same H H') (x : HsV H vs hs) : HsV H' vs hs := ⟨x.len, fun i v h a b => HAt.same s (x.at_ i v h a b)⟩
theorem HsV.get {H : Hp} {vs : List V} {hs : List Hm} (x : HsV H vs hs) {i : Nat} {v : V} (h : vs[i]? = some v) : ∃ g, hs[i]? = some g ∧ HAt H v g := by
  have hi := (List.getElem?_eq_some_iff.mp h).1
  have e : hs[i]? = some (hs[i]'(by rw [← x.len]; exact hi)) := List.getElem?_eq_getElem _
  exact ⟨_, e, x.at_ i v _ h e⟩
theorem allC_take {hs : List Hm} {i : Nat} {h : Hm} (e : hs[i]? = some h) : allC (hs.take (i + 1)) = allC (hs.take i) ++ h.c := by
  unfold allC
  rw [List.take_add_one, e]
  simp
theorem okHs.sub {hs : List Hm} {S : List Int} (o : okHs hs S) {l : List Hm} (hl : ∀ h ∈ l, h ∈ hs) : ∀ x ∈ allC l, x ∈ S := by
  intro x hx
  unfold allC at hx
  obtain ⟨h, hh, hc⟩ := List.mem_flatMap.mp hx
  exact o.mem h (hl h hh) x hc
theorem okHs.few {hs : List Hm} {S : List Int} (o : okHs hs S) {l : List Hm} (hl : ∀ h ∈ l, h ∈ hs) : (uniq (allC l)).length ≤ 3 :=
  Nat.le_trans (nodup_le (uniq_nodup _) (fun x hx => o.sub hl x ((uniq_mem _ x).mp hx))) o.sl
theorem allC_len {l : List Hm} (h : ∀ x ∈ l, x.c.length ≤ 2) : (allC l).length ≤ 2 * l.length := by
  induction l with
  | nil => simp [allC]
  | cons a l ih =>
    have h1 := h a (by simp)
    have h2 := ih (fun x hx => h x (by simp [hx]))
    unfold allC at *
    rw [List.flatMap_cons, List.length_append, List.length_cons]
    omega
theorem okHs.clen {hs : List Hm} {S : List Int} (o : okHs hs S) {l : List Hm} (hl : ∀ h ∈ l, h ∈ hs) : (allC l).length ≤ 2 * l.length :=
  allC_len fun x hx => by
    obtain ⟨ns, h⟩ := o.ok x (hl x hx)
    exact h.cl.2
theorem iteDN {c : Prop} [Decidable c] {A B : Prop} (hc : ¬ c) (h : B) : if decide c = true then A else B := iteN (decide_eq_false hc) h
section
variable {P : Program} {w : World} {K : PySem.W.Frag} {mg : Str → Option Value} {base : Heap}
def sp_look_at_harms : Sp := fun vs H Q _ => ∃ L us hs S, vs = [.ref L] ∧ H L = some (.lst us) ∧ HsV H us hs ∧ okHs hs S ∧ ∀ H', Same H H' → Q .non H'
abbrev s_look_at_harms : Stmt := top 23
theorem sc_look_at_harms : FnScope ["thing", "cells", "number", "harm"] ["thing"] (defScope s_look_at_harms) := ⟨rfl, rfl, rfl, by decide +kernel, rfl, by decide +kernel, by decide +kernel⟩
/- slots: 0 thing, 1 cells, 2 number, 3 harm -/
theorem ok_look_at_harms (B : Bl mg) (z_set : mg "set" = none) (g_MOST_HARMS : ∃ t, mg "MOST_HARMS" = some (.int 3 t)) (g_MOST_UNLIKE : ∃ t, mg "MOST_UNLIKE" = some (.int 3 t)) (h_is_harm : Has P w K mg base 5 "is_harm" ["thing"] sp_is_harm) (h_cells_in : Has P w K mg base 1 "cells_in" ["harm"] sp_cells_in) (F : FnAt K mg "look_at_harms" s_look_at_harms ["thing"]) : Has P w K mg base 6 "look_at_harms" ["thing"] sp_look_at_harms := by
  refine Has.of F sc_look_at_harms (fun vs H Q E h => ?_) (fun f cdv A outer s H vs Q E hr h => ?_)
  · obtain ⟨L, us, hs, S, rfl, _⟩ := h
    rfl
  · obtain ⟨L, us, hs, S, rfl, hL, hv, ok, k⟩ := h
    have sc := sc_look_at_harms
    refine ⟨_, (pss_cons (ps_if (PW.pt (pw_or (pt_not (pt_val (pe_callB call_isi rfl (B.of rfl) boot_isinstance (pa_cons (pv 0) (pa_cons (pe_bltn (v := .ty "list") rfl (B.of rfl) boot_list rfl) pa_nil))))) (pw_or1 (pt_cmpR op_gt (pe_callB call_len_seq rfl (B.of rfl) boot_len (pa_cons (pv 0) pa_nil)) (pe_gint g_MOST_HARMS) (nomark _)))))
        (pss_one ps_never)
        pss_nil)
      (pss_cons (ps_set (i := 1) sc.nd rfl (Or.inl rfl) (pe_lst pa_nil))
      (pss_one (ps_for PassesOwn.never rfl (pi_enum rfl (B.of rfl) (pa_cons (pv 0) pa_nil)) (pg_tup rfl (pgs_cons (pg_name (i := 2) sc.nd rfl (Or.inl rfl)) (pgs_cons (pg_name (i := 3) sc.nd rfl (Or.inl rfl)) pgs_nil)))
        (pss_cons (ps_if (pt_not (pt_val (pe_callH h_is_harm hr (pa_cons (pv 3) pa_nil))))
          (pss_one ps_never)
          pss_nil)
        (pss_cons (ps_expr (pe_bm PySem.F.plainAttrs_list PySem.F.slot_list_extend PySem.F.type_list_extend mt_extend (pv 1) (pa_cons (pe_callH h_cells_in hr (pa_cons (pv 3) pa_nil)) pa_nil)))
        (pss_one (ps_if (pt_cmpR op_gt (pe_callB call_lenSet rfl (B.of rfl) boot_len (pa_cons (pe_callTy (call_setR rfl) rfl z_set boot_setT (pa_cons (pv 1) pa_nil)) pa_nil)) (pe_gint g_MOST_UNLIKE) (nomark _))
          (pss_one ps_never)
          pss_nil)))))))), ?_⟩
    refine ⟨_, rfl, _, _, _, _, rfl, .lst hL, rfl, _, rfl, iteF ?_⟩
    refine ⟨_, rfl, L, us, rfl, .inl (SqL.of hL), _, _, rfl, rfl, _, rfl, iteDN (by have := hv.len; have := ok.len; omega) ?_⟩
    refine ⟨Nat.zero_le _, fun p hp => ?_⟩
    have npL : L ≠ p := ne_of_none hL hp
    refine ⟨_, rfl, L, us, rfl, SqL.of (by rw [upd_ne npL]; exact hL), for_enum (xs := us) (fun i σ H2 => ∃ (o2 o3 : Option V), σ = [some (.ref L), some (.ref p), o2, o3] ∧ Same H H2 ∧ H2 p = some (.lst ((allC (hs.take i)).map V.int)))
      ⟨none, none, rfl, (Same.refl H).upd hp, upd_same⟩ (fun i σ H2 _ ⟨_, _, _, h, _⟩ => SqL.of (h _ _ hL)) ?_ ?_⟩
    · rintro i x pp σ H2 hx ⟨o2, o3, rfl, s2, e2⟩ hpp
      obtain ⟨g, hg, hat⟩ := hv.get hx
      obtain ⟨ns, og⟩ := ok.ok g (List.mem_of_getElem? hg)
      have sP : Same H2 (upd H2 pp (.tup [.int i, x])) := (Same.refl H2).upd hpp
      refine ⟨pp, _, rfl, SqT.of upd_same, rfl, _, _, rfl, _, _, rfl, rfl, ?_⟩
      refine ⟨_, rfl, x, g, ns, rfl, HAt.same (s2.trans sP) hat, og, fun H3 s3 => ⟨_, rfl, iteF ?_⟩⟩
      have s23 : Same H2 H3 := sP.trans s3
      refine ⟨_, rfl, .inl ⟨rfl, _, SqL.of (s23 _ _ e2)⟩, ?_⟩
      refine ⟨_, rfl, x, g, ns, rfl, HAt.same (s2.trans s23) hat, og, fun D H4 s4 hD eD => ?_⟩
      have s24 := s23.trans s4
      have hsub : ∀ h ∈ hs.take (i + 1), h ∈ hs := fun h hh => List.mem_of_mem_take hh
      have hlt : (allC (hs.take (i + 1))).length ≤ 6 := by
        have h1 := ok.clen hsub
        have h2 := ok.len
        rw [List.length_take] at h1
        omega
      refine ⟨p, D, _, _, rfl, rfl, s24 _ _ e2, eD, ?_, ?_⟩
      · rw [← List.length_append, ← List.map_append, ← allC_take hg, List.length_map]
        exact Nat.le_of_lt (sl_lt (by omega))
      rw [← List.map_append, ← allC_take hg]
      have s5 : Same H (upd H4 p (.lst ((allC (hs.take (i + 1))).map V.int))) := (s2.trans s24).at hp
      have e5 : upd H4 p (.lst ((allC (hs.take (i + 1))).map V.int)) p = some (.lst ((allC (hs.take (i + 1))).map V.int)) := upd_same
      revert s5 e5
      generalize upd H4 p (.lst ((allC (hs.take (i + 1))).map V.int)) = H5
      intro s5 e5
      refine ⟨_, rfl, p, _, rfl, e5, by omega, fun q hq => ?_⟩
      have s6 : Same H5 (upd H5 q (SetO P w q (uniq (allC (hs.take (i + 1)))))) := (Same.refl H5).upd hq
      refine ⟨q, _, rfl, upd_same, _, _, rfl, rfl, _, rfl, iteDN (by have := ok.few hsub; omega) ?_⟩
      exact ⟨_, _, rfl, s5.trans s6, s6 _ _ e5⟩
    · rintro σ H2 ⟨o2, o3, rfl, s2, e2⟩
      exact k _ s2
end
end Mh
set_option Elab.async false
set_option linter.all false
set_option maxRecDepth 100000
set_option maxHeartbeats 1600000
namespace Mh
open PySem L2 PyProof.Rows
section
variable {P : Program} {w : World} {K : PySem.W.Frag} {mg : Str → Option Value} {base : Heap}
def sp_cells_of : Sp := fun vs H Q _ => ∃ L us hs S, vs = [.ref L] ∧ H L = some (.lst us) ∧ HsV H us hs ∧ okHs hs S ∧ ∀ (D : Addr) (ns : List Int) (H' : Hp), Same H H' → H D = none → H' D = some (.lst (ns.map V.int)) → ns.Perm (uniq (allC hs)) → ns.Pairwise (· ≤ ·) → Q (.ref D) H'
abbrev s_cells_of : Stmt := top 24
theorem sc_cells_of : FnScope ["harms", "cells", "harm"] ["harms"] (defScope s_cells_of) := ⟨rfl, rfl, rfl, by decide +kernel, rfl, by decide +kernel, by decide +kernel⟩
/- slots: 0 harms, 1 cells, 2 harm -/
theorem ok_cells_of (B : Bl mg) (z_set : mg "set" = none) (h_look_at_harms : Has P w K mg base 6 "look_at_harms" ["thing"] sp_look_at_harms) (h_cells_in : Has P w K mg base 1 "cells_in" ["harm"] sp_cells_in) (F : FnAt K mg "cells_of" s_cells_of ["harms"]) : Has P w K mg base 7 "cells_of" ["harms"] sp_cells_of := by
  refine Has.of F sc_cells_of (fun vs H Q E h => ?_) (fun f cdv A outer s H vs Q E hr h => ?_)
  · obtain ⟨L, us, hs, S, rfl, _⟩ := h
    rfl
  · obtain ⟨L, us, hs, S, rfl, hL, hv, ok, k⟩ := h
    have sc := sc_cells_of
    refine ⟨_, (pss_cons (ps_expr (pe_callH h_look_at_harms hr (pa_cons (pv 0) pa_nil)))
      (pss_cons (ps_set (i := 1) sc.nd rfl (Or.inl rfl) (pe_lst pa_nil))
      (pss_cons (ps_for PassesOwn.never rfl (pi_list (pv 0)) (pg_name (i := 2) sc.nd rfl (Or.inl rfl))
        (pss_one (ps_expr (pe_bm PySem.F.plainAttrs_list PySem.F.slot_list_extend PySem.F.type_list_extend mt_extend (pv 1) (pa_cons (pe_callH h_cells_in hr (pa_cons (pv 2) pa_nil)) pa_nil)))))
      (pss_one (ps_ret (pe_callB (call_sortSet rfl) rfl (B.of rfl) boot_sortedF (pa_cons (pe_callTy (call_setR rfl) rfl z_set boot_setT (pa_cons (pv 1) pa_nil)) pa_nil))))))), ?_⟩
    refine ⟨_, rfl, L, us, hs, S, rfl, hL, hv, ok, fun H1 s1 => ?_⟩
    refine ⟨Nat.zero_le _, fun p hp => ?_⟩
    have hp0 : H p = none := s1.free hp
    have npL : L ≠ p := ne_of_none hL hp0
    refine ⟨_, rfl, L, rfl, ⟨us, SqL.of (by rw [upd_ne npL]; exact s1 _ _ hL)⟩, for_list (xs := us) (fun i σ H2 => ∃ (o2 : Option V), σ = [some (.ref L), some (.ref p), o2] ∧ Same H H2 ∧ H2 p = some (.lst ((allC (hs.take i)).map V.int)))
      ⟨none, rfl, s1.upd hp, upd_same⟩ (fun i σ H2 _ ⟨_, _, h, _⟩ => SqL.of (h _ _ hL)) ?_ ?_⟩
    · rintro i x σ H2 hx ⟨o2, rfl, s2, e2⟩
      obtain ⟨g, hg, hat⟩ := hv.get hx
      obtain ⟨ns, og⟩ := ok.ok g (List.mem_of_getElem? hg)
      refine ⟨_, rfl, .inl ⟨rfl, _, SqL.of e2⟩, ?_⟩
      refine ⟨_, rfl, x, g, ns, rfl, HAt.same s2 hat, og, fun D H4 s4 hD eD => ?_⟩
      have hsub : ∀ h ∈ hs.take (i + 1), h ∈ hs := fun h hh => List.mem_of_mem_take hh
      have hlt : (allC (hs.take (i + 1))).length ≤ 6 := by
        have h1 := ok.clen hsub
        have h2 := ok.len
        rw [List.length_take] at h1
        omega
      refine ⟨p, D, _, _, rfl, rfl, s4 _ _ e2, eD, ?_, ?_⟩
      · rw [← List.length_append, ← List.map_append, ← allC_take hg, List.length_map]
        exact Nat.le_of_lt (sl_lt (by omega))
      rw [← List.map_append, ← allC_take hg]
      exact ⟨_, rfl, (s2.trans s4).at hp0, upd_same⟩
    · rintro σ H2 ⟨o2, rfl, s2, e2⟩
      rw [hv.len, List.take_length] at e2
      have hc := ok.clen (l := hs) (fun h hh => hh)
      have h3 := ok.len
      refine ⟨_, rfl, p, _, rfl, e2, by omega, fun q hq => ?_⟩
      have s6 : Same H2 (upd H2 q (SetO P w q (uniq (allC hs)))) := (Same.refl H2).upd hq
      refine ⟨q, _, rfl, upd_same, by have := ok.few (l := hs) (fun h hh => hh); omega, fun l ns hl hpm hso => ?_⟩
      exact k l ns _ ((s2.trans s6).upd hl) ((s2.trans s6).free hl) upd_same hpm hso
end
end Mh
set_option Elab.async false
set_option linter.all false
set_option maxRecDepth 100000
set_option maxHeartbeats 1600000
namespace Mh
open PySem L2 PyProof.Rows
def Hm.cell (h : Hm) (i : Nat) : Int := h.c.getD i 0
def Hm.bit (h : Hm) (i : Nat) : Int := match h.r.getD i .non with | .int v => v | _ => 0
theorem rest_bit {vs : List V} (h : Rest ["bit"] vs) : ∃ b, vs = [.int (b2i b)] := by
  cases h with
  | bit hb h =>
    cases h
    obtain ⟨b, rfl⟩ := hb
    exact ⟨b, rfl⟩
theorem rest_bits {vs : List V} (h : Rest ["bit", "bit"] vs) : ∃ b c, vs = [.int (b2i b), .int (b2i c)] := by
  cases h with
  | bit hb h =>
    obtain ⟨b, rfl⟩ := hb
    obtain ⟨c, rfl⟩ := rest_bit h
    exact ⟨b, c, rfl⟩
theorem rest_how {vs : List V} (h : Rest ["how"] vs) : ∃ v, vs = [v] ∧ howV v := by
  cases h with
  | how hb h =>
    cases h
    exact ⟨_, rfl, hb⟩
theorem map_str {ns ms : List Str} (h : ns.map V.str = ms.map V.str) : ns = ms := List.map_inj_right (fun _ _ e => V.str.inj e) |>.mp h
theorem cells_shape {h : Hm} {ns : List Str} (o : okH h ns) : (∃ a, h.c = [a]) ∨ ∃ a b, h.c = [a, b] := by
  obtain ⟨h1, h2⟩ := o.cl
  match hc : h.c with
  | [] => rw [hc] at h1; simp at h1
  | [a] => exact .inl ⟨a, rfl⟩
  | [a, b] => exact .inr ⟨a, b, rfl⟩
  | _ :: _ :: _ :: _ => rw [hc] at h2; simp at h2
theorem names_of {h : Hm} {ns N : List Str} (o : okH h ns) (hw : KTD.datumAt h.w tabP = some (N.map V.str)) : List.replicate h.c.length ("cell" : Str) ++ ns = N := by
  have e := Option.some.inj (o.tab.symm.trans hw)
  unfold namesOf at e
  apply map_str
  rw [← e, List.map_append, List.map_replicate]
theorem cell_ne_bit : ("cell" : Str) ≠ "bit" := by decide +kernel
theorem cell_ne_how : ("cell" : Str) ≠ "how" := by decide +kernel
theorem okH.s1 {h : Hm} {ns : List Str} (o : okH h ns) (hw : KTD.datumAt h.w tabP = some ((["cell", "bit"] : List Str).map V.str)) : ∃ a b, h.c = [a] ∧ h.r = [.int (b2i b)] := by
  have e := names_of o hw
  have hr := o.rest
  rcases cells_shape o with ⟨a, hc⟩ | ⟨a, b, hc⟩
  · rw [hc] at e
    obtain ⟨_, rfl⟩ := List.cons.inj e
    obtain ⟨b, hb⟩ := rest_bit hr
    exact ⟨a, b, hc, hb⟩
  · rw [hc] at e
    exact absurd (List.cons.inj (List.cons.inj e).2).1 cell_ne_bit
theorem okH.c2 {h : Hm} {ns N : List Str} (o : okH h ns) (hw : KTD.datumAt h.w tabP = some ((("cell" : Str) :: ("cell" : Str) :: N : List Str).map V.str)) (hN : ∀ n ∈ ns, n ≠ "cell") : ∃ a b, h.c = [a, b] ∧ ns = N := by
  have e := names_of o hw
  rcases cells_shape o with ⟨a, hc⟩ | ⟨a, b, hc⟩
  · rw [hc] at e
    have e2 := (List.cons.inj e).2
    exact absurd rfl (hN "cell" (by show ("cell" : Str) ∈ ns; rw [show ns = ("cell" : Str) :: N from e2]; simp))
  · rw [hc] at e
    exact ⟨a, b, hc, (List.cons.inj (List.cons.inj e).2).2⟩
theorem Rest.nocell {ns : List Str} {vs : List V} (h : Rest ns vs) : ∀ n ∈ ns, n ≠ "cell" := by
  induction h with
  | nil => intro n h; simp at h
  | bit _ _ ih =>
    intro n hn
    rcases List.mem_cons.mp hn with rfl | hn
    · exact cell_ne_bit.symm
    · exact ih n hn
  | how _ _ ih =>
    intro n hn
    rcases List.mem_cons.mp hn with rfl | hn
    · exact cell_ne_how.symm
    · exact ih n hn
theorem okH.sTurns {h : Hm} {ns : List Str} (o : okH h ns) (hw : KTD.datumAt h.w tabP = some ((["cell", "cell", "bit"] : List Str).map V.str)) : ∃ a b x, h.c = [a, b] ∧ h.r = [.int (b2i x)] := by
  obtain ⟨a, b, hc, rfl⟩ := o.c2 hw o.rest.nocell
  obtain ⟨x, hx⟩ := rest_bit o.rest
  exact ⟨a, b, x, hc, hx⟩
theorem okH.sSets {h : Hm} {ns : List Str} (o : okH h ns) (hw : KTD.datumAt h.w tabP = some ((["cell", "cell", "bit", "bit"] : List Str).map V.str)) : ∃ a b x y, h.c = [a, b] ∧ h.r = [.int (b2i x), .int (b2i y)] := by
  obtain ⟨a, b, hc, rfl⟩ := o.c2 hw o.rest.nocell
  obtain ⟨x, y, hx⟩ := rest_bits o.rest
  exact ⟨a, b, x, y, hc, hx⟩
theorem okH.sOther {h : Hm} {ns : List Str} (o : okH h ns) (hw : KTD.datumAt h.w tabP = some ((["cell", "cell"] : List Str).map V.str)) : ∃ a b, h.c = [a, b] ∧ h.r = [] := by
  obtain ⟨a, b, hc, rfl⟩ := o.c2 hw o.rest.nocell
  have := o.rest
  cases hr : h.r with
  | nil => exact ⟨a, b, hc, rfl⟩
  | cons v l => rw [hr] at this; cases this
theorem okH.sBoth {h : Hm} {ns : List Str} (o : okH h ns) (hw : KTD.datumAt h.w tabP = some ((["cell", "cell", "how"] : List Str).map V.str)) : ∃ a b v, h.c = [a, b] ∧ h.r = [v] ∧ howV v := by
  obtain ⟨a, b, hc, rfl⟩ := o.c2 hw o.rest.nocell
  obtain ⟨v, hv, hw⟩ := rest_how o.rest
  exact ⟨a, b, v, hc, hv, hw⟩
theorem okH.at1 {h : Hm} {ns : List Str} (o : okH h ns) : (hV h)[1]? = some (.int (h.cell 0)) := by
  rcases cells_shape o with ⟨a, hc⟩ | ⟨a, b, hc⟩ <;> (unfold hV Hm.cell; rw [hc]; rfl)
theorem tab_ones {s : Str} (h : s = "stuck" ∨ s = "slow" ∨ s = "forgets" ∨ s = "misreads" ∨ s = "nowhere") : KTD.datumAt s tabP = some ((["cell", "bit"] : List Str).map V.str) := by
  rcases h with rfl | rfl | rfl | rfl | rfl <;> decide +kernel
theorem tab_turns : KTD.datumAt ("turns" : Str) tabP = some ((["cell", "cell", "bit"] : List Str).map V.str) := by decide +kernel
theorem tab_sets {s : Str} (h : s = "sets" ∨ s = "keeps") : KTD.datumAt s tabP = some ((["cell", "cell", "bit", "bit"] : List Str).map V.str) := by
  rcases h with rfl | rfl <;> decide +kernel
theorem tab_other : KTD.datumAt ("other" : Str) tabP = some ((["cell", "cell"] : List Str).map V.str) := by decide +kernel
theorem tab_both : KTD.datumAt ("both" : Str) tabP = some ((["cell", "cell", "how"] : List Str).map V.str) := by decide +kernel
end Mh
set_option Elab.async false
set_option linter.all false
set_option maxRecDepth 100000
set_option maxHeartbeats 1600000
namespace Mh
open PySem L2 PyProof.Rows
def isStuck (cell : Int) (h : Hm) : Bool := h.w == "stuck" && h.cell 0 == cell
def stuckB (hs : List Hm) (cell : Int) : Option Int := (hs.find? (isStuck cell)).map (fun h => h.bit 0)
def optI : Option Int → V
  | none => .non
  | some b => .int b
def putM (hs : List Hm) (cs : List Int) (cell bit : Int) : List Int := if (stuckB hs cell).isNone then cs.set cell.toNat bit else cs
theorem find_take {α : Type} {p : α → Bool} {l : List α} {i : Nat} {x : α} (h0 : (l.take i).find? p = none) (hx : l[i]? = some x) :
    (p x = true → l.find? p = some x) ∧ (p x = false → (l.take (i + 1)).find? p = none) := by
  constructor
  · intro hp
    have hi := (List.getElem?_eq_some_iff.mp hx).1
    have e : l = l.take i ++ x :: l.drop (i + 1) := by
      have := List.getElem_cons_drop (as := l) (i := i) hi
      rw [(List.getElem?_eq_some_iff.mp hx).2] at this
      rw [this, List.take_append_drop]
    rw [e, List.find?_append, h0]
    simp [hp]
  · intro hp
    rw [List.take_add_one, hx, List.find?_append, h0]
    simp [hp]
def Oks (hs : List Hm) : Prop := ∀ h ∈ hs, ∃ ns, okH h ns
section
variable {P : Program} {w : World} {K : PySem.W.Frag} {mg : Str → Option Value} {base : Heap}
def sp_stuck_bit : Sp := fun vs H Q _ => ∃ L us hs cell, vs = [.ref L, .int cell] ∧ H L = some (.lst us) ∧ HsV H us hs ∧ Oks hs ∧ Q (optI (stuckB hs cell)) H
abbrev s_stuck_bit : Stmt := top 26
theorem sc_stuck_bit : FnScope ["harms", "cell", "harm"] ["harms", "cell"] (defScope s_stuck_bit) := ⟨rfl, rfl, rfl, by decide +kernel, rfl, by decide +kernel, by decide +kernel⟩
/- slots: 0 harms, 1 cell, 2 harm -/
theorem ok_stuck_bit (F : FnAt K mg "stuck_bit" s_stuck_bit ["harms", "cell"]) : Has P w K mg base 1 "stuck_bit" ["harms", "cell"] sp_stuck_bit := by
  refine Has.of F sc_stuck_bit (fun vs H Q E h => ?_) (fun f cdv A outer s H vs Q E hr h => ?_)
  · obtain ⟨L, us, hs, cell, rfl, _⟩ := h
    rfl
  · obtain ⟨L, us, hs, cell, rfl, hL, hv, ok, k⟩ := h
    have sc := sc_stuck_bit
    refine ⟨_, (pss_cons (ps_for PassesOwn.never rfl (pi_list (pv 0)) (pg_name (i := 2) sc.nd rfl (Or.inl rfl))
        (pss_one (ps_if (PW.pt (pw_and (pt_cmpR op_eq (pe_ix ix_tup (pv 2) pe_int (fun _ _ => rfl)) pe_str (nomark _)) (pw_and1 (pt_cmpR op_eq (pe_ix ix_tup (pv 2) pe_int (fun _ _ => rfl)) (pv 1) (nomark _)))))
          (pss_one (ps_ret (pe_ix ix_tup (pv 2) pe_int (fun _ _ => rfl))))
          pss_nil)))
      (pss_one (ps_ret pe_non))), ?_⟩
    refine ⟨_, rfl, L, rfl, ⟨us, SqL.of hL⟩, for_list (xs := us) (fun i σ H2 => ∃ (o2 : Option V), σ = [some (.ref L), some (.int cell), o2] ∧ H2 = H ∧ (hs.take i).find? (isStuck cell) = none)
      ⟨none, rfl, rfl, rfl⟩ (fun i σ H2 _ ⟨_, _, h, _⟩ => by subst h; exact SqL.of hL) ?_ ?_⟩
    · rintro i x σ H2 hx ⟨o2, rfl, rfl, hn⟩
      obtain ⟨g, hg, a, rfl, ha⟩ := hv.get hx
      obtain ⟨ns, og⟩ := ok g (List.mem_of_getElem? hg)
      obtain ⟨f1, f2⟩ := find_take hn hg
      refine ⟨_, rfl, a, _, _, _, rfl, rfl, SqT.of ha, atI_lit 0 rfl, rfl, _, rfl, ?_⟩
      by_cases hw : g.w = "stuck"
      · refine iteB (by rw [decide_eq_true_iff]; exact congrArg V.str hw) ?_
        refine ⟨_, rfl, a, _, _, _, rfl, rfl, SqT.of ha, atI_lit 1 og.at1, _, rfl, rfl, _, rfl, ?_⟩
        by_cases hc : g.cell 0 = cell
        · refine iteB (by rw [decide_eq_true_iff]; exact congrArg V.int hc) ?_
          obtain ⟨c, b, ec, er⟩ := og.s1 (tab_ones (.inl hw))
          refine ⟨_, rfl, a, _, _, _, rfl, rfl, SqT.of ha, atI_lit 2 (show (hV g)[2]? = some (.int (g.bit 0)) by unfold hV Hm.bit; rw [ec, er]; rfl), ?_⟩
          have := f1 (by unfold isStuck; rw [hw, hc]; simp)
          unfold stuckB at k
          rw [this] at k
          exact k
        · refine iteN (by rw [decide_eq_false_iff_not]; intro z; exact hc (V.int.inj z)) ?_
          exact ⟨_, rfl, rfl, f2 (by unfold isStuck; simp [hc])⟩
      · refine iteN (by rw [decide_eq_false_iff_not]; intro z; exact hw (V.str.inj z)) ?_
        exact ⟨_, rfl, rfl, f2 (by unfold isStuck; simp [hw])⟩
    · rintro σ H2 ⟨o2, rfl, rfl, hn⟩
      rw [hv.len, List.take_length] at hn
      unfold stuckB at k
      rw [hn] at k
      exact k
end
end Mh
set_option Elab.async false
set_option linter.all false
set_option maxRecDepth 100000
set_option maxHeartbeats 1600000
namespace Mh
open PySem L2 PyProof.Rows
def rd (cs : List Int) (c : Int) : Int := cs.getD c.toNat 0
theorem rd_at {cs : List Int} {c : Int} (h0 : 0 ≤ c) (h1 : c < cs.length) : atI (cs.map V.int) c = some (.int (rd cs c)) := by
  refine atI_int h0 ?_
  have : c.toNat < cs.length := by omega
  unfold rd
  rw [List.getElem?_map, List.getD_eq_getElem?_getD, List.getElem?_eq_getElem this]
  rfl
theorem ixN_in {n : Nat} {c : Int} (h0 : 0 ≤ c) (h1 : c < n) : ixN n c = some c.toNat := by
  unfold ixN
  rw [if_pos h0, if_pos h1]
theorem HAt.upd {H : Hp} {C : Addr} {xs ys : List V} {v : V} {h : Hm} (x : HAt H v h) (hC : H C = some (.lst xs)) : HAt (upd H C (.lst ys)) v h := by
  obtain ⟨a, rfl, ha⟩ := x
  exact ⟨a, rfl, by rw [upd_ne (fun z => by subst z; rw [hC] at ha; cases ha)]; exact ha⟩
theorem HsV.upd {H : Hp} {C : Addr} {xs ys us : List V} {hs : List Hm} (x : HsV H us hs) (hC : H C = some (.lst xs)) : HsV (L2.upd H C (.lst ys)) us hs := ⟨x.len, fun i v h a b => HAt.upd (x.at_ i v h a b) hC⟩
theorem upd_id {H : Hp} {C : Addr} {o : HO} (h : H C = some o) : upd H C o = H := by
  funext b
  by_cases e : b = C
  · subst e; rw [upd_same, h]
  · rw [upd_ne e]
theorem map_set (cs : List Int) (i : Nat) (b : Int) : (cs.map V.int).set i (.int b) = (cs.set i b).map V.int := by rw [List.map_set]
theorem putM_len (hs : List Hm) (cs : List Int) (c b : Int) : (putM hs cs c b).length = cs.length := by
  unfold putM
  split <;> simp
/-- harms in a list, cells in another one -/
structure Mem (H : Hp) (L C : Addr) (us : List V) (hs : List Hm) (cs : List Int) : Prop where
  ne : L ≠ C
  hl : H L = some (.lst us)
  hv : HsV H us hs
  ok : Oks hs
  hc : H C = some (.lst (cs.map V.int))
theorem Mem.upd {H : Hp} {L C : Addr} {us : List V} {hs : List Hm} {cs : List Int} (m : Mem H L C us hs cs) (ds : List Int) : Mem (L2.upd H C (.lst (ds.map V.int))) L C us hs ds :=
  ⟨m.ne, by rw [upd_ne m.ne]; exact m.hl, m.hv.upd m.hc, m.ok, upd_same⟩
theorem Mem.same {H H' : Hp} {L C : Addr} {us : List V} {hs : List Hm} {cs : List Int} (s : Same H H') (m : Mem H L C us hs cs) : Mem H' L C us hs cs :=
  ⟨m.ne, s _ _ m.hl, m.hv.same s, m.ok, s _ _ m.hc⟩
section
variable {P : Program} {w : World} {K : PySem.W.Frag} {mg : Str → Option Value} {base : Heap}
def sp_put : Sp := fun vs H Q _ => ∃ L C us hs cs cell bit, vs = [.ref L, .ref C, .int cell, .int bit] ∧ Mem H L C us hs cs ∧ 0 ≤ cell ∧ cell < cs.length ∧ Q .non (upd H C (.lst ((putM hs cs cell bit).map V.int)))
abbrev s_put : Stmt := top 27
theorem sc_put : FnScope ["harms", "cells", "cell", "bit"] ["harms", "cells", "cell", "bit"] (defScope s_put) := ⟨rfl, rfl, rfl, by decide +kernel, rfl, by decide +kernel, by decide +kernel⟩
/- slots: 0 harms, 1 cells, 2 cell, 3 bit -/
theorem ok_put (h_stuck_bit : Has P w K mg base 1 "stuck_bit" ["harms", "cell"] sp_stuck_bit) (F : FnAt K mg "put" s_put ["harms", "cells", "cell", "bit"]) : Has P w K mg base 2 "put" ["harms", "cells", "cell", "bit"] sp_put := by
  refine Has.of F sc_put (fun vs H Q E h => ?_) (fun f cdv A outer s H vs Q E hr h => ?_)
  · obtain ⟨L, C, us, hs, cs, cell, bit, rfl, _⟩ := h
    rfl
  · obtain ⟨L, C, us, hs, cs, cell, bit, rfl, m, h0, h1, k⟩ := h
    have sc := sc_put
    refine ⟨_, (pss_one (ps_if (pt_cmp (pc_isN (pe_callH h_stuck_bit hr (pa_cons (pv 0) (pa_cons (pv 2) pa_nil)))))
        (pss_one (ps_asg (pv 3) (pg_sub (pv 1) (pv 2) set_list)))
        pss_nil)), ?_⟩
    refine ⟨_, rfl, _, rfl, L, us, hs, cell, rfl, m.hl, m.hv, m.ok, ?_⟩
    unfold putM at k
    cases e : stuckB hs cell with
    | none =>
      rw [e] at k
      refine ⟨_, rfl, iteT ?_⟩
      refine ⟨_, rfl, _, rfl, _, rfl, C, _, cell, _, rfl, rfl, m.hc, ixN_in h0 (by simpa using h1), ?_⟩
      rw [map_set]
      exact k
    | some b =>
      rw [e] at k
      refine ⟨_, rfl, iteF ?_⟩
      rw [if_neg (by simp), upd_id m.hc] at k
      exact k
end
end Mh
set_option Elab.async false
set_option linter.all false
set_option maxRecDepth 100000
set_option maxHeartbeats 1600000
namespace Mh
open PySem L2 PyProof.Rows Mx
def stkN (hs : List Hm) (cs : List Int) : Nat → List Int
  | 0 => cs
  | n + 1 => match stuckB hs n with | some b => (stkN hs cs n).set n b | none => stkN hs cs n
theorem stkN_len (hs : List Hm) (cs : List Int) : ∀ n, (stkN hs cs n).length = cs.length
  | 0 => rfl
  | n + 1 => by
    have ih := stkN_len hs cs n
    unfold stkN
    split <;> simp [ih]
def keepOne (hs : List Hm) (cs : List Int) (h : Hm) : List Int := if h.w = "keeps" ∧ rd cs (h.cell 0) = h.bit 0 then putM hs cs (h.cell 1) (h.bit 1) else cs
theorem keepOne_len (hs : List Hm) (cs : List Int) (h : Hm) : (keepOne hs cs h).length = cs.length := by
  unfold keepOne
  split
  · exact putM_len _ _ _ _
  · rfl
def keepN (hs : List Hm) (l : List Hm) (cs : List Int) : List Int := l.foldl (keepOne hs) cs
theorem keepN_len (hs : List Hm) (l : List Hm) (cs : List Int) : (keepN hs l cs).length = cs.length := by
  induction l generalizing cs with
  | nil => rfl
  | cons a l ih => exact (ih _).trans (keepOne_len _ _ _)
theorem fold_take {α β : Type} (f : β → α → β) (b : β) {l : List α} {i : Nat} {x : α} (h : l[i]? = some x) : (l.take (i + 1)).foldl f b = f ((l.take i).foldl f b) x := by
  rw [List.take_add_one, h, List.foldl_append]
  rfl
def settleM (hs : List Hm) (cs : List Int) : List Int := keepN hs hs (stkN hs cs cs.length)
theorem settleM_len (hs : List Hm) (cs : List Int) : (settleM hs cs).length = cs.length := (keepN_len _ _ _).trans (stkN_len _ _ _)
def InR (hs : List Hm) (n : Nat) : Prop := ∀ h ∈ hs, ∀ c ∈ h.c, 0 ≤ c ∧ c < n
theorem InR.c0 {hs : List Hm} {n : Nat} (r : InR hs n) {h : Hm} (hh : h ∈ hs) {ns : List Str} (o : okH h ns) : 0 ≤ h.cell 0 ∧ h.cell 0 < n := by
  refine r h hh _ ?_
  rcases cells_shape o with ⟨a, hc⟩ | ⟨a, b, hc⟩ <;> (unfold Hm.cell; rw [hc]; simp)
theorem InR.c1 {hs : List Hm} {n : Nat} (r : InR hs n) {h : Hm} (hh : h ∈ hs) {a b : Int} (hc : h.c = [a, b]) : 0 ≤ h.cell 1 ∧ h.cell 1 < n := by
  refine r h hh _ ?_
  unfold Hm.cell
  rw [hc]
  simp
theorem two_at {h : Hm} {a b : Int} {l : List V} (hc : h.c = [a, b]) (hr : h.r = l) : hV h = .str h.w :: .int (h.cell 0) :: .int (h.cell 1) :: l := by
  unfold hV Hm.cell
  rw [hc, hr]
  rfl
theorem dS {a b : Str} : decide (V.str a = V.str b) = decide (a = b) := by
  by_cases h : a = b
  · subst h; simp
  · rw [decide_eq_false h, decide_eq_false (fun z => h (V.str.inj z))]
theorem dI {a b : Int} : decide (V.int a = V.int b) = decide (a = b) := by
  by_cases h : a = b
  · subst h; simp
  · rw [decide_eq_false h, decide_eq_false (fun z => h (V.int.inj z))]
section
variable {P : Program} {w : World} {K : PySem.W.Frag} {mg : Str → Option Value} {base : Heap}
def sp_settle : Sp := fun vs H Q _ => ∃ L C us hs cs, vs = [.ref L, .ref C] ∧ Mem H L C us hs cs ∧ InR hs cs.length ∧ cs.length ≤ 64 ∧ Q .non (upd H C (.lst ((settleM hs cs).map V.int)))
abbrev s_settle : Stmt := top 28
theorem sc_settle : FnScope ["harms", "cells", "cell", "bit", "harm"] ["harms", "cells"] (defScope s_settle) := ⟨rfl, rfl, rfl, by decide +kernel, rfl, by decide +kernel, by decide +kernel⟩
/- slots: 0 harms, 1 cells, 2 cell, 3 bit, 4 harm -/
theorem ok_settle (B : Bl mg) (h_stuck_bit : Has P w K mg base 1 "stuck_bit" ["harms", "cell"] sp_stuck_bit) (h_put : Has P w K mg base 2 "put" ["harms", "cells", "cell", "bit"] sp_put) (F : FnAt K mg "settle" s_settle ["harms", "cells"]) : Has P w K mg base 3 "settle" ["harms", "cells"] sp_settle := by
  refine Has.of F sc_settle (fun vs H Q E h => ?_) (fun f cdv A outer s H vs Q E hr h => ?_)
  · obtain ⟨L, C, us, hs, cs, rfl, _⟩ := h
    rfl
  · obtain ⟨L, C, us, hs, cs, rfl, m, hi, hcl, k⟩ := h
    have sc := sc_settle
    refine ⟨_, (pss_cons (ps_for PassesOwn.never rfl (pi_range1 rfl (B.of rfl) (pa_cons (pe_callB call_len_seq rfl (B.of rfl) boot_len (pa_cons (pv 1) pa_nil)) pa_nil)) (pg_name (i := 2) sc.nd rfl (Or.inl rfl))
        (pss_cons (ps_set (i := 3) sc.nd rfl (Or.inl rfl) (pe_callH h_stuck_bit hr (pa_cons (pv 0) (pa_cons (pv 2) pa_nil))))
        (pss_one (ps_if (pt_cmp (pc_notN (pv 3)))
          (pss_one (ps_asg (pv 3) (pg_sub (pv 1) (pv 2) set_list)))
          pss_nil))))
      (pss_one (ps_for PassesOwn.never rfl (pi_list (pv 0)) (pg_name (i := 4) sc.nd rfl (Or.inl rfl))
        (pss_one (ps_if (PW.pt (pw_and (pt_cmpR op_eq (pe_ix ix_tup (pv 4) pe_int (fun _ _ => rfl)) pe_str (nomark _)) (pw_and1 (pt_cmpR op_eq (pe_ix ix_list (pv 1) (pe_ix ix_tup (pv 4) pe_int (fun _ _ => rfl)) (fun _ _ => rfl)) (pe_ix ix_tup (pv 4) pe_int (fun _ _ => rfl)) (nomark _)))))
          (pss_one (ps_expr (pe_callH h_put hr (pa_nm (pv 0) (pa_nm (pv 1) (pa_cons (pe_ix ix_tup (pv 4) pe_int (fun _ _ => rfl)) (pa_cons (pe_ix ix_tup (pv 4) pe_int (fun _ _ => rfl)) pa_nil)))))))
          pss_nil))))), ?_⟩
    refine ⟨_, rfl, C, _, rfl, .inl (SqL.of m.hc), cs.length, (by rw [List.length_map]), (by omega), (by omega), for_range (n := cs.length) (fun i σ H2 => ∃ (o2 o3 : Option V), σ = [some (.ref L), some (.ref C), o2, o3, none] ∧ H2 = upd H C (.lst ((stkN hs cs i).map V.int)))
      ⟨none, none, rfl, (upd_id m.hc).symm⟩ ?_ ?_⟩
    · rintro i σ H2 hlt ⟨o2, o3, rfl, rfl⟩
      have m2 := m.upd (stkN hs cs i)
      rw [Int.zero_add]
      refine ⟨_, rfl, _, rfl, L, us, hs, i, rfl, m2.hl, m2.hv, m2.ok, ?_⟩
      cases e : stuckB hs i with
      | none =>
        refine ⟨_, rfl, _, rfl, iteF ?_⟩
        exact ⟨_, _, rfl, by rw [stkN, e]⟩
      | some b =>
        refine ⟨_, rfl, _, rfl, iteT ?_⟩
        refine ⟨_, rfl, _, rfl, _, rfl, C, _, i, _, rfl, rfl, m2.hc, ixN_in (by omega) (by rw [List.length_map, stkN_len]; omega), ?_⟩
        refine ⟨_, _, rfl, ?_⟩
        rw [show optI (some b) = V.int b from rfl, map_set, upd_upd, stkN, e]
        rfl
    · rintro σ H2 ⟨o2, o3, rfl, rfl⟩
      have m2 := m.upd (stkN hs cs cs.length)
      refine ⟨_, rfl, L, rfl, ⟨us, SqL.of m2.hl⟩, for_list (xs := us) (fun i σ H2 => ∃ (o4 : Option V), σ = [some (.ref L), some (.ref C), o2, o3, o4] ∧ H2 = upd H C (.lst ((keepN hs (hs.take i) (stkN hs cs cs.length)).map V.int)))
        ⟨none, rfl, rfl⟩ (fun i σ H2 _ ⟨_, _, h⟩ => by subst h; exact SqL.of (by rw [upd_ne m.ne]; exact m.hl)) ?_ ?_⟩
      · rintro i x σ H2 hx ⟨o4, rfl, rfl⟩
        have hlen := (keepN_len hs (hs.take i) (stkN hs cs cs.length)).trans (stkN_len hs cs cs.length)
        have m3 := m.upd (keepN hs (hs.take i) (stkN hs cs cs.length))
        have step : ∀ g, hs[i]? = some g → keepN hs (hs.take (i + 1)) (stkN hs cs cs.length) = keepOne hs (keepN hs (hs.take i) (stkN hs cs cs.length)) g := fun g hg => fold_take _ _ hg
        revert hlen m3 step
        generalize keepN hs (hs.take i) (stkN hs cs cs.length) = ds
        intro hlen m3 step
        obtain ⟨g, hg, a, rfl, ha⟩ := m3.hv.get hx
        have hgm := List.mem_of_getElem? hg
        obtain ⟨ns, og⟩ := m.ok g hgm
        rw [step g hg]
        unfold keepOne
        refine ⟨_, rfl, a, _, _, _, rfl, rfl, SqT.of ha, atI_lit 0 rfl, rfl, _, rfl, ?_⟩
        rw [dS]
        by_cases hw : g.w = "keeps"
        · refine iteB (decide_eq_true hw) ?_
          obtain ⟨c1, c2, x1, x2, ec, er⟩ := og.sSets (tab_sets (.inr hw))
          have hb0 : g.bit 0 = b2i x1 := by unfold Hm.bit; rw [er]; rfl
          have hb1 : g.bit 1 = b2i x2 := by unfold Hm.bit; rw [er]; rfl
          rw [← hb0, ← hb1] at er
          have ht := two_at ec er
          have c0 := hi.c0 hgm og
          have c1 := hi.c1 hgm ec
          rw [ht] at ha
          refine ⟨_, rfl, _, rfl, a, _, _, _, rfl, rfl, SqT.of ha, atI_lit 1 rfl, C, _, _, _, rfl, rfl, SqL.of m3.hc, rd_at c0.1 (by omega), ?_⟩
          refine ⟨_, rfl, a, _, _, _, rfl, rfl, SqT.of ha, atI_lit 3 rfl, rfl, _, rfl, ?_⟩
          rw [dI]
          by_cases hb : rd ds (g.cell 0) = g.bit 0
          · refine iteB (decide_eq_true hb) ?_
            refine ⟨_, rfl, _, rfl, _, rfl, a, _, _, _, rfl, rfl, SqT.of ha, atI_lit 2 rfl, _, rfl, a, _, _, _, rfl, rfl, SqT.of ha, atI_lit 4 rfl, L, C, us, hs, ds, g.cell 1, g.bit 1, rfl, m3, c1.1, by omega, ?_⟩
            rw [upd_upd, if_pos ⟨hw, hb⟩]
            exact ⟨_, rfl, rfl⟩
          · refine iteN (decide_eq_false hb) ?_
            rw [if_neg (fun z => hb z.2)]
            exact ⟨_, rfl, rfl⟩
        · refine iteN (decide_eq_false hw) ?_
          rw [if_neg (fun z => hw z.1)]
          exact ⟨_, rfl, rfl⟩
      · rintro σ H2 ⟨o4, rfl, rfl⟩
        rw [m.hv.len, List.take_length]
        exact k
end
end Mh
set_option Elab.async false
set_option linter.all false
set_option maxRecDepth 100000
set_option maxHeartbeats 1600000
namespace Mh
open PySem L2 PyProof.Rows Mx
/-- all stays but what lies at C -/
structure UpC (H : Hp) (C : Addr) (ds : List Int) (H' : Hp) : Prop where
  st : ∀ b u, b ≠ C → H b = some u → H' b = some u
  at_ : H' C = some (.lst (ds.map V.int))
theorem UpC.same {H H' H2 : Hp} {C : Addr} {ds : List Int} (u : UpC H C ds H') (s : Same H' H2) : UpC H C ds H2 := ⟨fun b o h e => s _ _ (u.st b o h e), s _ _ u.at_⟩
theorem UpC.trans {H H' H2 : Hp} {C : Addr} {ds es : List Int} (u : UpC H C ds H') (v : UpC H' C es H2) : UpC H C es H2 := ⟨fun b o h e => v.st b o h (u.st b o h e), v.at_⟩
theorem UpC.of {H H' : Hp} {C : Addr} {cs : List Int} (s : Same H H') (h : H C = some (.lst (cs.map V.int))) : UpC H C cs H' := ⟨fun b o _ e => s _ _ e, s _ _ h⟩
theorem UpC.put {H : Hp} {C : Addr} {ds : List Int} : UpC H C ds (upd H C (.lst (ds.map V.int))) := ⟨fun b o h e => by rw [upd_ne h]; exact e, upd_same⟩
theorem UpC.hat {H H' : Hp} {C : Addr} {cs ds : List Int} {v : V} {h : Hm} (u : UpC H C ds H') (hc : H C = some (.lst (cs.map V.int))) (x : HAt H v h) : HAt H' v h := by
  obtain ⟨a, rfl, ha⟩ := x
  exact ⟨a, rfl, u.st a _ (fun z => by subst z; rw [hc] at ha; cases ha) ha⟩
theorem Mem.upC {H H' : Hp} {L C : Addr} {us : List V} {hs : List Hm} {cs ds : List Int} (m : Mem H L C us hs cs) (u : UpC H C ds H') : Mem H' L C us hs ds :=
  ⟨m.ne, u.st _ _ m.ne m.hl, ⟨m.hv.len, fun i v h a b => u.hat m.hc (m.hv.at_ i v h a b)⟩, m.ok, u.at_⟩
def isAddr (a : Int) (h : Hm) : Bool := decide ((h.w = "nowhere" ∨ h.w = "other" ∨ h.w = "both") ∧ h.cell 0 = a)
def addrH (hs : List Hm) (a : Int) : Option Hm := hs.find? (isAddr a)
def OpH (H : Hp) (v : V) : Option Hm → Prop
  | none => v = .non
  | some h => HAt H v h
theorem eqS {a s : Str} : (eqV (.str a) (.str s) = true) = (s = a) := by
  show ((a == s) = true) = _
  rw [beq_iff_eq]
  exact propext eq_comm
theorem in3 {s a b c : Str} : inV (.str s) [.str a, .str b, .str c] = decide (s = a ∨ s = b ∨ s = c) := by
  unfold inV
  rw [Bool.eq_iff_iff]
  simp [eqS]
theorem in2 {s a b : Str} : inV (.str s) [.str a, .str b] = decide (s = a ∨ s = b) := by
  unfold inV
  rw [Bool.eq_iff_iff]
  simp [eqS]
section
variable {P : Program} {w : World} {K : PySem.W.Frag} {mg : Str → Option Value} {base : Heap}
def sp_harm_of_address : Sp := fun vs H Q _ => ∃ L us hs a, vs = [.ref L, .int a] ∧ H L = some (.lst us) ∧ HsV H us hs ∧ Oks hs ∧ ∀ v H', Same H H' → OpH H v (addrH hs a) → Q v H'
abbrev s_harm_of_address : Stmt := top 29
theorem sc_harm_of_address : FnScope ["harms", "address", "harm"] ["harms", "address"] (defScope s_harm_of_address) := ⟨rfl, rfl, rfl, by decide +kernel, rfl, by decide +kernel, by decide +kernel⟩
/- slots: 0 harms, 1 address, 2 harm -/
theorem ok_harm_of_address (F : FnAt K mg "harm_of_address" s_harm_of_address ["harms", "address"]) : Has P w K mg base 1 "harm_of_address" ["harms", "address"] sp_harm_of_address := by
  refine Has.of F sc_harm_of_address (fun vs H Q E h => ?_) (fun f cdv A outer s H vs Q E hr h => ?_)
  · obtain ⟨L, us, hs, a, rfl, _⟩ := h
    rfl
  · obtain ⟨L, us, hs, ad, rfl, hL, hv, ok, k⟩ := h
    have sc := sc_harm_of_address
    refine ⟨_, (pss_cons (ps_for PassesOwn.never rfl (pi_list (pv 0)) (pg_name (i := 2) sc.nd rfl (Or.inl rfl))
        (pss_one (ps_if (PW.pt (pw_and (pt_cmpR op_in_seq (pe_ix ix_tup (pv 2) pe_int (fun _ _ => rfl)) (pe_tup (pa_cons pe_str (pa_cons pe_str (pa_cons pe_str pa_nil)))) (by with_unfolding_all rfl)) (pw_and1 (pt_cmpR op_eq (pe_ix ix_tup (pv 2) pe_int (fun _ _ => rfl)) (pv 1) (nomark _)))))
          (pss_one (ps_ret (pv 2)))
          pss_nil)))
      (pss_one (ps_ret pe_non))), ?_⟩
    refine ⟨_, rfl, L, rfl, ⟨us, SqL.of hL⟩, for_list (xs := us) (fun i σ H2 => ∃ (o2 : Option V), σ = [some (.ref L), some (.int ad), o2] ∧ Same H H2 ∧ (hs.take i).find? (isAddr ad) = none)
      ⟨none, rfl, Same.refl H, rfl⟩ (fun i σ H2 _ ⟨_, _, h, _⟩ => SqL.of (h _ _ hL)) ?_ ?_⟩
    · rintro i x σ H2 hx ⟨o2, rfl, s2, hn⟩
      obtain ⟨g, hg, hat⟩ := hv.get hx
      obtain ⟨a, rfl, ha⟩ := id hat
      obtain ⟨ns, og⟩ := ok g (List.mem_of_getElem? hg)
      obtain ⟨f1, f2⟩ := find_take hn hg
      have ha2 := s2 _ _ ha
      refine ⟨_, rfl, a, _, _, _, rfl, rfl, SqT.of ha2, atI_lit 0 rfl, (by show 3 ≤ sizeLine; decide), fun p hp => ⟨p, _, rfl, .inr (SqT.of upd_same), rfl, rfl, _, rfl, ?_⟩⟩
      rw [in3]
      have s3 : Same H (upd H2 p (.tup [.str "nowhere", .str "other", .str "both"])) := s2.upd hp
      revert s3
      generalize upd H2 p (.tup [.str "nowhere", .str "other", .str "both"]) = H3
      intro s3
      by_cases hw : g.w = "nowhere" ∨ g.w = "other" ∨ g.w = "both"
      · refine iteD hw ?_
        refine ⟨_, rfl, a, _, _, _, rfl, rfl, SqT.of (s3 _ _ ha), atI_lit 1 og.at1, _, rfl, rfl, _, rfl, ?_⟩
        rw [dI]
        by_cases hc : g.cell 0 = ad
        · refine iteD hc ?_
          refine ⟨_, rfl, k _ _ s3 ?_⟩
          unfold addrH
          rw [f1 (decide_eq_true ⟨hw, hc⟩)]
          exact hat
        · refine iteDN hc ?_
          exact ⟨_, rfl, s3, f2 (decide_eq_false (fun z => hc z.2))⟩
      · refine iteDN hw ?_
        exact ⟨_, rfl, s3, f2 (decide_eq_false (fun z => hw z.1))⟩
    · rintro σ H2 ⟨o2, rfl, s2, hn⟩
      rw [hv.len, List.take_length] at hn
      refine k _ _ s2 ?_
      unfold addrH
      rw [hn]
      rfl
def reach (o : Option Hm) (a : Int) : List Int :=
  match o with
  | none => [a]
  | some h => if h.w = "nowhere" then [] else if h.w = "other" then [h.cell 1] else [a, h.cell 1]
theorem addrH_some {hs : List Hm} {a : Int} {h : Hm} (e : addrH hs a = some h) : h ∈ hs ∧ (h.w = "nowhere" ∨ h.w = "other" ∨ h.w = "both") ∧ h.cell 0 = a :=
  ⟨List.mem_of_find?_eq_some e, of_decide_eq_true (List.find?_some (p := isAddr a) e)⟩
def sp_reached_cells : Sp := fun vs H Q _ => ∃ v o a, vs = [v, .int a] ∧ OpH H v o ∧ (∀ h, o = some h → (h.w = "nowhere" ∨ h.w = "other" ∨ h.w = "both") ∧ ∃ ns, okH h ns) ∧ ∀ D H', Same H H' → H D = none → H' D = some (.lst ((reach o a).map V.int)) → Q (.ref D) H'
abbrev s_reached_cells : Stmt := top 30
theorem sc_reached_cells : FnScope ["harm", "address"] ["harm", "address"] (defScope s_reached_cells) := ⟨rfl, rfl, rfl, by decide +kernel, rfl, by decide +kernel, by decide +kernel⟩
/- slots: 0 harm, 1 address -/
theorem ok_reached_cells (F : FnAt K mg "reached_cells" s_reached_cells ["harm", "address"]) : Has P w K mg base 1 "reached_cells" ["harm", "address"] sp_reached_cells := by
  refine Has.of F sc_reached_cells (fun vs H Q E h => ?_) (fun f cdv A outer s H vs Q E hr h => ?_)
  · obtain ⟨v, o, a, rfl, _⟩ := h
    rfl
  · obtain ⟨v, o, ad, rfl, ho, hk, k⟩ := h
    have sc := sc_reached_cells
    refine ⟨_, (pss_cons (ps_if (pt_cmp (pc_isN (pv 0)))
        (pss_one (ps_ret (pe_lst (pa_cons (pv 1) pa_nil))))
        pss_nil)
      (pss_cons (ps_if (pt_cmpR op_eq (pe_ix ix_tup (pv 0) pe_int (fun _ _ => rfl)) pe_str (nomark _))
        (pss_one (ps_ret (pe_lst pa_nil)))
        pss_nil)
      (pss_cons (ps_if (pt_cmpR op_eq (pe_ix ix_tup (pv 0) pe_int (fun _ _ => rfl)) pe_str (nomark _))
        (pss_one (ps_ret (pe_lst (pa_cons (pe_ix ix_tup (pv 0) pe_int (fun _ _ => rfl)) pa_nil))))
        pss_nil)
      (pss_one (ps_ret (pe_lst (pa_cons (pv 1) (pa_cons (pe_ix ix_tup (pv 0) pe_int (fun _ _ => rfl)) pa_nil)))))))), ?_⟩
    cases o with
    | none =>
      cases ho
      refine ⟨_, rfl, _, rfl, iteT ?_⟩
      refine ⟨_, rfl, (by show 1 ≤ sizeLine; decide), fun p hp => ?_⟩
      exact k p _ ((Same.refl H).upd hp) hp upd_same
    | some g =>
      obtain ⟨a, rfl, ha⟩ := ho
      obtain ⟨hw, ns, og⟩ := hk g rfl
      refine ⟨_, rfl, _, rfl, iteF ?_⟩
      refine ⟨_, rfl, a, _, _, _, rfl, rfl, SqT.of ha, atI_lit 0 rfl, rfl, _, rfl, ?_⟩
      rw [dS]
      by_cases h1 : g.w = "nowhere"
      · refine iteD h1 ?_
        refine ⟨Nat.zero_le _, fun p hp => k p _ ((Same.refl H).upd hp) hp ?_⟩
        rw [upd_same]
        unfold reach
        simp [h1]
      refine iteDN h1 ?_
      refine ⟨_, rfl, a, _, _, _, rfl, rfl, SqT.of ha, atI_lit 0 rfl, rfl, _, rfl, ?_⟩
      rw [dS]
      by_cases h2 : g.w = "other"
      · refine iteD h2 ?_
        obtain ⟨c1, c2, ec, er⟩ := og.sOther (h2 ▸ tab_other)
        rw [two_at ec er] at ha
        refine ⟨_, rfl, a, _, _, _, rfl, rfl, SqT.of ha, atI_lit 2 rfl, (by show 1 ≤ sizeLine; decide), fun p hp => k p _ ((Same.refl H).upd hp) hp ?_⟩
        rw [upd_same]
        unfold reach
        dsimp only
        rw [if_neg h1, if_pos h2]
        rfl
      refine iteDN h2 ?_
      have h3 : g.w = "both" := by
        rcases hw with h | h | h
        · exact absurd h h1
        · exact absurd h h2
        · exact h
      obtain ⟨c1, c2, v, ec, er, _⟩ := og.sBoth (h3 ▸ tab_both)
      rw [two_at ec er] at ha
      refine ⟨_, rfl, _, rfl, a, _, _, _, rfl, rfl, SqT.of ha, atI_lit 2 rfl, (by show 2 ≤ sizeLine; decide), fun p hp => k p _ ((Same.refl H).upd hp) hp ?_⟩
      rw [upd_same]
      unfold reach
      simp [h1, h2]
end
end Mh
set_option Elab.async false
set_option linter.all false
set_option maxRecDepth 100000
set_option maxHeartbeats 1600000
namespace Mh
open PySem L2 PyProof.Rows Mx
def isOdd (cell held : Int) (h : Hm) : Bool := decide ((h.w = "forgets" ∨ h.w = "misreads") ∧ h.cell 0 = cell ∧ h.bit 0 = held)
def readM (hs : List Hm) (cs : List Int) (cell : Int) : Int × List Int :=
  match hs.find? (isOdd cell (rd cs cell)) with
  | none => (rd cs cell, cs)
  | some h => (if h.w = "forgets" then rd cs cell else rd (putM hs cs cell (1 - rd cs cell)) cell, putM hs cs cell (1 - rd cs cell))
theorem readM_len (hs : List Hm) (cs : List Int) (c : Int) : (readM hs cs c).2.length = cs.length := by
  unfold readM
  split
  · rfl
  · exact putM_len _ _ _ _
theorem one_at {h : Hm} {a : Int} {b : Bool} (hc : h.c = [a]) (hr : h.r = [.int (b2i b)]) : hV h = [.str h.w, .int (h.cell 0), .int (h.bit 0)] := by
  unfold hV Hm.cell Hm.bit
  rw [hc, hr]
  rfl
section
variable {P : Program} {w : World} {K : PySem.W.Frag} {mg : Str → Option Value} {base : Heap}
def sp_read_cell : Sp := fun vs H Q _ => ∃ L C us hs cs cell, vs = [.ref L, .ref C, .int cell] ∧ Mem H L C us hs cs ∧ 0 ≤ cell ∧ cell < cs.length ∧ ∀ H', UpC H C (readM hs cs cell).2 H' → Q (.int (readM hs cs cell).1) H'
abbrev s_read_cell : Stmt := top 31
theorem sc_read_cell : FnScope ["harms", "cells", "cell", "held", "harm"] ["harms", "cells", "cell"] (defScope s_read_cell) := ⟨rfl, rfl, rfl, by decide +kernel, rfl, by decide +kernel, by decide +kernel⟩
/- slots: 0 harms, 1 cells, 2 cell, 3 held, 4 harm -/
theorem ok_read_cell (h_put : Has P w K mg base 2 "put" ["harms", "cells", "cell", "bit"] sp_put) (F : FnAt K mg "read_cell" s_read_cell ["harms", "cells", "cell"]) : Has P w K mg base 3 "read_cell" ["harms", "cells", "cell"] sp_read_cell := by
  refine Has.of F sc_read_cell (fun vs H Q E h => ?_) (fun f cdv A outer s H vs Q E hr h => ?_)
  · obtain ⟨L, C, us, hs, cs, cell, rfl, _⟩ := h
    rfl
  · obtain ⟨L, C, us, hs, cs, cell, rfl, m, h0, h1, k⟩ := h
    have sc := sc_read_cell
    refine ⟨_, (pss_cons (ps_set (i := 3) sc.nd rfl (Or.inl rfl) (pe_ix ix_list (pv 1) (pv 2) (fun _ _ => rfl)))
      (pss_cons (ps_for PassesOwn.never rfl (pi_list (pv 0)) (pg_name (i := 4) sc.nd rfl (Or.inl rfl))
        (pss_one (ps_if (PW.pt (pw_and (pt_cmpR op_in_seq (pe_ix ix_tup (pv 4) pe_int (fun _ _ => rfl)) (pe_tup (pa_cons pe_str (pa_cons pe_str pa_nil))) (by with_unfolding_all rfl)) (pw_and (pt_cmpR op_eq (pe_ix ix_tup (pv 4) pe_int (fun _ _ => rfl)) (pv 2) (nomark _)) (pw_and1 (pt_cmpR op_eq (pe_ix ix_tup (pv 4) pe_int (fun _ _ => rfl)) (pv 3) (nomark _))))))
          (pss_cons (ps_expr (pe_callH h_put hr (pa_nm (pv 0) (pa_nm (pv 1) (pa_nm (pv 2) (pa_cons (pe_op op_sub pe_int (pv 3)) pa_nil))))))
          (pss_one (ps_ret (pe_ifExp (pt_cmpR op_eq (pe_ix ix_tup (pv 4) pe_int (fun _ _ => rfl)) pe_str (nomark _)) (pv 3) (pe_ix ix_list (pv 1) (pv 2) (fun _ _ => rfl))))))
          pss_nil)))
      (pss_one (ps_ret (pv 3))))), ?_⟩
    refine ⟨_, rfl, _, rfl, C, _, _, _, rfl, rfl, SqL.of m.hc, rd_at h0 h1, ?_⟩
    refine ⟨_, rfl, L, rfl, ⟨us, SqL.of m.hl⟩, for_list (xs := us) (fun i σ H2 => ∃ (o2 : Option V), σ = [some (.ref L), some (.ref C), some (.int cell), some (.int (rd cs cell)), o2] ∧ Same H H2 ∧ (hs.take i).find? (isOdd cell (rd cs cell)) = none)
      ⟨none, rfl, Same.refl H, rfl⟩ (fun i σ H2 _ ⟨_, _, h, _⟩ => SqL.of (h _ _ m.hl)) ?_ ?_⟩
    · rintro i x σ H2 hx ⟨o2, rfl, s2, hn⟩
      obtain ⟨g, hg, a, rfl, ha⟩ := m.hv.get hx
      obtain ⟨ns, og⟩ := m.ok g (List.mem_of_getElem? hg)
      obtain ⟨f1, f2⟩ := find_take hn hg
      refine ⟨_, rfl, a, _, _, _, rfl, rfl, SqT.of (s2 _ _ ha), atI_lit 0 rfl, (by show 2 ≤ sizeLine; decide), fun p hp => ⟨p, _, rfl, .inr (SqT.of upd_same), rfl, rfl, _, rfl, ?_⟩⟩
      rw [in2]
      have s3 : Same H (upd H2 p (.tup [.str "forgets", .str "misreads"])) := s2.upd hp
      revert s3
      generalize upd H2 p (.tup [.str "forgets", .str "misreads"]) = H3
      intro s3
      by_cases hw : g.w = "forgets" ∨ g.w = "misreads"
      · refine iteD hw ?_
        obtain ⟨c, b, ec, er⟩ := og.s1 (tab_ones (by rcases hw with h | h <;> simp [h]))
        rw [one_at ec er] at ha
        have ha3 := s3 _ _ ha
        refine ⟨_, rfl, a, _, _, _, rfl, rfl, SqT.of ha3, atI_lit 1 rfl, _, rfl, rfl, _, rfl, ?_⟩
        rw [dI]
        by_cases hc : g.cell 0 = cell
        · refine iteD hc ?_
          refine ⟨_, rfl, a, _, _, _, rfl, rfl, SqT.of ha3, atI_lit 2 rfl, _, rfl, rfl, _, rfl, ?_⟩
          rw [dI]
          by_cases hb : g.bit 0 = rd cs cell
          · refine iteD hb ?_
            have e := f1 (decide_eq_true ⟨hw, hc, hb⟩)
            unfold readM at k
            rw [e] at k
            have m3 := m.same s3
            refine ⟨_, rfl, _, rfl, _, rfl, _, rfl, _, _, rfl, rfl, L, C, us, hs, cs, cell, 1 - rd cs cell, rfl, m3, h0, h1, ?_⟩
            have u3 : UpC H3 C (putM hs cs cell (1 - rd cs cell)) (upd H3 C (.lst ((putM hs cs cell (1 - rd cs cell)).map V.int))) := UpC.put
            have ha4 : upd H3 C (.lst ((putM hs cs cell (1 - rd cs cell)).map V.int)) a = _ := u3.st a _ (fun z => by subst z; rw [m3.hc] at ha3; cases ha3) ha3
            have u4 := (UpC.of s3 m.hc).trans u3
            revert u3 u4 ha4
            generalize upd H3 C (.lst ((putM hs cs cell (1 - rd cs cell)).map V.int)) = H4
            intro u3 ha4 u4
            refine ⟨_, rfl, a, _, _, _, rfl, rfl, SqT.of ha4, atI_lit 0 rfl, rfl, _, rfl, ?_⟩
            rw [dS]
            by_cases hf : g.w = "forgets"
            · refine iteD hf ?_
              have := k H4 u4
              dsimp only at this
              rw [if_pos hf] at this
              exact ⟨_, rfl, this⟩
            · refine iteDN hf ?_
              have := k H4 u4
              dsimp only at this
              rw [if_neg hf] at this
              exact ⟨_, rfl, _, rfl, C, _, _, _, rfl, rfl, SqL.of u4.at_, rd_at h0 (by rw [putM_len]; exact h1), this⟩
          · refine iteDN hb ?_
            exact ⟨_, rfl, s3, f2 (decide_eq_false (fun z => hb z.2.2))⟩
        · refine iteDN hc ?_
          exact ⟨_, rfl, s3, f2 (decide_eq_false (fun z => hc z.2.1))⟩
      · refine iteDN hw ?_
        exact ⟨_, rfl, s3, f2 (decide_eq_false (fun z => hw z.1))⟩
    · rintro σ H2 ⟨o2, rfl, s2, hn⟩
      rw [m.hv.len, List.take_length] at hn
      unfold readM at k
      rw [hn] at k
      exact ⟨_, rfl, k H2 (UpC.of s2 m.hc)⟩
end
end Mh
set_option Elab.async false
set_option linter.all false
set_option maxRecDepth 100000
set_option maxHeartbeats 1600000
namespace Mh
open PySem L2 PyProof.Rows Mx
def readsM (hs : List Hm) : List Int → List Int → List Int × List Int
  | [], cs => ([], cs)
  | c :: l, cs => ((readM hs cs c).1 :: (readsM hs l (readM hs cs c).2).1, (readsM hs l (readM hs cs c).2).2)
theorem readsM_len (hs : List Hm) : ∀ (l cs : List Int), (readsM hs l cs).2.length = cs.length
  | [], _ => rfl
  | c :: l, cs => (readsM_len hs l _).trans (readM_len hs cs c)
theorem readsM_fst (hs : List Hm) : ∀ (l cs : List Int), (readsM hs l cs).1.length = l.length
  | [], _ => rfl
  | c :: l, cs => congrArg (· + 1) (readsM_fst hs l _)
theorem readsM_snoc (hs : List Hm) (c : Int) : ∀ (l cs : List Int), readsM hs (l ++ [c]) cs = ((readsM hs l cs).1 ++ [(readM hs (readsM hs l cs).2 c).1], (readM hs (readsM hs l cs).2 c).2)
  | [], cs => rfl
  | d :: l, cs => by
    have ih := readsM_snoc hs c l (readM hs cs d).2
    show (_ :: (readsM hs (l ++ [c]) _).1, (readsM hs (l ++ [c]) _).2) = _
    rw [ih]
    rfl
def loI (a b : Int) : Int := if a ≤ b then a else b
def hiI (a b : Int) : Int := if a ≤ b then b else a
theorem lo_of {a b M : Int} (h : M ∈ [a, b]) (h2 : ∀ x ∈ [a, b], M ≤ x) : M = loI a b := by
  have h3 := h2 a (by simp)
  have h4 := h2 b (by simp)
  simp at h
  unfold loI
  split <;> omega
theorem hi_of {a b M : Int} (h : M ∈ [a, b]) (h2 : ∀ x ∈ [a, b], x ≤ M) : M = hiI a b := by
  have h3 := h2 a (by simp)
  have h4 := h2 b (by simp)
  simp at h
  unfold hiI
  split <;> omega
def isAnd (o : Option Hm) : Prop := ∃ h, o = some h ∧ h.r = [.str "and"]
open Classical in
noncomputable def valOf (o : Option Hm) : List Int → Int
  | [] => match o with | some h => h.bit 0 | none => 0
  | [b] => b
  | b :: c :: _ => if isAnd o then loI b c else hiI b c
noncomputable def readAt (hs : List Hm) (cs : List Int) (a : Int) : Int × List Int :=
  (valOf (addrH hs a) (readsM hs (reach (addrH hs a) a) cs).1, (readsM hs (reach (addrH hs a) a) cs).2)
theorem OpH.same {H H' : Hp} (s : Same H H') {v : V} : ∀ {o : Option Hm}, OpH H v o → OpH H' v o
  | none, h => h
  | some _, h => HAt.same s h
theorem UpC.new {H H' : Hp} {C p : Addr} {ds : List Int} {o : HO} (u : UpC H C ds H') (hp : H p = none) (hne : C ≠ p) : UpC H C ds (upd H' p o) :=
  ⟨fun b x h e => by
    rw [upd_ne (fun z => by subst z; rw [hp] at e; cases e)]
    exact u.st b x h e, by rw [upd_ne hne]; exact u.at_⟩
theorem reach_in {hs : List Hm} {n : Nat} (r : InR hs n) (ok : Oks hs) {a : Int} (h0 : 0 ≤ a) (h1 : a < n) : ∀ c ∈ reach (addrH hs a) a, 0 ≤ c ∧ c < n := by
  intro c hc
  unfold reach at hc
  cases e : addrH hs a with
  | none =>
    rw [e] at hc
    simp at hc
    subst hc
    exact ⟨h0, h1⟩
  | some h =>
    rw [e] at hc
    obtain ⟨hm, hw, _⟩ := addrH_some e
    obtain ⟨ns, o⟩ := ok h hm
    dsimp only at hc
    by_cases w1 : h.w = "nowhere"
    · rw [if_pos w1] at hc; simp at hc
    rw [if_neg w1] at hc
    by_cases w2 : h.w = "other"
    · rw [if_pos w2] at hc
      obtain ⟨c1, c2, ec, _⟩ := o.sOther (w2 ▸ tab_other)
      simp at hc
      subst hc
      exact r.c1 hm ec
    · rw [if_neg w2] at hc
      have h3 : h.w = "both" := by
        rcases hw with h | h | h
        · exact absurd h w1
        · exact absurd h w2
        · exact h
      obtain ⟨c1, c2, v, ec, _⟩ := o.sBoth (h3 ▸ tab_both)
      simp at hc
      rcases hc with rfl | rfl
      · exact ⟨h0, h1⟩
      · exact r.c1 hm ec
theorem reach_len {o : Option Hm} {a : Int} : (reach o a).length ≤ 2 := by
  unfold reach
  split
  · simp
  · split
    · simp
    · split <;> simp
section
variable {P : Program} {w : World} {K : PySem.W.Frag} {mg : Str → Option Value} {base : Heap}
def sp_read_at : Sp := fun vs H Q _ => ∃ L C us hs cs a, vs = [.ref L, .ref C, .int a] ∧ Mem H L C us hs cs ∧ InR hs cs.length ∧ 0 ≤ a ∧ a < cs.length ∧ ∀ H', UpC H C (readAt hs cs a).2 H' → Q (.int (readAt hs cs a).1) H'
abbrev s_read_at : Stmt := top 32
theorem sc_read_at : FnScope ["harms", "cells", "address", "harm", "bits", "cell"] ["harms", "cells", "address"] (defScope s_read_at) := ⟨rfl, rfl, rfl, by decide +kernel, rfl, by decide +kernel, by decide +kernel⟩
/- slots: 0 harms, 1 cells, 2 address, 3 harm, 4 bits, 5 cell -/
theorem ok_read_at (B : Bl mg) (h_harm_of_address : Has P w K mg base 1 "harm_of_address" ["harms", "address"] sp_harm_of_address) (h_reached_cells : Has P w K mg base 1 "reached_cells" ["harm", "address"] sp_reached_cells) (h_read_cell : Has P w K mg base 3 "read_cell" ["harms", "cells", "cell"] sp_read_cell) (F : FnAt K mg "read_at" s_read_at ["harms", "cells", "address"]) : Has P w K mg base 4 "read_at" ["harms", "cells", "address"] sp_read_at := by
  refine Has.of F sc_read_at (fun vs H Q E h => ?_) (fun f cdv A outer s H vs Q E hr h => ?_)
  · obtain ⟨L, C, us, hs, cs, a, rfl, _⟩ := h
    rfl
  · obtain ⟨L, C, us, hs, cs, ad, rfl, m, hi, h0, h1, k⟩ := h
    have sc := sc_read_at
    refine ⟨_, (pss_cons (ps_set (i := 3) sc.nd rfl (Or.inl rfl) (pe_callH h_harm_of_address hr (pa_cons (pv 0) (pa_cons (pv 2) pa_nil))))
      (pss_cons (ps_set (i := 4) sc.nd rfl (Or.inl rfl) (pe_lst pa_nil))
      (pss_cons (ps_for PassesOwn.never rfl (pi_list (pe_callH h_reached_cells hr (pa_cons (pv 3) (pa_cons (pv 2) pa_nil)))) (pg_name (i := 5) sc.nd rfl (Or.inl rfl))
        (pss_one (ps_expr (pe_bm PySem.F.plainAttrs_list PySem.F.slot_list_append PySem.F.type_list_append mt_append (pv 4) (pa_cons (pe_callH h_read_cell hr (pa_cons (pv 0) (pa_cons (pv 1) (pa_cons (pv 5) pa_nil)))) pa_nil)))))
      (pss_cons (ps_if (pt_cmpR op_eq (pe_callB call_len_seq rfl (B.of rfl) boot_len (pa_cons (pv 4) pa_nil)) pe_int (nomark _))
        (pss_one (ps_ret (pe_ix ix_tup (pv 3) pe_int (fun _ _ => rfl))))
        pss_nil)
      (pss_cons (ps_if (pt_cmpR op_eq (pe_callB call_len_seq rfl (B.of rfl) boot_len (pa_cons (pv 4) pa_nil)) pe_int (nomark _))
        (pss_one (ps_ret (pe_ix ix_list (pv 4) pe_int (fun _ _ => rfl))))
        pss_nil)
      (pss_one (ps_ret (pe_ifExp (pt_cmpR op_eq (pe_ix ix_tup (pv 3) pe_int (fun _ _ => rfl)) pe_str (nomark _)) (pe_callB (call_minL rfl) rfl (B.of rfl) boot_min (pa_cons (pv 4) pa_nil)) (pe_callB (call_maxL rfl) rfl (B.of rfl) boot_max (pa_cons (pv 4) pa_nil)))))))))), ?_⟩
    refine ⟨_, rfl, _, rfl, L, us, hs, ad, rfl, m.hl, m.hv, m.ok, fun v H1 s1 hv => ?_⟩
    refine ⟨Nat.zero_le _, fun p hp => ?_⟩
    have hp0 : H p = none := s1.free hp
    have nCp : C ≠ p := ne_of_none m.hc hp0
    have s2 : Same H (upd H1 p (.lst [])) := s1.upd hp
    have e2 : upd H1 p (.lst []) p = some (.lst []) := upd_same
    revert s2 e2
    generalize upd H1 p (.lst []) = H2
    intro s2 e2
    have kp : ∀ h, addrH hs ad = some h → (h.w = "nowhere" ∨ h.w = "other" ∨ h.w = "both") ∧ ∃ ns, okH h ns := fun h e => ⟨(addrH_some e).2.1, m.ok h (addrH_some e).1⟩
    refine ⟨_, rfl, _, rfl, v, addrH hs ad, ad, rfl, hv.same s2, kp, fun D H3 s3 hD eD => ?_⟩
    have hD0 : H D = none := s2.free hD
    have nCD : C ≠ D := ne_of_none m.hc hD0
    have npD : p ≠ D := ne_of_none e2 hD
    have hin := reach_in hi m.ok h0 h1
    have hrl := reach_len (o := addrH hs ad) (a := ad)
    unfold readAt at k
    revert k hin hrl eD
    generalize hrc : reach (addrH hs ad) ad = rc
    intro k eD hin hrl
    refine ⟨D, rfl, ⟨_, SqL.of eD⟩, for_list (xs := rc.map V.int) (fun i σ H4 => ∃ (o5 : Option V), σ = [some (.ref L), some (.ref C), some (.int ad), some v, some (.ref p), o5] ∧ UpC H C (readsM hs (rc.take i) cs).2 H4 ∧ H4 p = some (.lst ((readsM hs (rc.take i) cs).1.map V.int)) ∧ H4 D = some (.lst (rc.map V.int)))
      ⟨none, rfl, UpC.of (s2.trans s3) m.hc, s3 _ _ e2, eD⟩ (fun i σ H4 _ ⟨_, _, _, _, h⟩ => SqL.of h) ?_ ?_⟩
    · rintro i x σ H4 hx ⟨o5, rfl, u4, e4, d4⟩
      obtain ⟨c, hc, rfl⟩ := map_get hx
      have hci := hin c (List.mem_of_getElem? hc)
      have hil := (List.getElem?_eq_some_iff.mp hc).1
      have m4 := m.upC u4
      refine ⟨_, rfl, .inl ⟨rfl, _, SqL.of e4⟩, _, rfl, _, rfl, _, rfl, L, C, us, hs, _, c, rfl, m4, hci.1, by rw [readsM_len]; exact hci.2, fun H5 u5 => ?_⟩
      refine ⟨p, _, _, rfl, rfl, u5.st p _ nCp.symm e4, sl_lt (by rw [List.length_map, readsM_fst, List.length_take]; omega), ?_⟩
      have es : readsM hs (rc.take (i + 1)) cs = ((readsM hs (rc.take i) cs).1 ++ [(readM hs (readsM hs (rc.take i) cs).2 c).1], (readM hs (readsM hs (rc.take i) cs).2 c).2) := by rw [List.take_add_one, hc]; exact readsM_snoc hs c (rc.take i) cs
      refine ⟨_, rfl, ?_, ?_, ?_⟩
      · rw [es]
        exact (u4.trans u5).new hp0 nCp
      · rw [es, upd_same]; simp
      · rw [upd_ne npD.symm]; exact u5.st D _ nCD.symm d4
    · rintro σ H4 ⟨o5, rfl, u4, e4, d4⟩
      rw [List.length_map, List.take_length] at u4 e4
      have k := k H4 u4
      have hfl := readsM_fst hs rc cs
      revert k e4 hfl
      generalize (readsM hs rc cs).1 = r1
      intro e4 k hfl
      have hO : OpH H4 v (addrH hs ad) := by
        cases e : addrH hs ad with
        | none => rw [e] at hv; exact hv
        | some h => rw [e] at hv; exact u4.hat m.hc hv
      refine ⟨_, rfl, p, _, rfl, .inl (SqL.of e4), rfl, _, rfl, ?_⟩
      rw [dI]
      match r1, k, e4, hfl with
      | [], k, e4, hfl =>
        refine iteD (by simp) ?_
        cases e : addrH hs ad with
        | none => rw [e] at hrc; subst hrc; simp [reach] at hfl
        | some h =>
          obtain ⟨hw, ns, oh⟩ := kp h e
          rw [e] at hO k hrc
          obtain ⟨a, rfl, ha⟩ := hO
          have hn : h.w = "nowhere" := by
            by_cases w1 : h.w = "nowhere"
            · exact w1
            unfold reach at hrc
            dsimp only at hrc
            rw [if_neg w1] at hrc
            by_cases w2 : h.w = "other"
            · rw [if_pos w2] at hrc; subst hrc; simp at hfl
            · rw [if_neg w2] at hrc; subst hrc; simp at hfl
          obtain ⟨c, b, ec, er⟩ := oh.s1 (tab_ones (by simp [hn]))
          rw [one_at ec er] at ha
          exact ⟨_, rfl, a, _, _, _, rfl, rfl, SqT.of ha, atI_lit 2 rfl, k⟩
      | [b], k, e4, hfl =>
        refine iteDN (by simp) ?_
        refine ⟨_, rfl, p, _, rfl, .inl (SqL.of e4), rfl, _, rfl, ?_⟩
        rw [dI]
        refine iteD (by simp) ?_
        exact ⟨_, rfl, p, _, _, _, rfl, rfl, SqL.of e4, atI_lit 0 rfl, k⟩
      | [b, c], k, e4, hfl =>
        refine iteDN (by simp) ?_
        refine ⟨_, rfl, p, _, rfl, .inl (SqL.of e4), rfl, _, rfl, ?_⟩
        rw [dI]
        refine iteDN (by simp) ?_
        cases e : addrH hs ad with
        | none => rw [e] at hrc; subst hrc; simp [reach] at hfl
        | some h =>
          obtain ⟨hw, ns, oh⟩ := kp h e
          rw [e] at hO k hrc
          obtain ⟨a, rfl, ha⟩ := hO
          have hb : h.w = "both" := by
            unfold reach at hrc
            dsimp only at hrc
            rcases hw with w | w | w
            · rw [if_pos w] at hrc; subst hrc; simp at hfl
            · by_cases w1 : h.w = "nowhere"
              · rw [if_pos w1] at hrc; subst hrc; simp at hfl
              · rw [if_neg w1, if_pos w] at hrc; subst hrc; simp at hfl
            · exact w
          obtain ⟨c1, c2, u, ec, er, hu⟩ := oh.sBoth (hb ▸ tab_both)
          rw [two_at ec er] at ha
          refine ⟨_, rfl, a, _, _, _, rfl, rfl, SqT.of ha, atI_lit 3 rfl, ?_⟩
          rcases hu with rfl | rfl
          · refine ⟨rfl, _, rfl, iteB (by decide +kernel) ?_⟩
            refine ⟨_, rfl, p, _, rfl, e4, by simp, fun M h1 h2 => ?_⟩
            rw [lo_of h1 h2]
            have : valOf (some h) [b, c] = loI b c := by
              unfold valOf
              dsimp only
              exact if_pos ⟨h, rfl, er⟩
            rw [← this]
            exact k
          · refine ⟨rfl, _, rfl, iteN (by decide +kernel) ?_⟩
            refine ⟨_, rfl, p, _, rfl, e4, by simp, fun M h1 h2 => ?_⟩
            rw [hi_of h1 h2]
            have : valOf (some h) [b, c] = hiI b c := by
              unfold valOf
              dsimp only
              refine if_neg ?_
              rintro ⟨h', e1, e2⟩
              cases e1
              rw [er] at e2
              have := V.str.inj (List.cons.inj e2).1
              exact absurd this (by decide +kernel)
            rw [← this]
            exact k
      | _ :: _ :: _ :: _, k, e4, hfl => simp at hfl; omega
end
end Mh
set_option Elab.async false
set_option linter.all false
set_option maxRecDepth 100000
set_option maxHeartbeats 1600000
namespace Mh
open PySem L2 PyProof.Rows Mx
def isKept (cs : List Int) (cell : Int) (h : Hm) : Bool := decide (h.w = "keeps" ∧ h.cell 1 = cell ∧ rd cs (h.cell 0) = h.bit 0)
def keptB (hs : List Hm) (cs : List Int) (cell bit : Int) : Int := match hs.find? (isKept cs cell) with | some h => h.bit 1 | none => bit
def actOne (hs : List Hm) (cell : Int) (cs : List Int) (h : Hm) : List Int :=
  if (h.w = "turns" ∨ h.w = "sets" ∨ h.w = "keeps") ∧ h.cell 0 = cell ∧ h.bit 0 = rd cs cell then putM hs cs (h.cell 1) (if h.w = "turns" then 1 - rd cs (h.cell 1) else h.bit 1) else cs
theorem actOne_len (hs : List Hm) (c : Int) (cs : List Int) (h : Hm) : (actOne hs c cs h).length = cs.length := by
  unfold actOne
  split
  · exact putM_len _ _ _ _
  · rfl
def actN (hs l : List Hm) (cell : Int) (cs : List Int) : List Int := l.foldl (actOne hs cell) cs
theorem actN_len (hs l : List Hm) (c : Int) (cs : List Int) : (actN hs l c cs).length = cs.length := by
  induction l generalizing cs with
  | nil => rfl
  | cons a l ih => exact (ih _).trans (actOne_len _ _ _ _)
theorem four_at {h : Hm} {a b : Int} {x y : Bool} (hc : h.c = [a, b]) (hr : h.r = [.int (b2i x), .int (b2i y)]) : hV h = [.str h.w, .int (h.cell 0), .int (h.cell 1), .int (h.bit 0), .int (h.bit 1)] := by
  unfold hV Hm.cell Hm.bit
  rw [hc, hr]
  rfl
theorem three_at {h : Hm} {a b : Int} {x : Bool} (hc : h.c = [a, b]) (hr : h.r = [.int (b2i x)]) : hV h = [.str h.w, .int (h.cell 0), .int (h.cell 1), .int (h.bit 0)] := by
  unfold hV Hm.cell Hm.bit
  rw [hc, hr]
  rfl
section
variable {P : Program} {w : World} {K : PySem.W.Frag} {mg : Str → Option Value} {base : Heap}
def sp_kept_bit : Sp := fun vs H Q _ => ∃ L C us hs cs cell bit, vs = [.ref L, .ref C, .int cell, .int bit] ∧ Mem H L C us hs cs ∧ InR hs cs.length ∧ Q (.int (keptB hs cs cell bit)) H
abbrev s_kept_bit : Stmt := top 34
theorem sc_kept_bit : FnScope ["harms", "cells", "cell", "bit", "harm"] ["harms", "cells", "cell", "bit"] (defScope s_kept_bit) := ⟨rfl, rfl, rfl, by decide +kernel, rfl, by decide +kernel, by decide +kernel⟩
/- slots: 0 harms, 1 cells, 2 cell, 3 bit, 4 harm -/
theorem ok_kept_bit (F : FnAt K mg "kept_bit" s_kept_bit ["harms", "cells", "cell", "bit"]) : Has P w K mg base 1 "kept_bit" ["harms", "cells", "cell", "bit"] sp_kept_bit := by
  refine Has.of F sc_kept_bit (fun vs H Q E h => ?_) (fun f cdv A outer s H vs Q E hr h => ?_)
  · obtain ⟨L, C, us, hs, cs, cell, bit, rfl, _⟩ := h
    rfl
  · obtain ⟨L, C, us, hs, cs, cell, bit, rfl, m, hi, k⟩ := h
    have sc := sc_kept_bit
    refine ⟨_, (pss_cons (ps_for PassesOwn.never rfl (pi_list (pv 0)) (pg_name (i := 4) sc.nd rfl (Or.inl rfl))
        (pss_one (ps_if (PW.pt (pw_and (pt_cmpR op_eq (pe_ix ix_tup (pv 4) pe_int (fun _ _ => rfl)) pe_str (nomark _)) (pw_and (pt_cmpR op_eq (pe_ix ix_tup (pv 4) pe_int (fun _ _ => rfl)) (pv 2) (nomark _)) (pw_and1 (pt_cmpR op_eq (pe_ix ix_list (pv 1) (pe_ix ix_tup (pv 4) pe_int (fun _ _ => rfl)) (fun _ _ => rfl)) (pe_ix ix_tup (pv 4) pe_int (fun _ _ => rfl)) (nomark _))))))
          (pss_one (ps_ret (pe_ix ix_tup (pv 4) pe_int (fun _ _ => rfl))))
          pss_nil)))
      (pss_one (ps_ret (pv 3)))), ?_⟩
    refine ⟨_, rfl, L, rfl, ⟨us, SqL.of m.hl⟩, for_list (xs := us) (fun i σ H2 => ∃ (o2 : Option V), σ = [some (.ref L), some (.ref C), some (.int cell), some (.int bit), o2] ∧ H2 = H ∧ (hs.take i).find? (isKept cs cell) = none)
      ⟨none, rfl, rfl, rfl⟩ (fun i σ H2 _ ⟨_, _, h, _⟩ => by subst h; exact SqL.of m.hl) ?_ ?_⟩
    · rintro i x σ H2 hx ⟨o2, rfl, rfl, hn⟩
      obtain ⟨g, hg, a, rfl, ha⟩ := m.hv.get hx
      have hgm := List.mem_of_getElem? hg
      obtain ⟨ns, og⟩ := m.ok g hgm
      obtain ⟨f1, f2⟩ := find_take hn hg
      refine ⟨_, rfl, a, _, _, _, rfl, rfl, SqT.of ha, atI_lit 0 rfl, rfl, _, rfl, ?_⟩
      rw [dS]
      by_cases hw : g.w = "keeps"
      · refine iteD hw ?_
        obtain ⟨c1, c2, x1, x2, ec, er⟩ := og.sSets (tab_sets (.inr hw))
        rw [four_at ec er] at ha
        have c0 := hi.c0 hgm og
        refine ⟨_, rfl, a, _, _, _, rfl, rfl, SqT.of ha, atI_lit 2 rfl, _, rfl, rfl, _, rfl, ?_⟩
        rw [dI]
        by_cases hc : g.cell 1 = cell
        · refine iteD hc ?_
          refine ⟨_, rfl, _, rfl, a, _, _, _, rfl, rfl, SqT.of ha, atI_lit 1 rfl, C, _, _, _, rfl, rfl, SqL.of m.hc, rd_at c0.1 c0.2, ?_⟩
          refine ⟨_, rfl, a, _, _, _, rfl, rfl, SqT.of ha, atI_lit 3 rfl, rfl, _, rfl, ?_⟩
          rw [dI]
          by_cases hb : rd cs (g.cell 0) = g.bit 0
          · refine iteD hb ?_
            refine ⟨_, rfl, a, _, _, _, rfl, rfl, SqT.of ha, atI_lit 4 rfl, ?_⟩
            unfold keptB at k
            rw [f1 (decide_eq_true ⟨hw, hc, hb⟩)] at k
            exact k
          · refine iteDN hb ?_
            exact ⟨_, rfl, rfl, f2 (decide_eq_false (fun z => hb z.2.2))⟩
        · refine iteDN hc ?_
          exact ⟨_, rfl, rfl, f2 (decide_eq_false (fun z => hc z.2.1))⟩
      · refine iteDN hw ?_
        exact ⟨_, rfl, rfl, f2 (decide_eq_false (fun z => hw z.1))⟩
    · rintro σ H2 ⟨o2, rfl, rfl, hn⟩
      rw [m.hv.len, List.take_length] at hn
      unfold keptB at k
      rw [hn] at k
      exact ⟨_, rfl, k⟩
def sp_act_on_others : Sp := fun vs H Q _ => ∃ L C us hs cs cell, vs = [.ref L, .ref C, .int cell] ∧ Mem H L C us hs cs ∧ InR hs cs.length ∧ 0 ≤ cell ∧ cell < cs.length ∧ ∀ H', UpC H C (actN hs hs cell cs) H' → Q .non H'
abbrev s_act_on_others : Stmt := top 35
theorem sc_act_on_others : FnScope ["harms", "cells", "cell", "harm"] ["harms", "cells", "cell"] (defScope s_act_on_others) := ⟨rfl, rfl, rfl, by decide +kernel, rfl, by decide +kernel, by decide +kernel⟩
/- slots: 0 harms, 1 cells, 2 cell, 3 harm -/
theorem ok_act_on_others (h_put : Has P w K mg base 2 "put" ["harms", "cells", "cell", "bit"] sp_put) (F : FnAt K mg "act_on_others" s_act_on_others ["harms", "cells", "cell"]) : Has P w K mg base 3 "act_on_others" ["harms", "cells", "cell"] sp_act_on_others := by
  refine Has.of F sc_act_on_others (fun vs H Q E h => ?_) (fun f cdv A outer s H vs Q E hr h => ?_)
  · obtain ⟨L, C, us, hs, cs, cell, rfl, _⟩ := h
    rfl
  · obtain ⟨L, C, us, hs, cs, cell, rfl, m, hi, h0, h1, k⟩ := h
    have sc := sc_act_on_others
    refine ⟨_, (pss_one (ps_for PassesOwn.never rfl (pi_list (pv 0)) (pg_name (i := 3) sc.nd rfl (Or.inl rfl))
        (pss_one (ps_if (PW.pt (pw_and (pt_cmpR op_in_seq (pe_ix ix_tup (pv 3) pe_int (fun _ _ => rfl)) (pe_tup (pa_cons pe_str (pa_cons pe_str (pa_cons pe_str pa_nil)))) (by with_unfolding_all rfl)) (pw_and (pt_cmpR op_eq (pe_ix ix_tup (pv 3) pe_int (fun _ _ => rfl)) (pv 2) (nomark _)) (pw_and1 (pt_cmpR op_eq (pe_ix ix_tup (pv 3) pe_int (fun _ _ => rfl)) (pe_ix ix_list (pv 1) (pv 2) (fun _ _ => rfl)) (nomark _))))))
          (pss_one (ps_expr (pe_callH h_put hr (pa_nm (pv 0) (pa_nm (pv 1) (pa_cons (pe_ix ix_tup (pv 3) pe_int (fun _ _ => rfl)) (pa_cons (pe_ifExp (pt_cmpR op_eq (pe_ix ix_tup (pv 3) pe_int (fun _ _ => rfl)) pe_str (nomark _)) (pe_op op_sub pe_int (pe_ix ix_list (pv 1) (pe_ix ix_tup (pv 3) pe_int (fun _ _ => rfl)) (fun _ _ => rfl))) (pe_ix ix_tup (pv 3) pe_int (fun _ _ => rfl))) pa_nil)))))))
          pss_nil)))), ?_⟩
    refine ⟨_, rfl, L, rfl, ⟨us, SqL.of m.hl⟩, for_list (xs := us) (fun i σ H2 => ∃ (o2 : Option V), σ = [some (.ref L), some (.ref C), some (.int cell), o2] ∧ UpC H C (actN hs (hs.take i) cell cs) H2)
      ⟨none, rfl, UpC.of (Same.refl H) m.hc⟩ (fun i σ H2 _ ⟨_, _, u⟩ => SqL.of (u.st _ _ m.ne m.hl)) ?_ ?_⟩
    · rintro i x σ H2 hx ⟨o2, rfl, u2⟩
      have m2 := m.upC u2
      have hlen := actN_len hs (hs.take i) cell cs
      have step : ∀ g, hs[i]? = some g → actN hs (hs.take (i + 1)) cell cs = actOne hs cell (actN hs (hs.take i) cell cs) g := fun g hg => fold_take _ _ hg
      revert u2 m2 hlen step
      generalize actN hs (hs.take i) cell cs = ds
      intro u2 m2 hlen step
      obtain ⟨g, hg, a, rfl, ha⟩ := m2.hv.get hx
      have hgm := List.mem_of_getElem? hg
      obtain ⟨ns, og⟩ := m.ok g hgm
      rw [step g hg]
      unfold actOne
      refine ⟨_, rfl, a, _, _, _, rfl, rfl, SqT.of ha, atI_lit 0 rfl, (by show 3 ≤ sizeLine; decide), fun p hp => ⟨p, _, rfl, .inr (SqT.of upd_same), rfl, rfl, _, rfl, ?_⟩⟩
      rw [in3]
      have s3 : Same H2 (upd H2 p (.tup [.str "turns", .str "sets", .str "keeps"])) := (Same.refl H2).upd hp
      revert s3
      generalize upd H2 p (.tup [.str "turns", .str "sets", .str "keeps"]) = H3
      intro s3
      have u3 := u2.same s3
      have m3 := m2.same s3
      have ha3 := s3 _ _ ha
      by_cases hw : g.w = "turns" ∨ g.w = "sets" ∨ g.w = "keeps"
      · refine iteD hw ?_
        have two : ∃ a b l, g.c = [a, b] ∧ hV g = .str g.w :: .int (g.cell 0) :: .int (g.cell 1) :: .int (g.bit 0) :: l ∧ (g.w ≠ "turns" → l = [.int (g.bit 1)]) := by
          rcases hw with hw | hw
          · obtain ⟨a, b, x, ec, er⟩ := og.sTurns (hw ▸ tab_turns)
            exact ⟨a, b, [], ec, three_at ec er, fun z => absurd hw z⟩
          · obtain ⟨a, b, x, y, ec, er⟩ := og.sSets (tab_sets hw)
            exact ⟨a, b, _, ec, four_at ec er, fun _ => rfl⟩
        obtain ⟨a1, b1, l, ec, ht, hl⟩ := two
        rw [ht] at ha3
        have c1 := hi.c1 hgm ec
        refine ⟨_, rfl, a, _, _, _, rfl, rfl, SqT.of ha3, atI_lit 1 rfl, _, rfl, rfl, _, rfl, ?_⟩
        rw [dI]
        by_cases hc : g.cell 0 = cell
        · refine iteD hc ?_
          refine ⟨_, rfl, a, _, _, _, rfl, rfl, SqT.of ha3, atI_lit 3 rfl, _, rfl, _, rfl, C, _, _, _, rfl, rfl, SqL.of m3.hc, rd_at h0 (by omega), rfl, _, rfl, ?_⟩
          rw [dI]
          by_cases hb : g.bit 0 = rd ds cell
          · refine iteD hb ?_
            rw [if_pos ⟨hw, hc, hb⟩]
            have fin : ∀ bit, (∃ o2, [some (V.ref L), some (.ref C), some (.int cell), some (.ref a)] = [some (V.ref L), some (.ref C), some (.int cell), o2] ∧ UpC H C (putM hs ds (g.cell 1) bit) (upd H3 C (.lst ((putM hs ds (g.cell 1) bit).map V.int)))) := fun bit => ⟨_, rfl, u3.trans UpC.put⟩
            refine ⟨_, rfl, _, rfl, _, rfl, a, _, _, _, rfl, rfl, SqT.of ha3, atI_lit 2 rfl, _, rfl, a, _, _, _, rfl, rfl, SqT.of ha3, atI_lit 0 rfl, rfl, _, rfl, ?_⟩
            rw [dS]
            by_cases ht : g.w = "turns"
            · refine iteD ht ?_
              rw [if_pos ht]
              refine ⟨_, rfl, _, rfl, a, _, _, _, rfl, rfl, SqT.of ha3, atI_lit 2 rfl, C, _, _, _, rfl, rfl, SqL.of m3.hc, rd_at c1.1 (by omega), _, _, rfl, rfl, L, C, us, hs, ds, g.cell 1, _, rfl, m3, c1.1, by omega, ?_⟩
              exact fin _
            · refine iteDN ht ?_
              rw [if_neg ht]
              rw [hl ht] at ha3
              refine ⟨_, rfl, a, _, _, _, rfl, rfl, SqT.of ha3, atI_lit 4 rfl, L, C, us, hs, ds, g.cell 1, _, rfl, m3, c1.1, by omega, ?_⟩
              exact fin _
          · refine iteDN hb ?_
            rw [if_neg (fun z => hb z.2.2)]
            exact ⟨_, rfl, u3⟩
        · refine iteDN hc ?_
          rw [if_neg (fun z => hc z.2.1)]
          exact ⟨_, rfl, u3⟩
      · refine iteDN hw ?_
        rw [if_neg (fun z => hw z.1)]
        exact ⟨_, rfl, u3⟩
    · rintro σ H2 ⟨o2, rfl, u2⟩
      rw [m.hv.len, List.take_length] at u2
      exact k H2 u2
end
end Mh
set_option Elab.async false
set_option linter.all false
set_option maxRecDepth 100000
set_option maxHeartbeats 1600000
namespace Mh
open PySem L2 PyProof.Rows Mx
theorem datum_mem {s : Str} {x : List V} : ∀ {D : List (Str × List V)}, KTD.datumAt s D = some x → s ∈ D.map (·.1)
  | [], h => by simp [KTD.datumAt] at h
  | (k, y) :: D, h => by
    unfold KTD.datumAt at h
    by_cases e : s = k
    · subst e; simp
    · simp [e] at h
      have := datum_mem h
      simp at this ⊢
      exact .inr this
theorem words_ok : ∀ s ∈ tabP.map (·.1), PyData.canLay0 (.str s) = true := by decide +kernel
theorem Rest.fl {ns : List Str} {vs : List V} (h : Rest ns vs) : Fl vs := by
  induction h with
  | nil => exact ⟨rfl, rfl⟩
  | bit hb _ ih =>
    obtain ⟨b, rfl⟩ := hb
    exact ⟨by rw [List.all_cons]; exact ih.1, by simpa [PyData.canLayAll0, dOf, PyData.canLay0] using ih.2⟩
  | how hb _ ih =>
    have e : PyData.canLay0 (.str "and") = true ∧ PyData.canLay0 (.str "or") = true := by decide +kernel
    rcases hb with rfl | rfl
    · exact ⟨by rw [List.all_cons]; exact ih.1, by simp only [List.map_cons, PyData.canLayAll0, dOf, e.1, Bool.true_and]; exact ih.2⟩
    · exact ⟨by rw [List.all_cons]; exact ih.1, by simp only [List.map_cons, PyData.canLayAll0, dOf, e.2, Bool.true_and]; exact ih.2⟩
theorem fl_ints (l : List Int) {vs : List V} (h : Fl vs) : Fl (l.map V.int ++ vs) := by
  induction l with
  | nil => exact h
  | cons a l ih => exact ⟨by show (V.int a :: (l.map V.int ++ vs)).all flatV = true; rw [List.all_cons]; exact ih.1, by simpa [PyData.canLayAll0, dOf, PyData.canLay0] using ih.2⟩
theorem okH.fl {h : Hm} {ns : List Str} (o : okH h ns) : Fl (hV h) := by
  have f := fl_ints h.c o.rest.fl
  unfold hV
  refine ⟨by rw [List.all_cons]; exact f.1, ?_⟩
  simp only [List.map_cons, PyData.canLayAll0, dOf, words_ok _ (datum_mem o.tab), Bool.true_and]
  exact f.2
def isSlow (cell bit : Int) (h : Hm) : Bool := decide (h.w = "slow" ∧ h.cell 0 = cell ∧ h.bit 0 = bit)
theorem slow_eq {h : Hm} {ns : List Str} (o : okH h ns) (cell bit : Int) : PyData.eqvAll ((hV h).map dOf) (([.str "slow", .int cell, .int bit] : List V).map dOf) = isSlow cell bit h := by
  unfold isSlow
  by_cases hw : h.w = "slow"
  · obtain ⟨a, b, ec, er⟩ := o.s1 (tab_ones (by simp [hw]))
    rw [one_at ec er, hw, Bool.eq_iff_iff]
    simp [PyData.eqvAll, PyData.eqv, dOf]
  · rw [decide_eq_false (fun z => hw z.1)]
    unfold hV
    simp [PyData.eqvAll, PyData.eqv, dOf, hw]
theorem HsV.any {H : Hp} {us : List V} {hs : List Hm} (x : HsV H us hs) {f : V → Bool} {g : Hm → Bool} (e : ∀ h ∈ hs, ∀ v, HAt H v h → f v = g h) : us.any f = hs.any g := by
  rw [Bool.eq_iff_iff, List.any_eq_true, List.any_eq_true]
  constructor
  · rintro ⟨v, hv, hf⟩
    obtain ⟨i, hi⟩ := List.getElem?_of_mem hv
    obtain ⟨h, hh, ha⟩ := x.get hi
    exact ⟨h, List.mem_of_getElem? hh, by rw [← e h (List.mem_of_getElem? hh) v ha]; exact hf⟩
  · rintro ⟨h, hh, hg⟩
    obtain ⟨i, hi⟩ := List.getElem?_of_mem hh
    have hil : i < us.length := by rw [x.len]; exact (List.getElem?_eq_some_iff.mp hi).1
    have ha := x.at_ i _ h (List.getElem?_eq_getElem hil) hi
    exact ⟨_, List.getElem_mem hil, by rw [e h hh _ ha]; exact hg⟩
theorem HsV.tups {H : Hp} {us : List V} {hs : List Hm} (x : HsV H us hs) (ok : Oks hs) : ∀ v ∈ us, ∃ a ys, v = .ref a ∧ H a = some (.tup ys) ∧ Fl ys := by
  intro v hv
  obtain ⟨i, hi⟩ := List.getElem?_of_mem hv
  obtain ⟨h, hh, a, rfl, ha⟩ := x.get hi
  obtain ⟨ns, o⟩ := ok h (List.mem_of_getElem? hh)
  exact ⟨a, _, rfl, ha, o.fl⟩
theorem fl_slow (cell bit : Int) : Fl [.str "slow", .int cell, .int bit] := by
  have e : PyData.canLay0 (.str "slow") = true := by decide +kernel
  exact ⟨rfl, by simp only [List.map_cons, List.map_nil, PyData.canLayAll0, dOf, e]; rfl⟩
def slowB (hs : List Hm) (cs : List Int) (cell bit : Int) : Bool := decide (rd cs cell ≠ bit) && hs.any (isSlow cell bit)
section
variable {P : Program} {w : World} {K : PySem.W.Frag} {mg : Str → Option Value} {base : Heap}
def sp_is_slow : Sp := fun vs H Q _ => ∃ L C us hs cs cell bit, vs = [.ref L, .ref C, .int cell, .int bit] ∧ Mem H L C us hs cs ∧ 0 ≤ cell ∧ cell < cs.length ∧ ∀ H', Same H H' → Q (.bl (slowB hs cs cell bit)) H'
abbrev s_is_slow : Stmt := top 33
theorem sc_is_slow : FnScope ["harms", "cells", "cell", "bit"] ["harms", "cells", "cell", "bit"] (defScope s_is_slow) := ⟨rfl, rfl, rfl, by decide +kernel, rfl, by decide +kernel, by decide +kernel⟩
/- slots: 0 harms, 1 cells, 2 cell, 3 bit -/
theorem ok_is_slow (F : FnAt K mg "is_slow" s_is_slow ["harms", "cells", "cell", "bit"]) : Has P w K mg base 1 "is_slow" ["harms", "cells", "cell", "bit"] sp_is_slow := by
  refine Has.of F sc_is_slow (fun vs H Q E h => ?_) (fun f cdv A outer s H vs Q E hr h => ?_)
  · obtain ⟨L, C, us, hs, cs, cell, bit, rfl, _⟩ := h
    rfl
  · obtain ⟨L, C, us, hs, cs, cell, bit, rfl, m, h0, h1, k⟩ := h
    have sc := sc_is_slow
    refine ⟨_, (pss_one (ps_ret (pe_and (pe_cmpR op_ne (pe_ix ix_list (pv 1) (pv 2) (fun _ _ => rfl)) (pv 3) (nomark _)) (pe_one (pe_cmpR (op_inT hr) (pe_tup (pa_cons pe_str (pa_cons (pv 2) (pa_cons (pv 3) pa_nil)))) (pv 0) (by with_unfolding_all rfl)))))), ?_⟩
    refine ⟨_, rfl, _, rfl, C, _, _, _, rfl, rfl, SqL.of m.hc, rd_at h0 h1, _, rfl, rfl, _, rfl, ?_⟩
    rw [dI]
    unfold slowB at k
    by_cases hb : rd cs cell = bit
    · refine iteN (by simp [hb]) ?_
      have := k H (Same.refl H)
      simp [hb] at this
      exact this
    · refine iteB (by simp [hb]) ?_
      refine ⟨_, rfl, _, rfl, (by show 3 ≤ sizeLine; decide), fun p hp => ⟨_, rfl, ?_⟩⟩
      have s2 : Same H (upd H p (.tup [.str "slow", .int cell, .int bit])) := (Same.refl H).upd hp
      have e2 : upd H p (.tup [.str "slow", .int cell, .int bit]) p = some (.tup [.str "slow", .int cell, .int bit]) := upd_same
      revert s2 e2
      generalize upd H p (.tup [.str "slow", .int cell, .int bit]) = H2
      intro s2 e2
      have m2 := m.same s2
      refine ⟨p, _, L, us, rfl, e2, fl_slow _ _, rfl, m2.hl, m2.hv.tups m2.ok, ?_⟩
      rw [m2.hv.any (g := isSlow cell bit) (fun h hh v hv => by
        obtain ⟨a, rfl, ha⟩ := hv
        obtain ⟨ns, o⟩ := m2.ok h hh
        unfold tEq
        dsimp only
        rw [ha]
        exact slow_eq o cell bit)]
      have := k H2 s2
      simp [hb] at this
      exact this
end
end Mh
set_option Elab.async false
set_option linter.all false
set_option maxRecDepth 100000
set_option maxHeartbeats 1600000
namespace Mh
open PySem L2 PyProof.Rows Mx
def writeM (hs : List Hm) (cs : List Int) (cell bit : Int) : List Int :=
  if slowB hs cs cell bit = true then cs
  else if rd (putM hs cs cell (keptB hs cs cell bit)) cell = rd cs cell then putM hs cs cell (keptB hs cs cell bit)
  else actN hs hs cell (putM hs cs cell (keptB hs cs cell bit))
theorem writeM_len (hs : List Hm) (cs : List Int) (c b : Int) : (writeM hs cs c b).length = cs.length := by
  unfold writeM
  split
  · rfl
  · split
    · exact putM_len _ _ _ _
    · exact (actN_len _ _ _ _).trans (putM_len _ _ _ _)
def writesM (hs : List Hm) (bit : Int) (l cs : List Int) : List Int := l.foldl (fun cs c => writeM hs cs c bit) cs
theorem writesM_len (hs : List Hm) (b : Int) (l cs : List Int) : (writesM hs b l cs).length = cs.length := by
  induction l generalizing cs with
  | nil => rfl
  | cons a l ih => exact (ih _).trans (writeM_len _ _ _ _)
def writeAt (hs : List Hm) (cs : List Int) (a bit : Int) : List Int := writesM hs bit (reach (addrH hs a) a) cs
section
variable {P : Program} {w : World} {K : PySem.W.Frag} {mg : Str → Option Value} {base : Heap}
def sp_write_cell : Sp := fun vs H Q _ => ∃ L C us hs cs cell bit, vs = [.ref L, .ref C, .int cell, .int bit] ∧ Mem H L C us hs cs ∧ InR hs cs.length ∧ 0 ≤ cell ∧ cell < cs.length ∧ ∀ H', UpC H C (writeM hs cs cell bit) H' → Q .non H'
abbrev s_write_cell : Stmt := top 36
theorem sc_write_cell : FnScope ["harms", "cells", "cell", "bit", "held"] ["harms", "cells", "cell", "bit"] (defScope s_write_cell) := ⟨rfl, rfl, rfl, by decide +kernel, rfl, by decide +kernel, by decide +kernel⟩
/- slots: 0 harms, 1 cells, 2 cell, 3 bit, 4 held -/
theorem ok_write_cell (h_is_slow : Has P w K mg base 1 "is_slow" ["harms", "cells", "cell", "bit"] sp_is_slow) (h_put : Has P w K mg base 2 "put" ["harms", "cells", "cell", "bit"] sp_put) (h_kept_bit : Has P w K mg base 1 "kept_bit" ["harms", "cells", "cell", "bit"] sp_kept_bit) (h_act_on_others : Has P w K mg base 3 "act_on_others" ["harms", "cells", "cell"] sp_act_on_others) (F : FnAt K mg "write_cell" s_write_cell ["harms", "cells", "cell", "bit"]) : Has P w K mg base 4 "write_cell" ["harms", "cells", "cell", "bit"] sp_write_cell := by
  refine Has.of F sc_write_cell (fun vs H Q E h => ?_) (fun f cdv A outer s H vs Q E hr h => ?_)
  · obtain ⟨L, C, us, hs, cs, cell, bit, rfl, _⟩ := h
    rfl
  · obtain ⟨L, C, us, hs, cs, cell, bit, rfl, m, hi, h0, h1, k⟩ := h
    have sc := sc_write_cell
    refine ⟨_, (pss_cons (ps_if (pt_val (pe_callH h_is_slow hr (pa_nm (pv 0) (pa_nm (pv 1) (pa_nm (pv 2) (pa_nm (pv 3) pa_nil))))))
        (pss_one ps_retN)
        pss_nil)
      (pss_cons (ps_set (i := 4) sc.nd rfl (Or.inl rfl) (pe_ix ix_list (pv 1) (pv 2) (fun _ _ => rfl)))
      (pss_cons (ps_expr (pe_callH h_put hr (pa_nm (pv 0) (pa_nm (pv 1) (pa_nm (pv 2) (pa_cl (pe_callH h_kept_bit hr (pa_nm (pv 0) (pa_nm (pv 1) (pa_nm (pv 2) (pa_nm (pv 3) pa_nil))))) pa_nil))))))
      (pss_one (ps_if (pt_cmpR op_ne (pe_ix ix_list (pv 1) (pv 2) (fun _ _ => rfl)) (pv 4) (nomark _))
        (pss_one (ps_expr (pe_callH h_act_on_others hr (pa_cons (pv 0) (pa_cons (pv 1) (pa_cons (pv 2) pa_nil))))))
        pss_nil))))), ?_⟩
    refine ⟨_, rfl, _, rfl, _, rfl, _, rfl, L, C, us, hs, cs, cell, bit, rfl, m, h0, h1, fun H1 s1 => ⟨_, rfl, ?_⟩⟩
    unfold writeM at k
    by_cases hsl : slowB hs cs cell bit = true
    · refine iteB hsl ?_
      rw [if_pos hsl] at k
      exact k H1 (UpC.of s1 m.hc)
    refine iteN (by simpa using hsl) ?_
    rw [if_neg hsl] at k
    have m1 := m.same s1
    refine ⟨_, rfl, _, rfl, C, _, _, _, rfl, rfl, SqL.of m1.hc, rd_at h0 h1, ?_⟩
    refine ⟨_, rfl, _, rfl, _, rfl, _, rfl, _, rfl, _, rfl, _, rfl, L, C, us, hs, cs, cell, bit, rfl, m1, hi, ?_⟩
    refine ⟨L, C, us, hs, cs, cell, _, rfl, m1, h0, h1, ?_⟩
    have hl := putM_len hs cs cell (keptB hs cs cell bit)
    revert k hl
    generalize putM hs cs cell (keptB hs cs cell bit) = ds
    intro k hl
    have u2 : UpC H1 C ds (upd H1 C (.lst (ds.map V.int))) := UpC.put
    revert u2
    generalize upd H1 C (.lst (ds.map V.int)) = H2
    intro u2
    have u : UpC H C ds H2 := (UpC.of s1 m.hc).trans u2
    have m2 := m.upC u
    refine ⟨_, rfl, _, rfl, C, _, _, _, rfl, rfl, SqL.of m2.hc, rd_at h0 (by omega), _, rfl, rfl, _, rfl, ?_⟩
    rw [dI]
    by_cases hb : rd ds cell = rd cs cell
    · refine iteN (by simp [hb]) ?_
      rw [if_pos hb] at k
      exact k H2 u
    · refine iteB (by simp [hb]) ?_
      rw [if_neg hb] at k
      refine ⟨_, rfl, _, rfl, _, rfl, L, C, us, hs, ds, cell, rfl, m2, by rw [hl]; exact hi, h0, by omega, fun H3 u3 => ?_⟩
      exact k H3 (u.trans u3)
def sp_write_at : Sp := fun vs H Q _ => ∃ L C us hs cs a bit, vs = [.ref L, .ref C, .int a, .int bit] ∧ Mem H L C us hs cs ∧ InR hs cs.length ∧ 0 ≤ a ∧ a < cs.length ∧ ∀ H', UpC H C (writeAt hs cs a bit) H' → Q .non H'
abbrev s_write_at : Stmt := top 37
theorem sc_write_at : FnScope ["harms", "cells", "address", "bit", "cell"] ["harms", "cells", "address", "bit"] (defScope s_write_at) := ⟨rfl, rfl, rfl, by decide +kernel, rfl, by decide +kernel, by decide +kernel⟩
/- slots: 0 harms, 1 cells, 2 address, 3 bit, 4 cell -/
theorem ok_write_at (h_harm_of_address : Has P w K mg base 1 "harm_of_address" ["harms", "address"] sp_harm_of_address) (h_reached_cells : Has P w K mg base 1 "reached_cells" ["harm", "address"] sp_reached_cells) (h_write_cell : Has P w K mg base 4 "write_cell" ["harms", "cells", "cell", "bit"] sp_write_cell) (F : FnAt K mg "write_at" s_write_at ["harms", "cells", "address", "bit"]) : Has P w K mg base 5 "write_at" ["harms", "cells", "address", "bit"] sp_write_at := by
  refine Has.of F sc_write_at (fun vs H Q E h => ?_) (fun f cdv A outer s H vs Q E hr h => ?_)
  · obtain ⟨L, C, us, hs, cs, a, bit, rfl, _⟩ := h
    rfl
  · obtain ⟨L, C, us, hs, cs, ad, bit, rfl, m, hi, h0, h1, k⟩ := h
    have sc := sc_write_at
    refine ⟨_, (pss_one (ps_for PassesOwn.never rfl (pi_list (pe_callH h_reached_cells hr (pa_cons (pe_callH h_harm_of_address hr (pa_cons (pv 0) (pa_cons (pv 2) pa_nil))) (pa_cons (pv 2) pa_nil)))) (pg_name (i := 4) sc.nd rfl (Or.inl rfl))
        (pss_one (ps_expr (pe_callH h_write_cell hr (pa_nm (pv 0) (pa_nm (pv 1) (pa_nm (pv 4) (pa_nm (pv 3) pa_nil))))))))), ?_⟩
    refine ⟨_, rfl, _, rfl, L, us, hs, ad, rfl, m.hl, m.hv, m.ok, fun v H1 s1 hv => ?_⟩
    have kp : ∀ h, addrH hs ad = some h → (h.w = "nowhere" ∨ h.w = "other" ∨ h.w = "both") ∧ ∃ ns, okH h ns := fun h e => ⟨(addrH_some e).2.1, m.ok h (addrH_some e).1⟩
    refine ⟨_, rfl, v, addrH hs ad, ad, rfl, hv.same s1, kp, fun D H3 s3 hD eD => ?_⟩
    have hD0 : H D = none := s1.free hD
    have nCD : C ≠ D := ne_of_none m.hc hD0
    have hin := reach_in hi m.ok h0 h1
    unfold writeAt at k
    revert k hin eD
    generalize hrc : reach (addrH hs ad) ad = rc
    intro k eD hin
    refine ⟨D, rfl, ⟨_, SqL.of eD⟩, for_list (xs := rc.map V.int) (fun i σ H4 => ∃ (o5 : Option V), σ = [some (.ref L), some (.ref C), some (.int ad), some (.int bit), o5] ∧ UpC H C (writesM hs bit (rc.take i) cs) H4 ∧ H4 D = some (.lst (rc.map V.int)))
      ⟨none, rfl, UpC.of (s1.trans s3) m.hc, eD⟩ (fun i σ H4 _ ⟨_, _, _, h⟩ => SqL.of h) ?_ ?_⟩
    · rintro i x σ H4 hx ⟨o5, rfl, u4, d4⟩
      obtain ⟨c, hc, rfl⟩ := map_get hx
      have hci := hin c (List.mem_of_getElem? hc)
      have m4 := m.upC u4
      have hl := writesM_len hs bit (rc.take i) cs
      refine ⟨_, rfl, _, rfl, _, rfl, _, rfl, L, C, us, hs, _, c, bit, rfl, m4, by rw [hl]; exact hi, hci.1, by rw [hl]; exact hci.2, fun H5 u5 => ?_⟩
      refine ⟨_, rfl, ?_, u5.st D _ nCD.symm d4⟩
      unfold writesM
      rw [fold_take _ _ hc]
      exact u4.trans u5
    · rintro σ H4 ⟨o5, rfl, u4, d4⟩
      rw [List.length_map, List.take_length] at u4
      exact k H4 u4
end
end Mh
set_option Elab.async false
set_option linter.all false
set_option maxRecDepth 100000
set_option maxHeartbeats 1600000
namespace Mh
open PySem L2 PyProof.Rows Mx
def bits (cs : List Int) : Prop := ∀ c ∈ cs, ∃ b, c = b2i b
section
variable {P : Program} {w : World} {K : PySem.W.Frag} {mg : Str → Option Value} {base : Heap}
def sp_is_size : Sp := fun vs H Q _ => ∃ n : Int, vs = [.int n] ∧ 1 ≤ n ∧ n ≤ 64 ∧ Q (.bl true) H
abbrev s_is_size : Stmt := top 39
theorem sc_is_size : FnScope ["thing"] ["thing"] (defScope s_is_size) := ⟨rfl, rfl, rfl, by decide +kernel, rfl, by decide +kernel, by decide +kernel⟩
/- slots: 0 thing -/
theorem ok_is_size (g_MOST_CELLS : ∃ t, mg "MOST_CELLS" = some (.int 64 t)) (h_is_whole : Has P w K mg base 1 "is_whole" ["thing"] sp_is_whole) (F : FnAt K mg "is_size" s_is_size ["thing"]) : Has P w K mg base 2 "is_size" ["thing"] sp_is_size := by
  refine Has.of F sc_is_size (fun vs H Q E h => ?_) (fun f cdv A outer s H vs Q E hr h => ?_)
  · obtain ⟨x, rfl, _⟩ := h
    rfl
  · obtain ⟨x, rfl, h0, h1, k⟩ := h
    have sc := sc_is_size
    refine ⟨_, (pss_one (ps_ret (pe_and (pe_callH h_is_whole hr (pa_cons (pv 0) pa_nil)) (pe_and (pe_cmpR op_ge (pv 0) pe_int (nomark _)) (pe_one (pe_cmpR op_le (pv 0) (pe_gint g_MOST_CELLS) (nomark _))))))), ?_⟩
    refine ⟨_, rfl, x, rfl, _, rfl, iteT ?_⟩
    refine ⟨_, rfl, _, _, rfl, rfl, _, rfl, iteD (by omega) ?_⟩
    refine ⟨_, rfl, _, _, rfl, rfl, ?_⟩
    show Q (.bl (decide (x ≤ 64))) H
    rw [decide_eq_true h1]
    exact k
def sp_are_contents : Sp := fun vs H Q _ => ∃ C cs, vs = [.ref C, .int (cs.length : Nat)] ∧ H C = some (.lst (cs.map V.int)) ∧ bits cs ∧ cs.length ≤ 64 ∧ ∀ H', Same H H' → Q (.bl true) H'
abbrev s_are_contents : Stmt := top 40
theorem sc_are_contents : FnScope ["thing", "size"] ["thing", "size"] (defScope s_are_contents) := ⟨rfl, rfl, rfl, by decide +kernel, rfl, by decide +kernel, by decide +kernel⟩
/- slots: 0 thing, 1 size -/
theorem ok_are_contents (B : Bl mg) (z_all : mg "all" = none) (h_is_bit : Has P w K mg base 2 "is_bit" ["thing"] sp_is_bit) (F : FnAt K mg "are_contents" s_are_contents ["thing", "size"]) : Has P w K mg base 3 "are_contents" ["thing", "size"] sp_are_contents := by
  refine Has.of F sc_are_contents (fun vs H Q E h => ?_) (fun f cdv A outer s H vs Q E hr h => ?_)
  · obtain ⟨C, cs, rfl, _⟩ := h
    rfl
  · obtain ⟨C, cs, rfl, hC, hb, hl, k⟩ := h
    have sc := sc_are_contents
    refine ⟨_, (pss_one (ps_ret (pe_and (pe_callB call_isi rfl (B.of rfl) boot_isinstance (pa_cons (pv 0) (pa_cons (pe_bltn (v := .ty "list") rfl (B.of rfl) boot_list rfl) pa_nil))) (pe_and (pe_cmpR op_eq (pe_callB call_len_seq rfl (B.of rfl) boot_len (pa_cons (pv 0) pa_nil)) (pv 1) (nomark _)) (pe_one (pe_callB (call_allB rfl) rfl z_all boot_allF (pa_cons (pe_comp rfl (compOk_of rfl) (M := ["part"]) (ix := [none]) (pi_list (pv 0)) (fun _ _ _ _ => (pg_name (i := 0) (show List.Nodup (["part"] : List Str) by decide +kernel) rfl (Or.inl rfl))) (fun _ _ _ _ => pts_nil) (fun _ _ _ _ => (pe_callH h_is_bit hr (pa_cons (pv 0) pa_nil)))) pa_nil))))))), ?_⟩
    refine ⟨_, rfl, _, _, _, _, rfl, .lst hC, rfl, _, rfl, iteT ?_⟩
    refine ⟨_, rfl, C, _, rfl, .inl (SqL.of hC), _, rfl, rfl, _, rfl, iteD (by rw [List.length_map]) ?_⟩
    refine ⟨_, rfl, C, rfl, ⟨_, SqL.of hC⟩, fun D hD => comp_by (n := cs.length) (fun i H' => Same H H' ∧ H' D = some (.lst ((List.replicate i true).map V.bl))) ⟨(Same.refl H).upd hD, upd_same⟩ ?_ ?_⟩
    · rintro H3 ⟨s3, e3⟩
      refine ⟨⟨_, SqL.of (s3 _ _ hC), by simp⟩, ?_⟩
      refine ⟨D, _, rfl, e3, ?_⟩
      rw [show (List.replicate cs.length true).all id = true by simp]
      exact k _ s3
    · rintro i H3 hi ⟨s3, e3⟩
      refine ⟨⟨_, _, SqL.of (s3 _ _ hC), by rw [List.getElem?_map, List.getElem?_eq_getElem hi]; rfl⟩, ?_⟩
      rintro x H4 ⟨rfl, hx⟩
      obtain ⟨c, hc, rfl⟩ := map_get (hx _ (SqL.of (s3 _ _ hC)))
      obtain ⟨b, rfl⟩ := hb c (List.mem_of_getElem? hc)
      refine ⟨KeepS.set (KeepS.refl _) rfl, yes ?_⟩
      refine ⟨_, rfl, b, rfl, fun H5 s5 => ?_⟩
      refine ⟨_, s5 _ _ e3, sl_lt (by rw [List.length_map, List.length_replicate]; omega), (s3.trans s5).at hD, ?_⟩
      rw [upd_same, List.replicate_succ', List.map_append]; rfl
def sp_look_at_memory : Sp := fun vs H Q _ => ∃ L us hs S C cs, vs = [.int (cs.length : Nat), .ref L, .ref C] ∧ H L = some (.lst us) ∧ HsV H us hs ∧ okHs hs S ∧ InR hs cs.length ∧ H C = some (.lst (cs.map V.int)) ∧ bits cs ∧ 1 ≤ cs.length ∧ cs.length ≤ 64 ∧ ∀ H', Same H H' → Q .non H'
abbrev s_look_at_memory : Stmt := top 41
theorem sc_look_at_memory : FnScope ["size", "harms", "contents", "cells"] ["size", "harms", "contents"] (defScope s_look_at_memory) := ⟨rfl, rfl, rfl, by decide +kernel, rfl, by decide +kernel, by decide +kernel⟩
/- slots: 0 size, 1 harms, 2 contents, 3 cells -/
theorem ok_look_at_memory (B : Bl mg) (h_cells_of : Has P w K mg base 7 "cells_of" ["harms"] sp_cells_of) (h_is_size : Has P w K mg base 2 "is_size" ["thing"] sp_is_size) (h_are_contents : Has P w K mg base 3 "are_contents" ["thing", "size"] sp_are_contents) (F : FnAt K mg "look_at_memory" s_look_at_memory ["size", "harms", "contents"]) : Has P w K mg base 8 "look_at_memory" ["size", "harms", "contents"] sp_look_at_memory := by
  refine Has.of F sc_look_at_memory (fun vs H Q E h => ?_) (fun f cdv A outer s H vs Q E hr h => ?_)
  · obtain ⟨L, us, hs, S, C, cs, rfl, _⟩ := h
    rfl
  · obtain ⟨L, us, hs, S, C, cs, rfl, hL, hv, ok, hi, hC, hb, hl1, hl2, k⟩ := h
    have sc := sc_look_at_memory
    refine ⟨_, (pss_cons (ps_set (i := 3) sc.nd rfl (Or.inl rfl) (pe_callH h_cells_of hr (pa_cons (pv 1) pa_nil)))
      (pss_cons (ps_if (pt_not (pt_val (pe_callH h_is_size hr (pa_cons (pv 0) pa_nil))))
        (pss_one ps_never)
        pss_nil)
      (pss_cons (ps_if (PW.pt (pw_and (pt_cmpR op_gt (pe_callB call_len_seq rfl (B.of rfl) boot_len (pa_cons (pv 3) pa_nil)) pe_int (nomark _)) (pw_and1 (pt_cmpR op_ge (pe_ix ix_list (pv 3) (pe_un un_neg pe_int) (fun _ _ => rfl)) (pv 0) (nomark _)))))
        (pss_one ps_never)
        pss_nil)
      (pss_one (ps_if (pt_not (pt_val (pe_callH h_are_contents hr (pa_cons (pv 2) (pa_cons (pv 0) pa_nil)))))
        (pss_one ps_never)
        pss_nil))))), ?_⟩
    refine ⟨_, rfl, L, us, hs, S, rfl, hL, hv, ok, fun D ns H1 s1 hD eD hpm hso => ?_⟩
    refine ⟨_, rfl, _, rfl, by omega, by omega, _, rfl, iteF ?_⟩
    refine ⟨_, rfl, D, _, rfl, .inl (SqL.of eD), _, _, rfl, rfl, _, rfl, ?_⟩
    have fin : ∀ (b : Bool), b = true → if (!b) = true then False else True := by intro b hb; subst hb; simp
    by_cases hn : 0 < ns.length
    · refine iteD (by rw [List.length_map]; omega) ?_
      obtain ⟨x, hx⟩ : ∃ x, ns = ns.dropLast ++ [x] := ⟨ns.getLast (by intro z; rw [z] at hn; simp at hn), (List.dropLast_concat_getLast _).symm⟩
      have hxm : x ∈ allC hs := (uniq_mem _ x).mp (hpm.mem_iff.mp (by rw [hx]; simp))
      have hx2 : x < cs.length := by
        unfold allC at hxm
        obtain ⟨h, hh, hc⟩ := List.mem_flatMap.mp hxm
        exact (hi h hh x hc).2
      refine ⟨_, rfl, _, rfl, D, _, _, _, rfl, rfl, SqL.of eD, (show atI (ns.map V.int) (-1) = some (.int x) by rw [hx, List.map_append]; exact atI_last _ _), _, rfl, _, _, rfl, rfl, _, rfl, iteDN (by omega) ?_⟩
      refine ⟨_, rfl, _, rfl, C, cs, rfl, s1 _ _ hC, hb, hl2, fun H2 s2 => ⟨_, rfl, iteF ?_⟩⟩
      exact k _ (s1.trans s2)
    · refine iteDN (by rw [List.length_map]; omega) ?_
      refine ⟨_, rfl, _, rfl, C, cs, rfl, s1 _ _ hC, hb, hl2, fun H2 s2 => ⟨_, rfl, iteF ?_⟩⟩
      exact k _ (s1.trans s2)
end
end Mh
set_option Elab.async false
set_option linter.all false
set_option maxRecDepth 100000
namespace L2
open PySem PySem.Spec PyProof.Rows
section
variable {X : Cx} {e : Expr} {ta : TE} {pos : Pos} {f : Str}
theorem pe_fldK {K : PySem.W.Frag} (hK : X.K = K) (he : PE X e ta) (hb : attributeBase e f X.env (eval e X.env) = eval e X.env) : PE X (.Attribute e f pos) (tFld K ta f) := hK ▸ pe_fld he hb
end
end L2
set_option Elab.async false
set_option linter.all false
set_option maxRecDepth 100000
namespace L2
open PySem PySem.Spec PyProof.Rows
theorem noPylong64 {x y : Int} (h0 : 0 < y) (h1 : y ≤ 18446744073709551616) : Builtin.divisionGoesByPylong x y = false := by
  have hl : y.natAbs.log2 < 65 := (Nat.log2_lt (by omega)).mpr (by omega)
  unfold Builtin.divisionGoesByPylong
  have e : decide ((if (y == 0) = true then 0 else y.natAbs.log2 / 30 + 1) > 300) = false := by
    refine decide_eq_false ?_
    rw [if_neg (by simp; omega)]
    omega
  show (decide ((if (y == 0) = true then 0 else y.natAbs.log2 / 30 + 1) > 300) && _) = false
  rw [e]
  rfl
section
variable {X : Cx}
def CDivB (_ j : Int) : Prop := 0 < j ∧ j ≤ 18446744073709551616
theorem op_fdivB : OpR X (binaryOp .FloorDiv) (rI CDivB fun i j => .int (i / j)) := opI fun i j _ _ _ _ _ hc q => by
  have h1 : (0 : Int) < j := hc.1
  exact floordiv_int (by omega) (by rw [Int.fdiv_eq_ediv_of_nonneg i (by omega)]; exact q) (.inl (noPylong64 hc.1 hc.2))
/-- dict(d): a copy -/
def rDCopy : List V → Hp → VK → Prop := fun xs H Q => ∃ a kvs, xs = [.ref a] ∧ H a = some (.dK kvs) ∧ ∀ p, H p = none → Q (.ref p) (upd H p (.dK kvs))
theorem call_dictCopy : CallR X (.type "dict") rDCopy := by
  intro pins s σ H xs us Q I r h
  obtain ⟨a, kvs, rfl, hH, q⟩ := h
  cases r with
  | cons r rr =>
    cases rr
    cases r
    exact d_copyOf I (.inl hH) fun p s' hp I' => ⟨.ref p, _, I', rfl, q p hp⟩
end
end L2
set_option Elab.async false
set_option linter.all false
set_option maxRecDepth 100000
set_option maxHeartbeats 4000000
namespace Mh
open PySem L2 PyProof.Rows Mx
def Dig (ds zs : List Int) : Prop := ds.length = zs.length ∧ ∀ (i : Nat) d z, ds[i]? = some d → zs[i]? = some z → 0 ≤ d ∧ d < z
theorem Dig.get {ds zs : List Int} (h : Dig ds zs) {i : Nat} {z : Int} (hz : zs[i]? = some z) : ∃ d, ds[i]? = some d ∧ 0 ≤ d ∧ d < z := by
  have hi : i < ds.length := by rw [h.1]; exact (List.getElem?_eq_some_iff.mp hz).1
  exact ⟨ds[i], by simp [hi], h.2 i _ z (by simp [hi]) hz⟩
theorem int_get {ds : List Int} {i : Nat} {v : V} (h : (ds.map V.int)[i]? = some v) : ∃ d, ds[i]? = some d ∧ v = .int d := map_get h
theorem get_int {ds : List Int} {i : Nat} {d : Int} (h : ds[i]? = some d) : (ds.map V.int)[i]? = some (.int d) := by rw [List.getElem?_map, h]; rfl
section
variable {P : Program} {w : World} {K : PySem.W.Frag} {mg : Str → Option Value} {base : Heap}
def sp_digits : Sp := fun vs H Q _ => ∃ c t a zs, vs = [.int c, .int t, .ref a] ∧ H a = some (.lst (zs.map V.int)) ∧ zs.length ≤ 130 ∧ (∀ z ∈ zs, 0 < z ∧ z ≤ 18446744073709551616) ∧ 0 ≤ t ∧ t ≤ 1000000 ∧
  ∀ p ds H', Same H H' → H p = none → H' p = some (.lst (ds.map V.int)) → Dig ds zs → Q (.ref p) H'
abbrev s__law_digits : Stmt := top 52
theorem sc__law_digits : FnScope ["_law_cell", "_law_turn", "_law_sizes", "_law_number", "_law_wide", "_law_seed", "_law_found", "_law_k", "_law_size"] ["_law_cell", "_law_turn", "_law_sizes"] (defScope s__law_digits) := ⟨rfl, rfl, rfl, by decide +kernel, rfl, by decide +kernel, by decide +kernel⟩
/- slots: 0 _law_cell, 1 _law_turn, 2 _law_sizes, 3 _law_number, 4 _law_wide, 5 _law_seed, 6 _law_found, 7 _law_k, 8 _law_size -/
theorem ok_digits (B : Bl mg) (F : FnAt K mg "_law_digits" s__law_digits ["_law_cell", "_law_turn", "_law_sizes"]) : Has P w K mg base 1 "_law_digits" ["_law_cell", "_law_turn", "_law_sizes"] sp_digits := by
  refine Has.of F sc__law_digits (fun vs H Q E h => ?_) (fun f cdv A outer s H vs Q E hr h => ?_)
  · obtain ⟨c, t, a, zs, rfl, _⟩ := h
    rfl
  · obtain ⟨c, t, a, zs, rfl, ha, hl, hz, ht0, ht1, k⟩ := h
    have sc := sc__law_digits
    refine ⟨_, (pss_cons (ps_set (i := 3) sc.nd rfl (Or.inl rfl) (pe_callB call_abs rfl (B.of rfl) boot_abs (pa_cons (pv 0) pa_nil)))
      (pss_cons (ps_set (i := 4) sc.nd rfl (Or.inl rfl) (pe_cmpR op_ge (pv 3) (pe_op op_pow pe_int pe_int) (nomark _)))
      (pss_cons (ps_set (i := 5) sc.nd rfl (Or.inl rfl) (pe_op op_add (pe_op op_mod (pv 3) pe_int) (pe_op op_mul pe_int (pv 1))))
      (pss_cons (ps_set (i := 6) sc.nd rfl (Or.inl rfl) (pe_lst pa_nil))
      (pss_cons (ps_for PassesOwn.never rfl (pi_enum rfl (B.of rfl) (pa_cons (pv 2) pa_nil)) (pg_tup rfl (pgs_cons (pg_name (i := 7) sc.nd rfl (Or.inl rfl)) (pgs_cons (pg_name (i := 8) sc.nd rfl (Or.inl rfl)) pgs_nil)))
        (pss_one (ps_if (PW.pt (pw_and (pt_val (pv 4)) (pw_and1 (pt_cmpR op_gt (pv 3) pe_int (nomark _)))))
          (pss_cons (ps_expr (pe_bm PySem.F.plainAttrs_list PySem.F.slot_list_append PySem.F.type_list_append mt_append (pv 6) (pa_cons (pe_op op_mod (pv 3) (pv 8)) pa_nil)))
          (pss_one (ps_set (i := 3) sc.nd rfl (Or.inl rfl) (pe_op op_fdivB (pv 3) (pv 8)))))
          (pss_cons (ps_set (i := 5) sc.nd rfl (Or.inl rfl) (pe_op op_mod (pe_op op_pow (pe_op op_add (pv 5) (pe_op op_mul pe_int (pe_op op_add (pv 7) pe_int))) pe_int) pe_int))
          (pss_one (ps_expr (pe_bm PySem.F.plainAttrs_list PySem.F.slot_list_append PySem.F.type_list_append mt_append (pv 6) (pa_cons (pe_op op_mod (pe_op op_fdiv (pv 5) pe_int) (pv 8)) pa_nil))))))))
      (pss_one (ps_ret (pv 6)))))))), ?_⟩
    refine ⟨_, rfl, c, rfl, ?_⟩
    refine ⟨_, rfl, 10, 18, rfl, rfl, ⟨by decide, by decide, by decide⟩, _, _, rfl, rfl, ?_⟩
    refine ⟨_, rfl, _, _, rfl, rfl, (by show (0 : Int) < 2147483647; decide), _, rfl, _, _, rfl, rfl, .inl ⟨by decide, by decide⟩, _, _, rfl, rfl, ?_⟩
    refine ⟨Nat.zero_le _, fun p hp => ?_⟩
    generalize hnum : (if c < 0 then -c else c) = num
    generalize hwd : decide ((10 : Int) ^ (18 : Int).toNat ≤ num) = wd
    have hs0 : 0 ≤ num % 2147483647 + 7919 * t := by have := Int.emod_nonneg num (show (2147483647 : Int) ≠ 0 by decide); omega
    have hs1 : num % 2147483647 + 7919 * t < 2 ^ 40 := by have := Int.emod_lt_of_pos num (show (0 : Int) < 2147483647 by decide); omega
    refine ⟨_, rfl, a, _, rfl, SqL.of (by rw [upd_ne (ne_of_none ha hp)]; exact ha), for_enum (xs := zs.map V.int) (fun i σ H2 => ∃ (nu seed : Int) (ds : List Int) (q1 q2 : Option V), σ = [some (.int c), some (.int t), some (.ref a), some (.int nu), some (.bl wd), some (.int seed), some (.ref p), q1, q2] ∧
      Same H H2 ∧ H2 p = some (.lst (ds.map V.int)) ∧ ds.length = i ∧ (∀ (j : Nat) d z, ds[j]? = some d → zs[j]? = some z → 0 ≤ d ∧ d < z) ∧ 0 ≤ seed ∧ seed < 2 ^ 40) ?_ (fun i σ H2 _ ⟨_, _, _, _, _, _, s2, _⟩ => SqL.of (s2 _ _ ha)) ?_ ?_⟩
    · exact ⟨num, _, [], none, none, by rw [← hwd]; rfl, (Same.refl H).upd hp, upd_same, rfl, fun j d z h => by simp at h, hs0, hs1⟩
    · rintro i x pp σ H2 hx ⟨nu, seed, ds, q1, q2, rfl, s2, hp2, hln, hds, hse0, hse1⟩ hpp
      obtain ⟨z, hzi, rfl⟩ := int_get hx
      obtain ⟨hz0, hz1⟩ := hz z (List.mem_of_getElem? hzi)
      have hil : i < zs.length := (List.getElem?_eq_some_iff.mp hzi).1
      have s3 : Same H (upd H2 pp (.tup [.int i, .int z])) := s2.upd hpp
      have hp3 : upd H2 pp (.tup [.int i, .int z]) p = some (.lst (ds.map V.int)) := by rw [upd_ne (ne_of_none hp2 hpp)]; exact hp2
      have fin : ∀ (d : Int), 0 ≤ d → d < z → ∀ (j : Nat) d' z', (ds ++ [d])[j]? = some d' → zs[j]? = some z' → 0 ≤ d' ∧ d' < z' := fun d h0 h1 j d' z' hj hj2 => by
        by_cases hlt : j < ds.length
        · rw [List.getElem?_append_left hlt] at hj
          exact hds j d' z' hj hj2
        · rw [List.getElem?_append_right (by omega)] at hj
          have hj0 : j - ds.length = 0 := by
            cases q : j - ds.length with
            | zero => rfl
            | succ n => rw [q] at hj; simp at hj
          rw [hj0] at hj
          have e1 : d = d' := by simpa using hj
          have e2 : j = i := by omega
          subst e1 e2
          rw [hzi] at hj2; cases hj2
          exact ⟨h0, h1⟩
      refine ⟨pp, _, rfl, SqT.of upd_same, rfl, _, _, rfl, _, _, rfl, rfl, ?_⟩
      refine ⟨_, rfl, wd, rfl, ?_⟩
      cases wd with
      | true =>
        refine iteT ⟨_, rfl, _, _, rfl, rfl, _, rfl, ?_⟩
        by_cases hn : 0 < nu
        · refine iteD hn ?_
          refine ⟨_, rfl, .inl ⟨rfl, _, SqL.of hp3⟩, _, rfl, _, rfl, _, _, rfl, rfl, hz0, p, _, _, rfl, rfl, hp3, sl_lt (by rw [List.length_map]; omega), ?_⟩
          refine ⟨_, rfl, _, rfl, _, _, rfl, rfl, ⟨hz0, hz1⟩, ?_⟩
          exact ⟨_, seed, ds ++ [nu % z], _, _, rfl, s3.at hp, by rw [List.map_append]; exact upd_same, by simp [hln], fin _ (Int.emod_nonneg _ (by omega)) (Int.emod_lt_of_pos _ hz0), hse0, hse1⟩
        · refine iteN (decide_eq_false hn) ?_
          refine ⟨_, rfl, _, rfl, _, _, rfl, rfl, _, _, rfl, rfl, .inl ⟨by decide, by decide⟩, _, _, rfl, rfl, _, _, rfl, rfl, ⟨by decide, by decide, by omega⟩, _, _, rfl, rfl, (by show (0 : Int) < 2147483587; decide), ?_⟩
          have g0 := Int.emod_nonneg ((seed + 104729 * ((i : Int) + 1)) ^ (2 : Int).toNat) (show (2147483587 : Int) ≠ 0 by decide)
          have g1 := Int.emod_lt_of_pos ((seed + 104729 * ((i : Int) + 1)) ^ (2 : Int).toNat) (show (0 : Int) < 2147483587 by decide)
          generalize hse' : (seed + 104729 * ((i : Int) + 1)) ^ (2 : Int).toNat % 2147483587 = seed' at g0 g1
          refine ⟨_, rfl, .inl ⟨rfl, _, SqL.of hp3⟩, _, rfl, _, _, rfl, rfl, ⟨by decide, by decide⟩, _, rfl, _, _, rfl, rfl, hz0, p, _, _, rfl, rfl, hp3, sl_lt (by rw [List.length_map]; omega), ?_⟩
          exact ⟨nu, seed', ds ++ [seed' / 16 % z], _, _, by rw [← hse']; rfl, s3.at hp, by rw [List.map_append, ← hse']; exact upd_same, by simp [hln], fin _ (Int.emod_nonneg _ (by omega)) (Int.emod_lt_of_pos _ hz0), g0, by omega⟩
      | false =>
        refine iteF (iteF ?_)
        refine ⟨_, rfl, _, rfl, _, _, rfl, rfl, _, _, rfl, rfl, .inl ⟨by decide, by decide⟩, _, _, rfl, rfl, _, _, rfl, rfl, ⟨by decide, by decide, by omega⟩, _, _, rfl, rfl, (by show (0 : Int) < 2147483587; decide), ?_⟩
        have g0 := Int.emod_nonneg ((seed + 104729 * ((i : Int) + 1)) ^ (2 : Int).toNat) (show (2147483587 : Int) ≠ 0 by decide)
        have g1 := Int.emod_lt_of_pos ((seed + 104729 * ((i : Int) + 1)) ^ (2 : Int).toNat) (show (0 : Int) < 2147483587 by decide)
        generalize hse' : (seed + 104729 * ((i : Int) + 1)) ^ (2 : Int).toNat % 2147483587 = seed' at g0 g1
        refine ⟨_, rfl, .inl ⟨rfl, _, SqL.of hp3⟩, _, rfl, _, _, rfl, rfl, ⟨by decide, by decide⟩, _, rfl, _, _, rfl, rfl, hz0, p, _, _, rfl, rfl, hp3, sl_lt (by rw [List.length_map]; omega), ?_⟩
        exact ⟨nu, seed', ds ++ [seed' / 16 % z], _, _, by rw [← hse']; rfl, s3.at hp, by rw [List.map_append, ← hse']; exact upd_same, by simp [hln], fin _ (Int.emod_nonneg _ (by omega)) (Int.emod_lt_of_pos _ hz0), g0, by omega⟩
    · rintro σ H2 ⟨nu, seed, ds, q1, q2, rfl, s2, hp2, hln, hds, _, _⟩
      rw [List.length_map] at hln
      exact ⟨_, rfl, k p ds H2 s2 hp hp2 ⟨hln, hds⟩⟩
end
end Mh
set_option Elab.async false
set_option linter.all false
set_option maxRecDepth 100000
set_option maxHeartbeats 4000000
namespace Mh
open PySem L2 PyProof.Rows Mx
def fsM (L Cc : Addr) : List (Str × V) := [("harms", .ref L), ("cells", .ref Cc)]
/-- what the class of memories has -/
structure CM (K : PySem.W.Frag) (C : Addr) : Prop where
  c : Cls K C
  nh : NoAttr K C "harms"
  nc : NoAttr K C "cells"
structure MemO (H : Hp) (C m L Cc : Addr) (us : List V) (hs : List Hm) (cs : List Int) : Prop where
  o : ∃ dx, H m = some (.ins C dx (fsM L Cc))
  m : Mem H L Cc us hs cs
theorem lk_h {L Cc : Addr} : (fsM L Cc).lookup ("harms" : Str) = some (V.ref L) := by
  unfold fsM
  rw [List.lookup_cons, show (("harms" : Str) == "harms") = true by decide +kernel]
theorem lk_c {L Cc : Addr} : (fsM L Cc).lookup ("cells" : Str) = some (V.ref Cc) := by
  unfold fsM
  rw [List.lookup_cons, show (("cells" : Str) == "harms") = false by decide +kernel, List.lookup_cons, show (("cells" : Str) == "cells") = true by decide +kernel]
theorem lk_n {L Cc : Addr} {f : Str} (h1 : (f == ("harms" : Str)) = false := by decide +kernel) (h2 : (f == ("cells" : Str)) = false := by decide +kernel) : (fsM L Cc).lookup f = none := by
  unfold fsM
  rw [List.lookup_cons, h1, List.lookup_cons, h2]
  rfl
section
variable {P : Program} {w : World} {K : PySem.W.Frag} {mg : Str → Option Value} {base : Heap} {C : Addr}
def sp_m_addr (C : Addr) : Sp := fun vs H Q _ => ∃ m L Cc us hs cs a, vs = [.ref m, .int a] ∧ MemO H C m L Cc us hs cs ∧ 0 ≤ a ∧ a < cs.length ∧ Q .non H
abbrev s_Memory_look_at_address : Stmt := inClass (top 43) 1
theorem sc_Memory_look_at_address : FnScope ["self", "address"] ["self", "address"] (defScope s_Memory_look_at_address) := ⟨rfl, rfl, rfl, by decide +kernel, rfl, by decide +kernel, by decide +kernel⟩
/- slots: 0 self, 1 address -/
theorem ok_m_addr (B : Bl mg) (cm : CM K C) (h_is_whole : Has P w K mg base 1 "is_whole" ["thing"] sp_is_whole) (F : MethAt K C "look_at_address" "Memory.look_at_address" s_Memory_look_at_address ["self", "address"]) : HasM P w K mg base C 2 "look_at_address" ["self", "address"] (sp_m_addr C) := by
  refine HasM.ofQ F sc_Memory_look_at_address (fun vs H Q E h => ?_) (fun f cdv A outer s H vs Q E hr h => ?_)
  · obtain ⟨m, L, Cc, us, hs, cs, a, rfl, _⟩ := h
    rfl
  · obtain ⟨m, L, Cc, us, hs, cs, a, rfl, ⟨⟨dx, ho⟩, mm⟩, h0, h1, k⟩ := h
    have sc := sc_Memory_look_at_address
    refine ⟨_, (qss_litQ rfl (qss_one (qs_ifT (QW.pt (qw_or (qt_not (qt_valC (qe_callH h_is_whole hr (qa_nm (qe_of (pv 1)) qa_nil)))) (qw_or (qt_cmpR op_lt (qe_of (pv 1)) (qe_of pe_int) (nomark _)) (qw_or1 (qt_cmpR op_ge (qe_of (pv 1)) (qe_callB call_len_seq rfl (B.of rfl) boot_len (qa_at (qe_fld (qe_of (pv 0)) rfl) qa_nil)) (nomark _))))))
        (qss_one (qs_of ps_never))
        qss_nil))), ?_⟩
    refine ⟨_, rfl, a, rfl, _, rfl, iteN rfl ?_⟩
    refine ⟨_, rfl, _, _, rfl, rfl, _, rfl, iteDN (by omega) ?_⟩
    refine ⟨_, rfl, _, rfl, m, C, dx, _, _, rfl, ho, cm.c, cm.nc, lk_c, Cc, _, rfl, .inl (SqL.of mm.hc), _, _, rfl, rfl, _, rfl, iteDN (by rw [List.length_map]; omega) ?_⟩
    exact k
def sp_m_read (C : Addr) : Sp := fun vs H Q _ => ∃ m L Cc us hs cs a, vs = [.ref m, .int a] ∧ MemO H C m L Cc us hs cs ∧ InR hs cs.length ∧ 0 ≤ a ∧ a < cs.length ∧ ∀ H', UpC H Cc (readAt hs cs a).2 H' → Q (.int (readAt hs cs a).1) H'
abbrev s_Memory_read : Stmt := inClass (top 43) 2
theorem sc_Memory_read : FnScope ["self", "address"] ["self", "address"] (defScope s_Memory_read) := ⟨rfl, rfl, rfl, by decide +kernel, rfl, by decide +kernel, by decide +kernel⟩
/- slots: 0 self, 1 address -/
theorem ok_m_read (cm : CM K C) (hm_addr : HasM P w K mg base C 2 "look_at_address" ["self", "address"] (sp_m_addr C)) (h_read_at : Has P w K mg base 4 "read_at" ["harms", "cells", "address"] sp_read_at) (F : MethAt K C "read" "Memory.read" s_Memory_read ["self", "address"]) : HasM P w K mg base C 5 "read" ["self", "address"] (sp_m_read C) := by
  refine HasM.ofQ F sc_Memory_read (fun vs H Q E h => ?_) (fun f cdv A outer s H vs Q E hr h => ?_)
  · obtain ⟨m, L, Cc, us, hs, cs, a, rfl, _⟩ := h
    rfl
  · obtain ⟨m, L, Cc, us, hs, cs, a, rfl, mo, hi, h0, h1, k⟩ := h
    obtain ⟨⟨dx, ho⟩, mm⟩ := id mo
    have sc := sc_Memory_read
    refine ⟨_, (qss_litQ rfl (qss_cons (qs_expr (qe_methH cm.c hm_addr hr (qe_of (pv 0)) (qa_nm (qe_of (pv 1)) qa_nil)))
      (qss_one (qs_retE (qe_callH h_read_at hr (qa_at (qe_fld (qe_of (pv 0)) rfl) (qa_at (qe_fld (qe_of (pv 0)) rfl) (qa_nm (qe_of (pv 1)) qa_nil)))))))), ?_⟩
    refine ⟨_, rfl, m, dx, _, rfl, ho, lk_n, _, rfl, m, L, Cc, us, hs, cs, a, rfl, mo, h0, h1, ?_⟩
    refine ⟨_, rfl, m, C, dx, _, _, rfl, ho, cm.c, cm.nh, lk_h, _, rfl, m, C, dx, _, _, rfl, ho, cm.c, cm.nc, lk_c, _, rfl, L, Cc, us, hs, cs, a, rfl, mm, hi, h0, h1, k⟩
def sp_look_at_bit : Sp := fun vs H Q _ => ∃ b, vs = [.int (b2i b)] ∧ ∀ H', Same H H' → Q .non H'
abbrev s_look_at_bit : Stmt := top 42
theorem sc_look_at_bit : FnScope ["thing"] ["thing"] (defScope s_look_at_bit) := ⟨rfl, rfl, rfl, by decide +kernel, rfl, by decide +kernel, by decide +kernel⟩
/- slots: 0 thing -/
theorem ok_look_at_bit (h_is_bit : Has P w K mg base 2 "is_bit" ["thing"] sp_is_bit) (F : FnAt K mg "look_at_bit" s_look_at_bit ["thing"]) : Has P w K mg base 3 "look_at_bit" ["thing"] sp_look_at_bit := by
  refine Has.ofQ F sc_look_at_bit (fun vs H Q E h => ?_) (fun f cdv A outer s H vs Q E hr h => ?_)
  · obtain ⟨b, rfl, _⟩ := h
    rfl
  · obtain ⟨b, rfl, k⟩ := h
    have sc := sc_look_at_bit
    refine ⟨_, (qss_litQ rfl (qss_one (qs_ifT (qt_not (qt_valC (qe_callH h_is_bit hr (qa_nm (qe_of (pv 0)) qa_nil))))
        (qss_one (qs_of ps_never))
        qss_nil))), ?_⟩
    exact ⟨_, rfl, b, rfl, fun H' s' => ⟨_, rfl, iteN rfl (k H' s')⟩⟩
def sp_m_write (C : Addr) : Sp := fun vs H Q _ => ∃ m L Cc us hs cs a b, vs = [.ref m, .int a, .int (b2i b)] ∧ MemO H C m L Cc us hs cs ∧ InR hs cs.length ∧ 0 ≤ a ∧ a < cs.length ∧ ∀ H', UpC H Cc (writeAt hs cs a (b2i b)) H' → Q .non H'
abbrev s_Memory_write : Stmt := inClass (top 43) 3
theorem sc_Memory_write : FnScope ["self", "address", "bit"] ["self", "address", "bit"] (defScope s_Memory_write) := ⟨rfl, rfl, rfl, by decide +kernel, rfl, by decide +kernel, by decide +kernel⟩
/- slots: 0 self, 1 address, 2 bit -/
theorem ok_m_write (cm : CM K C) (hm_addr : HasM P w K mg base C 2 "look_at_address" ["self", "address"] (sp_m_addr C)) (h_look_at_bit : Has P w K mg base 3 "look_at_bit" ["thing"] sp_look_at_bit) (h_write_at : Has P w K mg base 5 "write_at" ["harms", "cells", "address", "bit"] sp_write_at) (F : MethAt K C "write" "Memory.write" s_Memory_write ["self", "address", "bit"]) : HasM P w K mg base C 6 "write" ["self", "address", "bit"] (sp_m_write C) := by
  refine HasM.ofQ F sc_Memory_write (fun vs H Q E h => ?_) (fun f cdv A outer s H vs Q E hr h => ?_)
  · obtain ⟨m, L, Cc, us, hs, cs, a, b, rfl, _⟩ := h
    rfl
  · obtain ⟨m, L, Cc, us, hs, cs, a, b, rfl, mo, hi, h0, h1, k⟩ := h
    obtain ⟨⟨dx, ho⟩, mm⟩ := id mo
    have sc := sc_Memory_write
    refine ⟨_, (qss_litQ rfl (qss_cons (qs_expr (qe_methH cm.c hm_addr hr (qe_of (pv 0)) (qa_nm (qe_of (pv 1)) qa_nil)))
      (qss_cons (qs_expr (qe_callH h_look_at_bit hr (qa_nm (qe_of (pv 2)) qa_nil)))
      (qss_one (qs_expr (qe_callH h_write_at hr (qa_at (qe_fld (qe_of (pv 0)) rfl) (qa_at (qe_fld (qe_of (pv 0)) rfl) (qa_nm (qe_of (pv 1)) (qa_nm (qe_of (pv 2)) qa_nil)))))))))), ?_⟩
    refine ⟨_, rfl, m, dx, _, rfl, ho, lk_n, _, rfl, m, L, Cc, us, hs, cs, a, rfl, mo, h0, h1, ?_⟩
    refine ⟨_, rfl, b, rfl, fun H1 s1 => ?_⟩
    have ho1 := s1 _ _ ho
    refine ⟨_, rfl, m, C, dx, _, _, rfl, ho1, cm.c, cm.nh, lk_h, _, rfl, m, C, dx, _, _, rfl, ho1, cm.c, cm.nc, lk_c, _, rfl, _, rfl, L, Cc, us, hs, cs, a, _, rfl, mm.same s1, hi, h0, h1, fun H2 u2 => ?_⟩
    exact k H2 ((UpC.of s1 mm.hc).trans u2)
def sp_m_holds (C : Addr) : Sp := fun vs H Q _ => ∃ m L Cc us hs cs, vs = [.ref m] ∧ MemO H C m L Cc us hs cs ∧ ∀ D, H D = none → Q (.ref D) (upd H D (.lst (cs.map V.int)))
abbrev s_Memory_holds : Stmt := inClass (top 43) 4
theorem sc_Memory_holds : FnScope ["self"] ["self"] (defScope s_Memory_holds) := ⟨rfl, rfl, rfl, by decide +kernel, rfl, by decide +kernel, by decide +kernel⟩
/- slots: 0 self -/
theorem ok_m_holds (B : Bl mg) (cm : CM K C) (F : MethAt K C "holds" "Memory.holds" s_Memory_holds ["self"]) : HasM P w K mg base C 1 "holds" ["self"] (sp_m_holds C) := by
  refine HasM.ofQ F sc_Memory_holds (fun vs H Q E h => ?_) (fun f cdv A outer s H vs Q E hr h => ?_)
  · obtain ⟨m, L, Cc, us, hs, cs, rfl, _⟩ := h
    rfl
  · obtain ⟨m, L, Cc, us, hs, cs, rfl, ⟨⟨dx, ho⟩, mm⟩, k⟩ := h
    have sc := sc_Memory_holds
    refine ⟨_, (qss_litQ rfl (qss_one (qs_retE (qe_callTy call_list_of rfl (B.of rfl) boot_list (qa_at (qe_fld (qe_of (pv 0)) rfl) qa_nil))))), ?_⟩
    exact ⟨_, rfl, m, C, dx, _, _, rfl, ho, cm.c, cm.nc, lk_c, Cc, _, rfl, .inl (SqL.of mm.hc), k⟩
def sp_m_size (C : Addr) : Sp := fun vs H Q _ => ∃ m L Cc us hs cs, vs = [.ref m] ∧ MemO H C m L Cc us hs cs ∧ Q (.int (cs.length : Nat)) H
abbrev s_Memory_size : Stmt := inClass (top 43) 5
theorem sc_Memory_size : FnScope ["self"] ["self"] (defScope s_Memory_size) := ⟨rfl, rfl, rfl, by decide +kernel, rfl, by decide +kernel, by decide +kernel⟩
/- slots: 0 self -/
theorem ok_m_size (B : Bl mg) (cm : CM K C) (F : MethAt K C "size" "Memory.size" s_Memory_size ["self"]) : HasM P w K mg base C 1 "size" ["self"] (sp_m_size C) := by
  refine HasM.ofQ F sc_Memory_size (fun vs H Q E h => ?_) (fun f cdv A outer s H vs Q E hr h => ?_)
  · obtain ⟨m, L, Cc, us, hs, cs, rfl, _⟩ := h
    rfl
  · obtain ⟨m, L, Cc, us, hs, cs, rfl, ⟨⟨dx, ho⟩, mm⟩, k⟩ := h
    have sc := sc_Memory_size
    refine ⟨_, (qss_litQ rfl (qss_one (qs_retE (qe_callB call_len_seq rfl (B.of rfl) boot_len (qa_at (qe_fld (qe_of (pv 0)) rfl) qa_nil))))), ?_⟩
    refine ⟨_, rfl, m, C, dx, _, _, rfl, ho, cm.c, cm.nc, lk_c, Cc, _, rfl, .inl (SqL.of mm.hc), ?_⟩
    rw [List.length_map]
    exact k
def sp_m_init (C : Addr) : Sp := fun vs H Q _ => ∃ (x dx L0 C0 : Addr) (us : List V) (hs : List Hm) (S cs : List Int), vs = [.ref x, .int (cs.length : Nat), .ref L0, .ref C0] ∧ H x = some (.ins C dx []) ∧ H L0 = some (.lst us) ∧ HsV H us hs ∧ okHs hs S ∧ InR hs cs.length ∧ H C0 = some (.lst (cs.map V.int)) ∧ bits cs ∧ 1 ≤ cs.length ∧ cs.length ≤ 64 ∧
  ∀ (L Cc : Addr) (H' : Hp), (∀ b u, b ≠ x → H b = some u → H' b = some u) → H L = none → H Cc = none → MemO H' C x L Cc us hs (settleM hs cs) → Q .non H'
abbrev s_Memory___init__ : Stmt := inClass (top 43) 0
theorem sc_Memory___init__ : FnScope ["self", "size", "harms", "contents"] ["self", "size", "harms", "contents"] (defScope s_Memory___init__) := ⟨rfl, rfl, rfl, by decide +kernel, rfl, by decide +kernel, by decide +kernel⟩
/- slots: 0 self, 1 size, 2 harms, 3 contents -/
theorem ok_m_init (B : Bl mg) (cm : CM K C) (h_look_at_memory : Has P w K mg base 8 "look_at_memory" ["size", "harms", "contents"] sp_look_at_memory) (h_settle : Has P w K mg base 3 "settle" ["harms", "cells"] sp_settle) (F : MethAt K C "__init__" "Memory.__init__" s_Memory___init__ ["self", "size", "harms", "contents"]) : HasM P w K mg base C 9 "__init__" ["self", "size", "harms", "contents"] (sp_m_init C) := by
  refine HasM.ofQ F sc_Memory___init__ (fun vs H Q E h => ?_) (fun f cdv A outer s H vs Q E hr h => ?_)
  · obtain ⟨x, dx, L0, C0, us, hs, S, cs, rfl, _⟩ := h
    rfl
  · obtain ⟨x, dx, L0, C0, us, hs, S, cs, rfl, hx, hL, hv, ok, hi, hC, hb, l1, l64, k⟩ := h
    have sc := sc_Memory___init__
    refine ⟨_, (qss_litQ rfl (qss_cons (qs_expr (qe_callH h_look_at_memory hr (qa_nm (qe_of (pv 1)) (qa_nm (qe_of (pv 2)) (qa_nm (qe_of (pv 3)) qa_nil)))))
      (qss_cons (qs_fld (qe_of (pv 0)) (qe_callTy call_list_of rfl (B.of rfl) boot_list (qa_nm (qe_of (pv 2)) qa_nil)) rfl)
      (qss_cons (qs_fld (qe_of (pv 0)) (qe_callTy call_list_of rfl (B.of rfl) boot_list (qa_nm (qe_of (pv 3)) qa_nil)) rfl)
      (qss_one (qs_expr (qe_callH h_settle hr (qa_at (qe_fld (qe_of (pv 0)) rfl) (qa_at (qe_fld (qe_of (pv 0)) rfl) qa_nil))))))))), ?_⟩
    refine ⟨_, rfl, _, rfl, _, rfl, L0, us, hs, S, C0, cs, rfl, hL, hv, ok, hi, hC, hb, l1, l64, fun H1 s1 => ?_⟩
    refine ⟨_, rfl, L0, _, rfl, .inl (SqL.of (s1 _ _ hL)), fun L n1 => ?_⟩
    have s2 : Same H1 (upd H1 L (.lst us)) := (Same.refl H1).upd n1
    have f2 : upd H1 L (.lst us) L = some (.lst us) := upd_same
    revert s2 f2
    generalize upd H1 L (.lst us) = H2
    intro s2 f2
    have s12 := s1.trans s2
    refine ⟨_, rfl, x, C, dx, _, rfl, s12 _ _ hx, cm.c, cm.nh, by simp, ?_⟩
    have nLx : L ≠ x := fun z => by subst z; rw [s1 _ _ hx] at n1; cases n1
    have u3 : ∀ b u, b ≠ x → H2 b = some u → upd H2 x (.ins C dx (putF "harms" (.ref L) [])) b = some u := fun b u h e => by rw [upd_ne h]; exact e
    have f3 : upd H2 x (.ins C dx (putF "harms" (.ref L) [])) x = some (.ins C dx [("harms", .ref L)]) := upd_same
    revert u3 f3
    generalize upd H2 x (.ins C dx (putF "harms" (.ref L) [])) = H3
    intro u3 f3
    have nx : ∀ {b : Addr} {xs : List V}, H b = some (.lst xs) → b ≠ x := fun e z => by subst z; rw [hx] at e; cases e
    refine ⟨_, rfl, C0, _, rfl, .inl (SqL.of (u3 _ _ (nx hC) (s12 _ _ hC))), fun Cc n4 => ?_⟩
    have nCx : Cc ≠ x := fun z => by subst z; rw [f3] at n4; cases n4
    have nLC : L ≠ Cc := fun z => by subst z; rw [u3 _ _ nLx f2] at n4; cases n4
    have s4 : Same H3 (upd H3 Cc (.lst (cs.map V.int))) := (Same.refl H3).upd n4
    have f4 : upd H3 Cc (.lst (cs.map V.int)) Cc = some (.lst (cs.map V.int)) := upd_same
    revert s4 f4
    generalize upd H3 Cc (.lst (cs.map V.int)) = H4
    intro s4 f4
    refine ⟨_, rfl, x, C, dx, _, rfl, s4 _ _ f3, cm.c, cm.nc, by simp, ?_⟩
    have u5 : ∀ b u, b ≠ x → H4 b = some u → upd H4 x (.ins C dx (putF "cells" (.ref Cc) [("harms", .ref L)])) b = some u := fun b u h e => by rw [upd_ne h]; exact e
    have f5 : upd H4 x (.ins C dx (putF "cells" (.ref Cc) [("harms", .ref L)])) x = some (.ins C dx (fsM L Cc)) := by
      rw [upd_same]
      have : putF "cells" (V.ref Cc) [("harms", .ref L)] = fsM L Cc := by
        unfold fsM putF
        rw [if_neg (by decide +kernel)]
        rfl
      rw [this]
    revert u5 f5
    generalize upd H4 x (.ins C dx (putF "cells" (.ref Cc) [("harms", .ref L)])) = H5
    intro u5 f5
    have hc0 : H Cc = none := by
      cases e : H Cc with
      | none => rfl
      | some u => have := u3 _ _ nCx (s12 _ _ e); rw [n4] at this; cases this
    have hl0 : H L = none := s1.free n1
    have up : ∀ b u, b ≠ x → H b = some u → H5 b = some u := fun b u h e => u5 _ _ h (s4 _ _ (u3 _ _ h (s12 _ _ e)))
    have m5 : Mem H5 L Cc us hs cs := ⟨nLC, u5 _ _ nLx (s4 _ _ (u3 _ _ nLx f2)), ⟨hv.len, fun i v h a b => by
      obtain ⟨z, e, hz⟩ := hv.at_ i v h a b
      exact ⟨z, e, up _ _ (fun q => by subst q; rw [hx] at hz; cases hz) hz⟩⟩, ok.ok, u5 _ _ nCx f4⟩
    refine ⟨_, rfl, x, C, dx, _, _, rfl, f5, cm.c, cm.nh, lk_h, _, rfl, x, C, dx, _, _, rfl, f5, cm.c, cm.nc, lk_c, L, Cc, us, hs, cs, rfl, m5, hi, l64, ?_⟩
    refine k L Cc _ (fun b u h e => ?_) hl0 hc0 ⟨⟨dx, ?_⟩, m5.upd _⟩
    · rw [upd_ne (fun z => by subst z; rw [hc0] at e; cases e)]
      exact up b u h e
    · rw [upd_ne (fun z => nCx z.symm)]
      exact f5
end
end Mh
set_option Elab.async false
set_option linter.all false
set_option maxRecDepth 100000
set_option maxHeartbeats 4000000
namespace Mh
open PySem L2 PyProof.Rows Mx
def intsD (cs : List Int) : PyData := .list (cs.map PyData.int)
theorem ints_all {H : Hp} : ∀ (cs : List Int), AtAll H (cs.map V.int) (cs.map PyData.int)
  | [] => .nil
  | c :: r => .cons (.int c) (ints_all r)
theorem ints_at {H : Hp} {p : Addr} {cs : List Int} (h : H p = some (.lst (cs.map V.int))) : At H (.ref p) (intsD cs) := .lst h (ints_all cs)
theorem ints_lay : ∀ (cs : List Int), PyData.canLayAll0 (cs.map PyData.int) = true
  | [] => rfl
  | c :: r => by show (true && _) = true; rw [ints_lay r]; rfl
theorem ints_lay0 (cs : List Int) : (intsD cs).canLay0 = true := ints_lay cs
theorem ints_depth (cs : List Int) : (intsD cs).depth ≤ 60 := by
  have := depthAll_le (n := 0) (xs := cs.map PyData.int) fun x hx => by
    obtain ⟨c, _, rfl⟩ := List.mem_map.mp hx
    simp [PyData.depth]
  simp only [intsD, PyData.depth]
  omega
theorem ints_eqv (l : List Int) : PyData.eqv (intsD l) (intsD l) = true := SeqAt.eqv_refl _ (ints_lay0 l)
/-- rows or lines to spare: rising, below the number of them -/
structure Spr (ns : List Int) (n : Int) : Prop where
  up : ns.Pairwise (· < ·)
  rg : ∀ x ∈ ns, 0 ≤ x ∧ x < n
  le : ns.length ≤ 8
theorem rise_uniq {ns : List Int} (h : ns.Pairwise (· < ·)) : uniq ns = ns := uniq_nd (h.imp fun h => by omega)
section
variable {P : Program} {w : World} {K : PySem.W.Frag} {mg : Str → Option Value} {base : Heap}
def sp_count : Sp := fun vs H Q _ => ∃ i : Int, vs = [.int i] ∧ 1 ≤ i ∧ i ≤ 8 ∧ Q (.bl true) H
abbrev s_is_count : Stmt := top 46
theorem sc_is_count : FnScope ["thing"] ["thing"] (defScope s_is_count) := ⟨rfl, rfl, rfl, by decide +kernel, rfl, by decide +kernel, by decide +kernel⟩
/- slots: 0 thing -/
theorem ok_count (g_MOST_ROWS : ∃ t, mg "MOST_ROWS" = some (.int 8 t)) (h_is_whole : Has P w K mg base 1 "is_whole" ["thing"] sp_is_whole) (F : FnAt K mg "is_count" s_is_count ["thing"]) : Has P w K mg base 2 "is_count" ["thing"] sp_count := by
  refine Has.ofQ F sc_is_count (fun vs H Q E h => ?_) (fun f cdv A outer s H vs Q E hr h => ?_)
  · obtain ⟨i, rfl, _⟩ := h
    rfl
  · obtain ⟨i, rfl, h1, h2, k⟩ := h
    have sc := sc_is_count
    refine ⟨_, (qss_litQ rfl (qss_one (qs_retE (qe_of (pe_and (pe_callH h_is_whole hr (pa_cons (pv 0) pa_nil)) (pe_and (pe_cmpR op_ge (pv 0) pe_int (nomark _)) (pe_one (pe_cmpR op_le (pv 0) (pe_gint g_MOST_ROWS) (nomark _))))))))), ?_⟩
    refine ⟨_, rfl, i, rfl, _, rfl, iteT ?_⟩
    refine ⟨_, rfl, _, _, rfl, rfl, _, rfl, iteD (by omega) ?_⟩
    refine ⟨_, rfl, _, _, rfl, rfl, ?_⟩
    show Q (.bl (decide (i ≤ 8))) H
    rw [decide_eq_true h2]
    exact k
def sp_are_spares : Sp := fun vs H Q _ => ∃ L ns n, vs = [.ref L, .int n] ∧ H L = some (.lst (ns.map V.int)) ∧ Spr ns n ∧ ∀ H', Same H H' → Q (.bl true) H'
abbrev s_are_spares : Stmt := top 47
theorem sc_are_spares : FnScope ["thing", "count"] ["thing", "count"] (defScope s_are_spares) := ⟨rfl, rfl, rfl, by decide +kernel, rfl, by decide +kernel, by decide +kernel⟩
/- slots: 0 thing, 1 count; cells: count -/
theorem ok_are_spares (B : Bl mg) (z_all : mg "all" = none) (z_set : mg "set" = none) (h_is_whole : Has P w K mg base 1 "is_whole" ["thing"] sp_is_whole) (F : FnAt K mg "are_spares" s_are_spares ["thing", "count"]) : Has P w K mg base 2 "are_spares" ["thing", "count"] sp_are_spares := by
  refine Has.ofQ F sc_are_spares (fun vs H Q E h => ?_) (fun f cdv A outer s H vs Q E hr h => ?_)
  · obtain ⟨L, ns, n, rfl, _⟩ := h
    rfl
  · obtain ⟨L, ns, n, rfl, hL, sp, k⟩ := h
    have sc := sc_are_spares
    refine ⟨_, (qss_litQ rfl (qss_cons (qs_ifT (QW.pt (qw_or (qt_not (qt_valC (qe_callB call_isi rfl (B.of rfl) boot_isinstance (qa_nm (qe_of (pv 0)) (qa_nm (qe_of (pe_bltn (v := .ty "list") rfl (B.of rfl) boot_list rfl)) qa_nil))))) (qw_or1 (qt_not (qt_valC (qe_callB (call_allB rfl) rfl z_all boot_allF (qa_lc (qe_of (pe_comp rfl (compOk_of rfl) (M := ["part"]) (ix := [none]) (pi_list (pv 0)) (fun _ _ _ _ => (pg_name (i := 0) (show List.Nodup (["part"] : List Str) by decide +kernel) rfl (Or.inl rfl))) (fun _ _ _ _ => pts_nil) (fun _ _ _ _ => (pe_callH h_is_whole hr (pa_cons (pv 0) pa_nil))))) qa_nil)))))))
        (qss_one (qs_retE (qe_of pe_bl)))
        qss_nil)
      (qss_one (qs_retE (qe_of (pe_and (pe_cmpR (op_eqD hr) (pv 0) (pe_callB (call_sortSet rfl) rfl (B.of rfl) boot_sortedF (pa_cons (pe_callTy (call_setR rfl) rfl z_set boot_setT (pa_cons (pv 0) pa_nil)) pa_nil)) (nomark _)) (pe_one (pe_callB (call_allB rfl) rfl z_all boot_allF (pa_cons (pe_comp rfl (compOk_of rfl) (M := ["part", "count"]) (ix := [none, some 1]) (pi_list (pv 0)) (fun _ _ _ _ => (pg_name (i := 0) (show List.Nodup (["part", "count"] : List Str) by decide +kernel) rfl (Or.inl rfl))) (fun _ _ _ _ => pts_nil) (fun _ _ _ _ => (pe_and (pe_cmpR op_ge (pv 0) pe_int (nomark _)) (pe_one (pe_cmpR op_lt (pv 0) (pv 1) (nomark _)))))) pa_nil))))))))), ?_⟩
    have le := sp.le
    refine ⟨_, rfl, _, _, _, _, rfl, .lst hL, rfl, _, rfl, iteN rfl ?_⟩
    refine ⟨_, rfl, L, rfl, ⟨_, SqL.of hL⟩, fun D hD => comp_by (n := ns.length) (fun i H' => Same H H' ∧ H' D = some (.lst ((List.replicate i true).map V.bl))) ⟨(Same.refl H).upd hD, upd_same⟩ ?_ ?_⟩
    rotate_left
    · rintro i H3 hi ⟨s3, e3⟩
      refine ⟨⟨_, _, SqL.of (s3 _ _ hL), by rw [List.getElem?_map, List.getElem?_eq_getElem hi]; rfl⟩, ?_⟩
      rintro x H4 ⟨rfl, hx⟩
      obtain ⟨c, hc, rfl⟩ := map_get (hx _ (SqL.of (s3 _ _ hL)))
      refine ⟨KeepS.set (KeepS.refl _) rfl, yes ?_⟩
      refine ⟨_, rfl, c, rfl, ?_⟩
      refine ⟨_, e3, sl_lt (by rw [List.length_map, List.length_replicate]; omega), s3.at hD, ?_⟩
      rw [upd_same, List.replicate_succ', List.map_append]; rfl
    · rintro H3 ⟨s3, e3⟩
      refine ⟨⟨_, SqL.of (s3 _ _ hL), by simp⟩, ?_⟩
      refine ⟨D, _, rfl, e3, _, rfl, iteN (by simp) ?_⟩
      have hL3 := s3 _ _ hL
      refine ⟨_, rfl, _, rfl, L, _, rfl, hL3, by omega, fun q hq => ?_⟩
      have s4 : Same H3 (upd H3 q (SetO P w q (uniq ns))) := (Same.refl H3).upd hq
      refine ⟨q, _, rfl, upd_same, by rw [rise_uniq sp.up]; omega, fun l ns' hl hpm hso => ?_⟩
      have e : ns' = ns := rising_eq (hpm.trans (by rw [rise_uniq sp.up])) hso (sp.up.imp fun h => by omega)
      subst e
      have s5 := s4.upd (o := .lst (ns'.map V.int)) hl
      refine ⟨_, _, ints_at (s5 _ _ hL3), ints_at upd_same, ints_lay0 _, ints_lay0 _, ints_depth _, _, rfl, iteB (ints_eqv _) ?_⟩
      generalize hG5 : upd _ l _ = H5
      have s35 : Same H H5 := by rw [← hG5]; exact s3.trans s5
      have hL5 := s35 _ _ hL
      refine ⟨_, rfl, L, rfl, ⟨_, SqL.of hL5⟩, fun D2 hD2 => comp_by (n := ns'.length) (fun i H' => Same H5 H' ∧ H' D2 = some (.lst ((List.replicate i true).map V.bl))) ⟨(Same.refl H5).upd hD2, upd_same⟩ ?_ ?_⟩
      · rintro H6 ⟨s6, e6⟩
        refine ⟨⟨_, SqL.of (s6 _ _ hL5), by simp⟩, ?_⟩
        refine ⟨D2, _, rfl, e6, ?_⟩
        rw [show (List.replicate ns'.length true).all id = true by simp]
        exact k _ (s35.trans s6)
      · rintro i H6 hi ⟨s6, e6⟩
        refine ⟨⟨_, _, SqL.of (s6 _ _ hL5), by rw [List.getElem?_map, List.getElem?_eq_getElem hi]; rfl⟩, ?_⟩
        rintro x H7 ⟨rfl, hx⟩
        obtain ⟨c, hc, rfl⟩ := map_get (hx _ (SqL.of (s6 _ _ hL5)))
        have hr2 := sp.rg c (List.mem_of_getElem? hc)
        refine ⟨KeepS.set (KeepS.refl _) rfl, yes ?_⟩
        refine ⟨_, rfl, _, _, rfl, rfl, _, rfl, iteD (by omega) ?_⟩
        refine ⟨_, rfl, _, rfl, _, _, rfl, rfl, ?_⟩
        refine ⟨_, e6, sl_lt (by rw [List.length_map, List.length_replicate]; omega), s6.at hD2, ?_⟩
        rw [upd_same, List.replicate_succ', List.map_append]
        show _ = some (HO.lst (_ ++ [V.bl true]))
        rw [← decide_eq_true hr2.2]
def sp_look_counts : Sp := fun vs H Q _ => ∃ r l : Int, vs = [.int r, .int l] ∧ 1 ≤ r ∧ r ≤ 8 ∧ 1 ≤ l ∧ l ≤ 8 ∧ Q .non H
abbrev s_look_at_counts : Stmt := top 48
theorem sc_look_at_counts : FnScope ["rows", "lines"] ["rows", "lines"] (defScope s_look_at_counts) := ⟨rfl, rfl, rfl, by decide +kernel, rfl, by decide +kernel, by decide +kernel⟩
/- slots: 0 rows, 1 lines -/
theorem ok_look_counts (h_is_count : Has P w K mg base 2 "is_count" ["thing"] sp_count) (F : FnAt K mg "look_at_counts" s_look_at_counts ["rows", "lines"]) : Has P w K mg base 3 "look_at_counts" ["rows", "lines"] sp_look_counts := by
  refine Has.ofQ F sc_look_at_counts (fun vs H Q E h => ?_) (fun f cdv A outer s H vs Q E hr h => ?_)
  · obtain ⟨r, l, rfl, _⟩ := h
    rfl
  · obtain ⟨r, l, rfl, h1, h2, h3, h4, k⟩ := h
    have sc := sc_look_at_counts
    refine ⟨_, (qss_litQ rfl (qss_one (qs_ifT (QW.pt (qw_or (qt_not (qt_valC (qe_callH h_is_count hr (qa_nm (qe_of (pv 0)) qa_nil)))) (qw_or1 (qt_not (qt_valC (qe_callH h_is_count hr (qa_nm (qe_of (pv 1)) qa_nil)))))))
        (qss_one (qs_of ps_never))
        qss_nil))), ?_⟩
    refine ⟨_, rfl, r, rfl, h1, h2, _, rfl, iteN rfl ?_⟩
    exact ⟨_, rfl, l, rfl, h3, h4, _, rfl, iteN rfl k⟩
def sp_look_spares : Sp := fun vs H Q _ => ∃ (r l : Int) (L M : Addr) (ns ms : List Int), vs = [.int r, .int l, .ref L, .ref M] ∧ H L = some (.lst (ns.map V.int)) ∧ H M = some (.lst (ms.map V.int)) ∧ Spr ns r ∧ Spr ms l ∧ ∀ H', Same H H' → Q .non H'
abbrev s_look_at_spares : Stmt := top 49
theorem sc_look_at_spares : FnScope ["rows", "lines", "spare_rows", "spare_lines"] ["rows", "lines", "spare_rows", "spare_lines"] (defScope s_look_at_spares) := ⟨rfl, rfl, rfl, by decide +kernel, rfl, by decide +kernel, by decide +kernel⟩
/- slots: 0 rows, 1 lines, 2 spare_rows, 3 spare_lines -/
theorem ok_look_spares (h_are_spares : Has P w K mg base 2 "are_spares" ["thing", "count"] sp_are_spares) (F : FnAt K mg "look_at_spares" s_look_at_spares ["rows", "lines", "spare_rows", "spare_lines"]) : Has P w K mg base 3 "look_at_spares" ["rows", "lines", "spare_rows", "spare_lines"] sp_look_spares := by
  refine Has.ofQ F sc_look_at_spares (fun vs H Q E h => ?_) (fun f cdv A outer s H vs Q E hr h => ?_)
  · obtain ⟨r, l, L, M, ns, ms, rfl, _⟩ := h
    rfl
  · obtain ⟨r, l, L, M, ns, ms, rfl, hL, hM, h1, h2, k⟩ := h
    have sc := sc_look_at_spares
    refine ⟨_, (qss_litQ rfl (qss_one (qs_ifT (QW.pt (qw_or (qt_not (qt_valC (qe_callH h_are_spares hr (qa_nm (qe_of (pv 2)) (qa_nm (qe_of (pv 0)) qa_nil))))) (qw_or1 (qt_not (qt_valC (qe_callH h_are_spares hr (qa_nm (qe_of (pv 3)) (qa_nm (qe_of (pv 1)) qa_nil))))))))
        (qss_one (qs_of ps_never))
        qss_nil))), ?_⟩
    refine ⟨_, rfl, _, rfl, L, ns, r, rfl, hL, h1, fun H1 s1 => ⟨_, rfl, iteN rfl ?_⟩⟩
    exact ⟨_, rfl, _, rfl, M, ms, l, rfl, s1 _ _ hM, h2, fun H2 s2 => ⟨_, rfl, iteN rfl (k _ (s1.trans s2))⟩⟩
end
end Mh
set_option Elab.async false
set_option linter.all false
set_option maxRecDepth 100000
set_option maxHeartbeats 4000000
namespace Mh
open PySem L2 PyProof.Rows Mx
def fsN (m d : Addr) : List (Str × V) := [("harmed", .ref m), ("spare", .ref d)]
structure CN (K : PySem.W.Frag) (C : Addr) : Prop where
  c : Cls K C
  nh : NoAttr K C "harmed"
  ns : NoAttr K C "spare"
theorem lk_hd {L Cc : Addr} : (fsN L Cc).lookup ("harmed" : Str) = some (V.ref L) := by
  unfold fsN
  rw [List.lookup_cons, show (("harmed" : Str) == "harmed") = true by decide +kernel]
theorem lk_sp {L Cc : Addr} : (fsN L Cc).lookup ("spare" : Str) = some (V.ref Cc) := by
  unfold fsN
  rw [List.lookup_cons, show (("spare" : Str) == "harmed") = false by decide +kernel, List.lookup_cons, show (("spare" : Str) == "spare") = true by decide +kernel]
theorem MemO.same {H H' : Hp} {C m L Cc : Addr} {us : List V} {hs : List Hm} {cs : List Int} (h : MemO H C m L Cc us hs cs) (s : Same H H') : MemO H' C m L Cc us hs cs := by
  obtain ⟨⟨dx, ho⟩, mm⟩ := h
  exact ⟨⟨dx, s _ _ ho⟩, mm.same s⟩
/-- what a dict of spare cells has -/
def SpD (kvs : List (Key × V)) (sp : Nat → Bool) (vs : List Int) : Prop := ∀ a : Nat, a < vs.length → valV kvs (.inl (a : Int)) = if sp a = true then some (.int (vs.getD a 0)) else none
structure MenO (H : Hp) (C N e m L Cc : Addr) (us : List V) (hs : List Hm) (cs : List Int) (d : Addr) (kvs : List (Key × V)) : Prop where
  o : ∃ dx, H e = some (.ins N dx (fsN m d))
  m : MemO H C m L Cc us hs cs
  d : H d = some (.dK kvs)
section
variable {P : Program} {w : World} {K : PySem.W.Frag} {mg : Str → Option Value} {base : Heap} {C N : Addr}
abbrev s_Mended_read : Stmt := inClass (top 50) 1
theorem sc_Mended_read : FnScope ["self", "address"] ["self", "address"] (defScope s_Mended_read) := ⟨rfl, rfl, rfl, by decide +kernel, rfl, by decide +kernel, by decide +kernel⟩
/- slots: 0 self, 1 address -/
abbrev s_Mended_write : Stmt := inClass (top 50) 2
theorem sc_Mended_write : FnScope ["self", "address", "bit"] ["self", "address", "bit"] (defScope s_Mended_write) := ⟨rfl, rfl, rfl, by decide +kernel, rfl, by decide +kernel, by decide +kernel⟩
/- slots: 0 self, 1 address, 2 bit -/
abbrev s_Mended_size : Stmt := inClass (top 50) 4
theorem sc_Mended_size : FnScope ["self"] ["self"] (defScope s_Mended_size) := ⟨rfl, rfl, rfl, by decide +kernel, rfl, by decide +kernel, by decide +kernel⟩
/- slots: 0 self -/
def sp_n_read (C N : Addr) : Sp := fun vs H Q _ => ∃ e m L Cc us hs cs d kvs sp ws, ∃ a : Nat, vs = [.ref e, .int (a : Int)] ∧ MenO H C N e m L Cc us hs cs d kvs ∧ InR hs cs.length ∧ SpD kvs sp ws ∧ ws.length = cs.length ∧ a < cs.length ∧
  (sp a = true → Q (.int (ws.getD a 0)) H) ∧ (sp a = false → ∀ H', UpC H Cc (readAt hs cs a).2 H' → Q (.int (readAt hs cs a).1) H')
theorem ok_n_read (cm : CM K C) (cn : CN K N) (hm_addr : HasM P w K mg base C 2 "look_at_address" ["self", "address"] (sp_m_addr C)) (hm_read : HasM P w K mg base C 5 "read" ["self", "address"] (sp_m_read C)) (F : MethAt K N "read" "Mended.read" s_Mended_read ["self", "address"]) : HasM P w K mg base N 6 "read" ["self", "address"] (sp_n_read C N) := by
  refine HasM.ofQ F sc_Mended_read (fun vs H Q E h => ?_) (fun f cdv A outer s H vs Q E hr h => ?_)
  · obtain ⟨e, m, L, Cc, us, hs, cs, d, kvs, sp, ws, a, rfl, _⟩ := h
    rfl
  · obtain ⟨e, m, L, Cc, us, hs, cs, d, kvs, sp, ws, a, rfl, mo, hi, hsp, hwl, ha, k1, k2⟩ := h
    have sc := sc_Mended_read
    refine ⟨_, (qss_litQ rfl (qss_cons (qs_expr (qe_methH cm.c hm_addr hr (qe_fld (qe_of (pv 0)) rfl) (qa_nm (qe_of (pv 1)) qa_nil)))
      (qss_one (qs_retE (qe_ifExp (qt_of (pt_cmp (pc_din (hu_of hr) (QE.of (qe_of (pv 1))) (QE.of (qe_fld (qe_of (pv 0)) rfl))) (by with_unfolding_all rfl))) (qe_dget (hu_of hr) (qe_fld (qe_of (pv 0)) rfl) (qe_of (pv 1)) (fun _ _ => rfl)) (qe_methH cm.c hm_read hr (qe_fld (qe_of (pv 0)) rfl) (qa_nm (qe_of (pv 1)) qa_nil))))))), ?_⟩
    obtain ⟨⟨dx, ho⟩, mm, hd⟩ := id mo
    obtain ⟨⟨dy, hm⟩, _⟩ := id mm
    have hv := hsp a (by omega)
    refine ⟨_, rfl, e, N, dx, _, _, rfl, ho, cn.c, cn.nh, lk_hd, m, dy, _, rfl, hm, lk_n, _, rfl, m, L, Cc, us, hs, cs, a, rfl, mm, by omega, by omega, ?_⟩
    refine ⟨_, rfl, _, rfl, e, N, dx, _, _, rfl, ho, cn.c, cn.ns, lk_sp, d, _, rfl, DGet.k (k := .inl (a : Int)) hd, _, rfl, ?_⟩
    cases hs' : sp a with
    | true =>
      rw [hs', if_pos rfl] at hv
      refine iteB (by rw [hv]; rfl) ?_
      exact ⟨_, rfl, e, N, dx, _, _, rfl, ho, cn.c, cn.ns, lk_sp, _, rfl, d, _, rfl, by rw [← hv]; exact DGet.k (k := .inl (a : Int)) hd, k1 hs'⟩
    | false =>
      rw [hs', if_neg (by simp)] at hv
      refine iteN (by rw [hv]; rfl) ?_
      exact ⟨_, rfl, e, N, dx, _, _, rfl, ho, cn.c, cn.nh, lk_hd, m, dy, _, rfl, hm, lk_n, _, rfl, m, L, Cc, us, hs, cs, a, rfl, mm, hi, by omega, by omega, k2 hs'⟩
def sp_n_write (C N : Addr) : Sp := fun vs H Q _ => ∃ e m L Cc us hs cs d kvs sp ws, ∃ a : Nat, ∃ b : Bool, vs = [.ref e, .int (a : Int), .int (b2i b)] ∧ MenO H C N e m L Cc us hs cs d kvs ∧ InR hs cs.length ∧ SpD kvs sp ws ∧ ws.length = cs.length ∧ a < cs.length ∧ kvs.length ≤ 64 ∧
  (sp a = true → ∀ H1, Same H H1 → Q .non (upd H1 d (.dK (putK kvs (.inl (a : Int)) (.int (b2i b)))))) ∧ (sp a = false → ∀ H', UpC H Cc (writeAt hs cs a (b2i b)) H' → Q .non H')
theorem ok_n_write (cm : CM K C) (cn : CN K N) (hm_addr : HasM P w K mg base C 2 "look_at_address" ["self", "address"] (sp_m_addr C)) (h_look_at_bit : Has P w K mg base 3 "look_at_bit" ["thing"] sp_look_at_bit) (hm_write : HasM P w K mg base C 6 "write" ["self", "address", "bit"] (sp_m_write C)) (F : MethAt K N "write" "Mended.write" s_Mended_write ["self", "address", "bit"]) : HasM P w K mg base N 7 "write" ["self", "address", "bit"] (sp_n_write C N) := by
  refine HasM.ofQ F sc_Mended_write (fun vs H Q E h => ?_) (fun f cdv A outer s H vs Q E hr h => ?_)
  · obtain ⟨e, m, L, Cc, us, hs, cs, d, kvs, sp, ws, a, b, rfl, _⟩ := h
    rfl
  · obtain ⟨e, m, L, Cc, us, hs, cs, d, kvs, sp, ws, a, b, rfl, mo, hi, hsp, hwl, ha, hk64, k1, k2⟩ := h
    have sc := sc_Mended_write
    refine ⟨_, (qss_litQ rfl (qss_cons (qs_expr (qe_methH cm.c hm_addr hr (qe_fld (qe_of (pv 0)) rfl) (qa_nm (qe_of (pv 1)) qa_nil)))
      (qss_cons (qs_expr (qe_callH h_look_at_bit hr (qa_nm (qe_of (pv 2)) qa_nil)))
      (qss_one (qs_ifT (qt_of (pt_cmp (pc_din (hu_of hr) (QE.of (qe_of (pv 1))) (QE.of (qe_fld (qe_of (pv 0)) rfl))) (by with_unfolding_all rfl)))
        (qss_one (qs_of (ps_dput (hu_of hr) (QE.of (qe_fld (qe_of (pv 0)) rfl)) (QE.of (qe_of (pv 1))) (QE.of (qe_of (pv 2))) rfl)))
        (qss_one (qs_expr (qe_methH cm.c hm_write hr (qe_fld (qe_of (pv 0)) rfl) (qa_nm (qe_of (pv 1)) (qa_nm (qe_of (pv 2)) qa_nil)))))))))), ?_⟩
    obtain ⟨⟨dx, ho⟩, mm, hd⟩ := id mo
    obtain ⟨⟨dy, hm⟩, _⟩ := id mm
    have hv := hsp a (by omega)
    refine ⟨_, rfl, e, N, dx, _, _, rfl, ho, cn.c, cn.nh, lk_hd, m, dy, _, rfl, hm, lk_n, _, rfl, m, L, Cc, us, hs, cs, a, rfl, mm, by omega, by omega, ?_⟩
    refine ⟨_, rfl, b, rfl, fun H1 s1 => ?_⟩
    have ho1 := s1 _ _ ho
    have hd1 := s1 _ _ hd
    refine ⟨_, rfl, _, rfl, e, N, dx, _, _, rfl, ho1, cn.c, cn.ns, lk_sp, d, _, rfl, DGet.k (k := .inl (a : Int)) hd1, _, rfl, ?_⟩
    cases hs' : sp a with
    | true =>
      rw [hs', if_pos rfl] at hv
      refine iteB (by rw [hv]; rfl) ?_
      exact ⟨_, rfl, _, rfl, e, N, dx, _, _, rfl, ho1, cn.c, cn.ns, lk_sp, _, rfl, d, _, rfl, DPut.k (k := .inl (a : Int)) hd1 (sl_lt (by omega)), k1 hs' H1 s1⟩
    | false =>
      rw [hs', if_neg (by simp)] at hv
      refine iteN (by rw [hv]; rfl) ?_
      refine ⟨_, rfl, e, N, dx, _, _, rfl, ho1, cn.c, cn.nh, lk_hd, m, dy, _, rfl, s1 _ _ hm, lk_n, _, rfl, _, rfl, m, L, Cc, us, hs, cs, a, b, rfl, mm.same s1, hi, by omega, by omega, fun H2 u2 => k2 hs' H2 ?_⟩
      exact (UpC.of s1 mm.m.hc).trans u2
def sp_n_size (C N : Addr) : Sp := fun vs H Q _ => ∃ e m L Cc us hs cs d kvs, vs = [.ref e] ∧ MenO H C N e m L Cc us hs cs d kvs ∧ Q (.int (cs.length : Nat)) H
theorem ok_n_size (cm : CM K C) (cn : CN K N) (hm_size : HasM P w K mg base C 1 "size" ["self"] (sp_m_size C)) (F : MethAt K N "size" "Mended.size" s_Mended_size ["self"]) : HasM P w K mg base N 2 "size" ["self"] (sp_n_size C N) := by
  refine HasM.ofQ F sc_Mended_size (fun vs H Q E h => ?_) (fun f cdv A outer s H vs Q E hr h => ?_)
  · obtain ⟨e, m, L, Cc, us, hs, cs, d, kvs, rfl, _⟩ := h
    rfl
  · obtain ⟨e, m, L, Cc, us, hs, cs, d, kvs, rfl, mo, k⟩ := h
    have sc := sc_Mended_size
    refine ⟨_, (qss_litQ rfl (qss_one (qs_retE (qe_methH0 cm.c hm_size hr (qe_fld (qe_of (pv 0)) rfl))))), ?_⟩
    obtain ⟨⟨dx, ho⟩, mm, hd⟩ := id mo
    obtain ⟨⟨dy, hm⟩, _⟩ := id mm
    exact ⟨_, rfl, e, N, dx, _, _, rfl, ho, cn.c, cn.nh, lk_hd, m, dy, _, rfl, hm, lk_n, m, L, Cc, us, hs, cs, rfl, mm, k⟩
end
end Mh
set_option Elab.async false
set_option linter.all false
set_option maxRecDepth 100000
set_option maxHeartbeats 4000000
namespace Mh
open PySem L2 PyProof.Rows Mx
/-- what is held, the spare cells in their places -/
def mixL (sp : Nat → Bool) (ws cs : List Int) : List Int := (List.range cs.length).map fun a => if sp a = true then ws.getD a 0 else cs.getD a 0
section
variable {P : Program} {w : World} {K : PySem.W.Frag} {mg : Str → Option Value} {base : Heap} {C N : Addr}
abbrev s_Mended_holds : Stmt := inClass (top 50) 3
theorem sc_Mended_holds : FnScope ["self"] ["self"] (defScope s_Mended_holds) := ⟨rfl, rfl, rfl, by decide +kernel, rfl, by decide +kernel, by decide +kernel⟩
/- slots: 0 self; cells: self -/
def sp_n_holds (C N : Addr) : Sp := fun vs H Q _ => ∃ e m L Cc us hs cs d kvs sp ws, vs = [.ref e] ∧ MenO H C N e m L Cc us hs cs d kvs ∧ SpD kvs sp ws ∧ ws.length = cs.length ∧ cs.length ≤ 64 ∧
  ∀ D H', Same H H' → H D = none → H' D = some (.lst ((mixL sp ws cs).map V.int)) → Q (.ref D) H'
theorem ok_n_holds (B : Bl mg) (cm : CM K C) (cn : CN K N) (hm_holds : HasM P w K mg base C 1 "holds" ["self"] (sp_m_holds C)) (F : MethAt K N "holds" "Mended.holds" s_Mended_holds ["self"]) : HasM P w K mg base N 2 "holds" ["self"] (sp_n_holds C N) := by
  refine HasM.ofQ F sc_Mended_holds (fun vs H Q E h => ?_) (fun f cdv A outer s H vs Q E hr h => ?_)
  · obtain ⟨e, m, L, Cc, us, hs, cs, d, kvs, sp, ws, rfl, _⟩ := h
    rfl
  · obtain ⟨e, m, L, Cc, us, hs, cs, d, kvs, sp, ws, rfl, mo, hsp, hwl, h64, k⟩ := h
    have sc := sc_Mended_holds
    refine ⟨_, (qss_litQ rfl (qss_one (qs_retE (qe_of (pe_comp rfl (compOk_of rfl) (M := ["address", "bit", "self"]) (ix := [none, none, some 0]) (pi_enum rfl (B.of rfl) (pa_cons (QE.of (qe_methH0 cm.c hm_holds hr (qe_fld (qe_of (pv 0)) rfl))) pa_nil)) (fun _ _ _ _ => (pg_tupK (K := K) (n := 2) rfl rfl (pgs_cons (pg_name (i := 0) (show List.Nodup (["address", "bit", "self"] : List Str) by decide +kernel) rfl (Or.inl rfl)) (pgs_cons (pg_name (i := 1) (show List.Nodup (["address", "bit", "self"] : List Str) by decide +kernel) rfl (Or.inl rfl)) pgs_nil)))) (fun _ _ _ _ => pts_nil) (fun _ _ _ _ => (pe_dget2 (hu_of hr) (pe_fldK (K := K) rfl (pv 2) rfl) (pv 0) (pv 1) ⟨rfl, rfl, rfl, rfl⟩))))))), ?_⟩
    obtain ⟨⟨dx, ho⟩, mm, hd⟩ := id mo
    obtain ⟨⟨dy, hm⟩, _⟩ := id mm
    refine ⟨_, rfl, e, N, dx, _, _, rfl, ho, cn.c, cn.nh, lk_hd, m, dy, _, rfl, hm, lk_n, m, L, Cc, us, hs, cs, rfl, mm, fun q hq => ?_⟩
    generalize hG1 : upd H q _ = H1
    have s1 : Same H H1 := by rw [← hG1]; exact (Same.refl H).upd hq
    have f1 : H1 q = some (.lst (cs.map V.int)) := by rw [← hG1]; exact upd_same
    refine ⟨q, _, rfl, SqL.of f1, fun D hD => comp_by (n := cs.length) (fun i H' => Same H1 H' ∧ H' D = some (.lst (((mixL sp ws cs).take i).map V.int))) ⟨(Same.refl H1).upd hD, upd_same⟩ ?_ ?_⟩
    · rintro H2 ⟨s2, e2⟩
      refine ⟨⟨_, SqL.of (s2 _ _ f1), by simp⟩, ?_⟩
      rw [List.take_of_length_le (by simp [mixL])] at e2
      exact k D H2 (s1.trans s2) (s1.free hD) e2
    · rintro i H2 hi ⟨s2, e2⟩
      refine ⟨⟨_, _, SqL.of (s2 _ _ f1), List.getElem?_eq_getElem (by simpa using hi)⟩, ?_⟩
      rintro x H3 ⟨pp, y, hpp, rfl, rfl, hy⟩
      obtain ⟨c, hc, rfl⟩ := int_get (hy _ (SqL.of (s2 _ _ f1)))
      have s3 : Same H2 (upd H2 pp (.tup [.int i, .int c])) := (Same.refl H2).upd hpp
      refine ⟨pp, _, rfl, SqT.of upd_same, rfl, ?_⟩
      revert s3
      generalize upd H2 pp (.tup [.int i, .int c]) = H3
      intro s3
      refine ⟨_, _, rfl, _, _, rfl, rfl, KeepS.set (KeepS.set (KeepS.refl _) rfl) rfl, yes ?_⟩
      have s13 := (s1.trans s2).trans s3
      have hd3 := s13 _ _ hd
      have hv := hsp i (by omega)
      refine ⟨_, rfl, e, N, dx, _, _, rfl, s13 _ _ ho, cn.c, cn.ns, lk_sp, d, rfl, .inl ⟨kvs, .inl hd3⟩, _, rfl, _, rfl, _, DGet.k (k := .inl (i : Int)) hd3, ?_⟩
      refine ⟨_, s3 _ _ e2, sl_lt (by rw [List.length_map, List.length_take]; omega), (s2.trans s3).at hD, ?_⟩
      rw [upd_same, List.take_add_one, List.map_append]
      have hm : (mixL sp ws cs)[i]? = some (if sp i = true then ws.getD i 0 else cs.getD i 0) := by
        unfold mixL
        rw [List.getElem?_map, List.getElem?_range hi]
        rfl
      have hcd : cs.getD i 0 = c := by rw [List.getD_eq_getElem?_getD, hc]; rfl
      rw [hm, hv, hcd]
      cases sp i <;> rfl
end
end Mh
set_option Elab.async false
set_option linter.all false
set_option maxRecDepth 100000
set_option maxHeartbeats 4000000
namespace Mh
open PySem L2 PyProof.Rows Mx
/-- whether an address is in a spared row or line -/
def spF (ns ms : List Int) (l : Int) (a : Nat) : Bool := decide ((a : Int) / l ∈ ns ∨ (a : Int) % l ∈ ms)
def spk (sp : Nat → Bool) (cs : List Int) : Nat → List (Key × V)
  | 0 => []
  | i + 1 => if sp i = true then putK (spk sp cs i) (.inl (i : Int)) (.int (cs.getD i 0)) else spk sp cs i
theorem spk_len (sp : Nat → Bool) (cs : List Int) : ∀ i, (spk sp cs i).length ≤ i
  | 0 => Nat.le_refl _
  | i + 1 => by
    have h1 := spk_len sp cs i
    have h2 := length_putK (spk sp cs i) (.inl (i : Int)) (.int (cs.getD i 0))
    unfold spk
    split <;> omega
theorem spk_val (sp : Nat → Bool) (cs : List Int) (a : Nat) : ∀ i, valV (spk sp cs i) (.inl (a : Int)) = if a < i ∧ sp a = true then some (.int (cs.getD a 0)) else none
  | 0 => by simp [spk, valV]
  | i + 1 => by
    have ih := spk_val sp cs a i
    unfold spk
    by_cases hs : sp i = true
    · rw [if_pos hs, valV_put, ih]
      by_cases e : a = i
      · subst e
        rw [if_pos rfl, if_pos ⟨by omega, hs⟩]
      · rw [if_neg (fun z => e (by have := Sum.inl.inj z; omega))]
        by_cases h : a < i ∧ sp a = true
        · rw [if_pos h, if_pos ⟨by omega, h.2⟩]
        · rw [if_neg h, if_neg (fun z => h ⟨by omega, z.2⟩)]
    · rw [if_neg hs, ih]
      by_cases h : a < i ∧ sp a = true
      · rw [if_pos h, if_pos ⟨by omega, h.2⟩]
      · rw [if_neg h, if_neg (fun z => h ⟨by
          rcases Nat.lt_or_ge a i with q | q
          · exact q
          · have : a = i := by omega
            subst this
            exact absurd z.2 hs, z.2⟩)]
theorem spk_is {sp : Nat → Bool} {cs : List Int} : SpD (spk sp cs cs.length) sp cs := fun a ha => by
  rw [spk_val]
  by_cases h : sp a = true
  · rw [if_pos ⟨ha, h⟩, if_pos h]
  · rw [if_neg (fun z => h z.2), if_neg h]
theorem int_mem {x : Int} {l : List Int} : inV (.int x) (l.map V.int) = decide (x ∈ l) := by
  unfold inV
  rw [Bool.eq_iff_iff]
  simp only [List.any_map, List.any_eq_true, Function.comp_apply, decide_eq_true_eq]
  constructor
  · rintro ⟨y, hy, e⟩
    have : y = x := by simpa [eqV] using e
    rw [← this]; exact hy
  · intro h
    exact ⟨x, h, by simp [eqV]⟩
theorem cmul8 {r l : Int} (h1 : 0 ≤ r) (h2 : r ≤ 8) (h3 : 0 ≤ l) (h4 : l ≤ 8) : CMul r l := by
  have e : (2 : Int) ^ 64 = 18446744073709551616 := by decide
  exact .inl ⟨by omega, by omega⟩
section
variable {P : Program} {w : World} {K : PySem.W.Frag} {mg : Str → Option Value} {base : Heap} {C N : Addr}
abbrev s_Mended___init__ : Stmt := inClass (top 50) 0
theorem sc_Mended___init__ : FnScope ["self", "rows", "lines", "harms", "contents", "spare_rows", "spare_lines", "address", "bit"] ["self", "rows", "lines", "harms", "contents", "spare_rows", "spare_lines"] (defScope s_Mended___init__) := ⟨rfl, rfl, rfl, by decide +kernel, rfl, by decide +kernel, by decide +kernel⟩
/- slots: 0 self, 1 rows, 2 lines, 3 harms, 4 contents, 5 spare_rows, 6 spare_lines, 7 address, 8 bit -/
def sp_n_init (C N : Addr) : Sp := fun vs H Q _ => ∃ (x dx L0 C0 R M : Addr) (r l : Int) (us : List V) (hs : List Hm) (S cs ns ms : List Int), vs = [.ref x, .int r, .int l, .ref L0, .ref C0, .ref R, .ref M] ∧ H x = some (.ins N dx []) ∧ 1 ≤ r ∧ r ≤ 8 ∧ 1 ≤ l ∧ l ≤ 8 ∧ r * l = cs.length ∧
  H L0 = some (.lst us) ∧ HsV H us hs ∧ okHs hs S ∧ InR hs cs.length ∧ H C0 = some (.lst (cs.map V.int)) ∧ bits cs ∧ H R = some (.lst (ns.map V.int)) ∧ Spr ns r ∧ H M = some (.lst (ms.map V.int)) ∧ Spr ms l ∧
  ∀ (m L Cc d : Addr) (kvs : List (Key × V)) (H' : Hp), (∀ b u, b ≠ x → H b = some u → H' b = some u) → H m = none → H L = none → H Cc = none → H d = none → MenO H' C N x m L Cc us hs (settleM hs cs) d kvs → SpD kvs (spF ns ms l) cs → kvs.length ≤ cs.length → Q .non H'
theorem ok_n_init (B : Bl mg) (cm : CM K C) (cn : CN K N) (h_look_at_harms : Has P w K mg base 6 "look_at_harms" ["thing"] sp_look_at_harms) (h_look_at_counts : Has P w K mg base 3 "look_at_counts" ["rows", "lines"] sp_look_counts) (h_look_at_spares : Has P w K mg base 3 "look_at_spares" ["rows", "lines", "spare_rows", "spare_lines"] sp_look_spares)
    (hi_Memory : HasI P w K mg base C 9 "Memory" ["self", "size", "harms", "contents"] (sp_m_init C)) (F : MethAt K N "__init__" "Mended.__init__" s_Mended___init__ ["self", "rows", "lines", "harms", "contents", "spare_rows", "spare_lines"]) :
    HasM P w K mg base N 11 "__init__" ["self", "rows", "lines", "harms", "contents", "spare_rows", "spare_lines"] (sp_n_init C N) := by
  refine HasM.ofQ F sc_Mended___init__ (fun vs H Q E h => ?_) (fun f cdv A outer s H vs Q E hr h => ?_)
  · obtain ⟨x, dx, L0, C0, R, M, r, l, us, hs, S, cs, ns, ms, rfl, _⟩ := h
    rfl
  · obtain ⟨x, dx, L0, C0, R, M, r, l, us, hs, S, cs, ns, ms, rfl, hx, r1, r8, l1, l8, hrl, hL0, hv, ok, ir, hC0, hb, hR, hsr, hM, hsm, k⟩ := h
    have sc := sc_Mended___init__
    refine ⟨_, (qss_litQ rfl (qss_cons (qs_expr (qe_callH h_look_at_harms hr (qa_nm (qe_of (pv 3)) qa_nil)))
      (qss_cons (qs_expr (qe_callH h_look_at_counts hr (qa_nm (qe_of (pv 1)) (qa_nm (qe_of (pv 2)) qa_nil))))
      (qss_cons (qs_fld (qe_of (pv 0)) (qe_makeH hi_Memory hr (qa_bo (qe_op op_mul (qe_of (pv 1)) (qe_of (pv 2))) (qa_nm (qe_of (pv 3)) (qa_nm (qe_of (pv 4)) qa_nil)))) rfl)
      (qss_cons (qs_expr (qe_callH h_look_at_spares hr (qa_nm (qe_of (pv 1)) (qa_nm (qe_of (pv 2)) (qa_nm (qe_of (pv 5)) (qa_nm (qe_of (pv 6)) qa_nil))))))
      (qss_cons (qs_fld (qe_of (pv 0)) (qe_of pe_dnewK) rfl)
      (qss_one (qs_for PassesOwn.never rfl (qi_of (pi_enum rfl (B.of rfl) (pa_cons (pv 4) pa_nil))) (pg_tup rfl (pgs_cons (pg_name (i := 7) sc.nd rfl (Or.inl rfl)) (pgs_cons (pg_name (i := 8) sc.nd rfl (Or.inl rfl)) pgs_nil)))
        (qss_one (qs_ifT (QW.pt (qw_or (qt_cmpR op_in_seq (qe_op op_fdiv (qe_of (pv 7)) (qe_of (pv 2))) (qe_of (pv 5)) (by with_unfolding_all rfl)) (qw_or1 (qt_cmpR op_in_seq (qe_op op_mod (qe_of (pv 7)) (qe_of (pv 2))) (qe_of (pv 6)) (by with_unfolding_all rfl)))))
          (qss_one (qs_of (ps_dput (hu_of hr) (QE.of (qe_fld (qe_of (pv 0)) rfl)) (QE.of (qe_of (pv 7))) (QE.of (qe_of (pv 8))) rfl)))
          qss_nil)))))))))), ?_⟩
    have hle : cs.length ≤ 64 ∧ 1 ≤ cs.length := by
      have h1 : r * l ≤ 8 * 8 := Int.mul_le_mul r8 l8 (by omega) (by omega)
      have h2 : 1 * 1 ≤ r * l := Int.mul_le_mul r1 l1 (by omega) (by omega)
      omega
    refine ⟨_, rfl, L0, us, hs, S, rfl, hL0, hv, ok, fun H1 s1 => ?_⟩
    refine ⟨_, rfl, _, rfl, r, l, rfl, r1, r8, l1, l8, ?_⟩
    refine ⟨_, rfl, _, rfl, _, _, rfl, rfl, cmul8 (by omega) r8 (by omega) l8, _, rfl, _, rfl, ?_⟩
    intro m dm nm ndm nmd
    generalize hG2 : upd (upd H1 dm (.own m)) m (.ins C dm []) = H2
    have s2 : Same H1 H2 := by rw [← hG2]; exact ((Same.refl H1).upd (o := .own m) ndm).upd (o := .ins C dm []) (p := m) (by rw [upd_ne (fun z => nmd z.symm)]; exact nm)
    have f2 : H2 m = some (.ins C dm []) := by rw [← hG2]; exact upd_same
    clear hG2
    have s12 := s1.trans s2
    have nmx : m ≠ x := fun z => by subst z; rw [s1 _ _ hx] at nm; cases nm
    refine ⟨m, dm, L0, C0, us, hs, S, cs, ?_, f2, s12 _ _ hL0, hv.same s12, ok, ir, s12 _ _ hC0, hb, hle.2, hle.1, fun L Cc H3 st3 nL nCc mo => ⟨rfl, ?_⟩⟩
    · show [V.ref m, V.int (r * l), V.ref L0, V.ref C0] = _
      rw [hrl]
    have up3 : ∀ {b : Addr} {u : HO}, H b = some u → H3 b = some u := fun {b u} e => st3 b u (fun z => by subst z; have := s1 _ _ e; rw [nm] at this; cases this) (s12 _ _ e)
    have hx3 := up3 hx
    refine ⟨_, rfl, x, N, dx, _, rfl, hx3, cn.c, cn.nh, by simp, ?_⟩
    have mne : ∀ {b : Addr} {u : HO}, H3 b = some u → (∀ c d f, u ≠ .ins c d f) → b ≠ x := fun {b u} e h z => by subst z; rw [hx3] at e; exact h _ _ _ (Option.some.inj e).symm
    generalize hG4 : upd H3 x _ = H4
    have u4 : ∀ b u, b ≠ x → H3 b = some u → H4 b = some u := fun b u h e => by rw [← hG4, upd_ne h]; exact e
    have f4 : H4 x = some (.ins N dx [("harmed", .ref m)]) := by rw [← hG4]; exact upd_same
    clear hG4
    have up4 : ∀ {b : Addr} {u : HO}, H b = some u → b ≠ x → H4 b = some u := fun {b u} e h => u4 b u h (up3 e)
    have xl : ∀ {b : Addr} {xs : List V}, H b = some (.lst xs) → b ≠ x := fun {b xs} e z => by subst z; rw [hx] at e; cases e
    refine ⟨_, rfl, _, rfl, _, rfl, _, rfl, r, l, R, M, ns, ms, rfl, up4 hR (xl hR), up4 hM (xl hM), hsr, hsm, fun H5 s5 => ?_⟩
    intro d hd
    generalize hG6 : upd H5 d (.dK []) = H6
    have s6 : Same H5 H6 := by rw [← hG6]; exact (Same.refl H5).upd hd
    have f6 : H6 d = some (.dK []) := by rw [← hG6]; exact upd_same
    clear hG6
    have s46 := s5.trans s6
    refine ⟨_, rfl, x, N, dx, _, rfl, s46 _ _ f4, cn.c, cn.ns, by simp, ?_⟩
    have hdx : d ≠ x := fun z => by subst z; rw [s5 _ _ f4] at hd; cases hd
    generalize hG7 : upd H6 x _ = H7
    have u7 : ∀ b u, b ≠ x → H6 b = some u → H7 b = some u := fun b u h e => by rw [← hG7, upd_ne h]; exact e
    have f7 : H7 x = some (.ins N dx (fsN m d)) := by
      rw [← hG7, upd_same]
      have : putF "spare" (V.ref d) [("harmed", .ref m)] = fsN m d := by
        unfold fsN putF
        rw [if_neg (by decide +kernel)]
        rfl
      rw [this]
    clear hG7
    have up7 : ∀ {b : Addr} {u : HO}, H b = some u → b ≠ x → H7 b = some u := fun {b u} e h => u7 b u h (s46 _ _ (up4 e h))
    have nd0 : H d = none := by
      cases e : H d with
      | none => rfl
      | some u => have := s5 _ _ (up4 e hdx); rw [hd] at this; cases this
    have m7 : MemO H7 C m L Cc us hs (settleM hs cs) := by
      obtain ⟨⟨dy, ho⟩, mm⟩ := mo
      have go : ∀ {b : Addr} {u : HO}, H3 b = some u → b ≠ x → H7 b = some u := fun {b u} e h => u7 b u h (s46 _ _ (u4 b u h e))
      have l1 : L ≠ x := mne mm.hl (fun _ _ _ z => by cases z)
      have l2 : Cc ≠ x := mne mm.hc (fun _ _ _ z => by cases z)
      refine ⟨⟨dy, go ho nmx⟩, ⟨mm.ne, go mm.hl l1, ⟨mm.hv.len, fun i v h a b => ?_⟩, mm.ok, go mm.hc l2⟩⟩
      obtain ⟨z, e, hz⟩ := mm.hv.at_ i v h a b
      exact ⟨z, e, go hz (mne hz (fun _ _ _ z => by cases z))⟩
    have hd7 : H7 d = some (.dK []) := u7 d _ hdx f6
    have hC7 := up7 hC0 (xl hC0)
    have nL0 : H L = none := s12.free nL
    have nC0 : H Cc = none := s12.free nCc
    refine ⟨_, rfl, C0, _, rfl, SqL.of hC7, for_enum (xs := cs.map V.int) (fun i σ H' => ∃ q7 q8 : Option V, σ = [some (.ref x), some (.int r), some (.int l), some (.ref L0), some (.ref C0), some (.ref R), some (.ref M), q7, q8] ∧ (∀ b u, b ≠ d → H7 b = some u → H' b = some u) ∧ H' d = some (.dK (spk (spF ns ms l) cs i))) ⟨_, _, rfl, fun b u _ e => e, hd7⟩ (fun i σ H' _ ⟨_, _, _, st, _⟩ => SqL.of (st _ _ (fun z => by subst z; rw [hC7] at hd7; cases hd7) hC7)) ?_ ?_⟩
    · rintro i y pp σ H8 hy ⟨q7, q8, rfl, st8, hd8⟩ hpp
      obtain ⟨c, hc, rfl⟩ := int_get hy
      have hil : i < cs.length := (List.getElem?_eq_some_iff.mp hc).1
      refine ⟨pp, _, rfl, SqT.of upd_same, rfl, _, _, rfl, _, _, rfl, rfl, ?_⟩
      have s9 : Same H8 (upd H8 pp (.tup [.int i, .int c])) := (Same.refl H8).upd hpp
      revert s9
      generalize upd H8 pp (.tup [.int i, .int c]) = H9
      intro s9
      have keep9 : ∀ b u, b ≠ d → H7 b = some u → H9 b = some u := fun b u h e => s9 _ _ (st8 b u h e)
      have ne_d : ∀ {b : Addr} {xs : List V}, H7 b = some (.lst xs) → b ≠ d := fun {b xs} e z => by subst z; rw [hd7] at e; cases e
      have hR7 := up7 hR (xl hR)
      have hM7 := up7 hM (xl hM)
      have put9 : ∃ q7 q8 : Option V, [some (V.ref x), some (.int r), some (.int l), some (.ref L0), some (.ref C0), some (.ref R), some (.ref M), some (.int i), some (.int c)] = [some (.ref x), some (.int r), some (.int l), some (.ref L0), some (.ref C0), some (.ref R), some (.ref M), q7, q8] ∧ (∀ b u, b ≠ d → H7 b = some u → upd H9 d (.dK (putK (spk (spF ns ms l) cs i) (.inl (i : Int)) (.int c))) b = some u) ∧ upd H9 d (.dK (putK (spk (spF ns ms l) cs i) (.inl (i : Int)) (.int c))) d = some (.dK (putK (spk (spF ns ms l) cs i) (.inl (i : Int)) (.int c))) := ⟨_, _, rfl, fun b u h e => by rw [upd_ne h]; exact keep9 b u h e, upd_same⟩
      have hcd : cs.getD i 0 = c := by rw [List.getD_eq_getElem?_getD, hc]; rfl
      have dput : ∀ {D : Ends}, (D.nx [some (V.ref x), some (.int r), some (.int l), some (.ref L0), some (.ref C0), some (.ref R), some (.ref M), some (.int i), some (.int c)] (upd H9 d (.dK (putK (spk (spF ns ms l) cs i) (.inl (i : Int)) (.int c))))) → sDPut (tFld K (tVar 0) "spare") (tVar 7) (tVar 8) D [some (V.ref x), some (.int r), some (.int l), some (.ref L0), some (.ref C0), some (.ref R), some (.ref M), some (.int i), some (.int c)] H9 := fun {D} h =>
        ⟨_, rfl, _, rfl, x, N, dx, _, _, rfl, keep9 _ _ hdx.symm f7, cn.c, cn.ns, lk_sp, _, rfl, d, _, rfl, DPut.k (k := .inl (i : Int)) (s9 _ _ hd8) (sl_lt (by have := spk_len (spF ns ms l) cs i; omega)), h⟩
      refine ⟨_, rfl, _, rfl, _, _, rfl, rfl, ?_, _, rfl, R, _, rfl, .inl (SqL.of (keep9 _ _ (ne_d hR7) hR7)), rfl, by simp [flatV], _, rfl, ?_⟩
      · exact ⟨by omega, by omega⟩
      by_cases h1 : (i : Int) / l ∈ ns
      · refine iteB (by show inV (.int ((i : Int) / l)) _ = true; rw [int_mem]; exact decide_eq_true h1) ?_
        refine iteB rfl ?_
        refine dput ?_
        have : spk (spF ns ms l) cs (i + 1) = putK (spk (spF ns ms l) cs i) (.inl (i : Int)) (.int c) := by
          show (if spF ns ms l i = true then _ else _) = _
          rw [if_pos (show spF ns ms l i = true from decide_eq_true (Or.inl h1)), hcd]
        show ∃ q7 q8 : Option V, _
        rw [this]
        exact put9
      · refine iteN (by show inV (.int ((i : Int) / l)) _ = false; rw [int_mem]; exact decide_eq_false h1) ?_
        refine ⟨_, rfl, _, rfl, _, _, rfl, rfl, (by show (0 : Int) < l; omega), _, rfl, M, _, rfl, .inl (SqL.of (keep9 _ _ (ne_d hM7) hM7)), rfl, by simp [flatV], _, rfl, ?_⟩
        by_cases h2 : (i : Int) % l ∈ ms
        · refine iteB (by show inV (.int ((i : Int) % l)) _ = true; rw [int_mem]; exact decide_eq_true h2) ?_
          refine dput ?_
          have : spk (spF ns ms l) cs (i + 1) = putK (spk (spF ns ms l) cs i) (.inl (i : Int)) (.int c) := by
            show (if spF ns ms l i = true then _ else _) = _
            rw [if_pos (show spF ns ms l i = true from decide_eq_true (Or.inr h2)), hcd]
          show ∃ q7 q8 : Option V, _
          rw [this]
          exact put9
        · refine iteN (by show inV (.int ((i : Int) % l)) _ = false; rw [int_mem]; exact decide_eq_false h2) ?_
          have : spk (spF ns ms l) cs (i + 1) = spk (spF ns ms l) cs i := by
            show (if spF ns ms l i = true then _ else _) = _
            rw [if_neg (by unfold spF; simp [h1, h2])]
          show ∃ q7 q8 : Option V, _
          rw [this]
          exact ⟨_, _, rfl, keep9, s9 _ _ hd8⟩
    · rintro σ H8 ⟨q7, q8, rfl, st8, hd8⟩
      rw [List.length_map] at hd8
      have keep : ∀ b u, b ≠ x → H b = some u → H8 b = some u := fun b u h e => st8 b u (fun z => by subst z; rw [nd0] at e; cases e) (up7 e h)
      refine k m L Cc d _ H8 keep (s1.free nm) nL0 nC0 nd0 ⟨⟨dx, st8 _ _ hdx.symm f7⟩, ?_, hd8⟩ spk_is (spk_len _ _ _)
      obtain ⟨⟨dy, ho⟩, mm⟩ := m7
      have nd : ∀ {b : Addr} {u : HO}, H7 b = some u → (∀ k, u ≠ .dK k) → b ≠ d := fun {b u} e h z => by subst z; rw [hd7] at e; exact h _ (Option.some.inj e).symm
      refine ⟨⟨dy, st8 _ _ (nd ho (fun _ z => by cases z)) ho⟩, ⟨mm.ne, st8 _ _ (nd mm.hl (fun _ z => by cases z)) mm.hl, ⟨mm.hv.len, fun i v h a b => ?_⟩, mm.ok, st8 _ _ (nd mm.hc (fun _ z => by cases z)) mm.hc⟩⟩
      obtain ⟨z, e, hz⟩ := mm.hv.at_ i v h a b
      exact ⟨z, e, st8 _ _ (nd hz (fun _ z => by cases z)) hz⟩
end
end Mh
set_option Elab.async false
set_option linter.all false
set_option maxRecDepth 100000
set_option maxHeartbeats 4000000
namespace Mh
open PySem L2 PyProof.Rows Mx
def fl1 (v : V) : Prop := (∃ i, v = .int i) ∨ ∃ s, v = .str s
theorem atAll_inj {H : Hp} : ∀ {l vs : List V}, (∀ x ∈ l, fl1 x) → AtAll H vs (l.map dOf) → vs = l
  | [], _, _, h => by cases h; rfl
  | x :: l, _, hf, h => by
    cases h with
    | cons a r =>
      have ih := atAll_inj (fun y hy => hf y (List.mem_cons_of_mem _ hy)) r
      rw [ih]
      rcases hf x (List.mem_cons_self ..) with ⟨i, rfl⟩ | ⟨s, rfl⟩
      · rw [a.intEq]
      · rw [a.strEq]
theorem hat_of {H : Hp} {v : V} {h : Hm} (hf : ∀ x ∈ h.r, fl1 x) (a : At H v (.tuple ((hV h).map dOf))) : HAt H v h := by
  obtain ⟨t, vs, rfl, ht, hw⟩ := a.tupEq
  refine ⟨t, rfl, ?_⟩
  rw [ht, atAll_inj (l := hV h) (fun x hx => ?_) hw]
  unfold hV at hx
  rcases List.mem_cons.mp hx with rfl | hx
  · exact .inr ⟨_, rfl⟩
  · rcases List.mem_append.mp hx with hx | hx
    · obtain ⟨c, _, rfl⟩ := List.mem_map.mp hx
      exact .inl ⟨_, rfl⟩
    · exact hf x hx
def hD (h : Hm) : PyData := .tuple ((hV h).map dOf)
theorem hats_of {H : Hp} : ∀ {us : List V} {hs : List Hm}, (∀ h ∈ hs, ∀ x ∈ h.r, fl1 x) → AtAll H us (hs.map hD) → HsV H us hs
  | us, hs, hf, h => by
    refine ⟨by rw [h.length, List.length_map], fun i v g h1 h2 => ?_⟩
    obtain ⟨d, hd, ha⟩ := h.get h1
    rw [List.getElem?_map, h2] at hd
    cases hd
    exact hat_of (hf g (List.mem_of_getElem? h2)) ha
/-- the harms that may be drawn -/
def ones (a v : Int) : List Hm := [⟨"stuck", [a], [.int v]⟩, ⟨"slow", [a], [.int v]⟩, ⟨"forgets", [a], [.int v]⟩, ⟨"misreads", [a], [.int v]⟩, ⟨"nowhere", [a], [.int v]⟩]
def twos (a b u v : Int) : List Hm := [⟨"turns", [a, b], [.int u]⟩, ⟨"sets", [a, b], [.int u, .int v]⟩, ⟨"keeps", [a, b], [.int u, .int v]⟩, ⟨"other", [a, b], []⟩]
def oneB (a b : Int) (u : Int) : Hm := ⟨"both", [a, b], [.str (if u = 0 then "and" else "or")]⟩
def goodH (n : Int) (h : Hm) : Prop := (∃ ns, okH h ns) ∧ ∀ c ∈ h.c, 0 ≤ c ∧ c < n
theorem ones_good {n a v : Int} (h0 : 0 ≤ a) (h1 : a < n) (hn : n ≤ 64) (hv : bitV (.int v)) : ∀ h ∈ ones a v, goodH n h := by
  have rg : ∀ x ∈ ([a] : List Int), 0 ≤ x ∧ x < 64 := fun x hx => by rw [List.mem_singleton.mp hx]; omega
  have rn : ∀ x ∈ ([a] : List Int), 0 ≤ x ∧ x < n := fun x hx => by rw [List.mem_singleton.mp hx]; omega
  intro h hh
  unfold ones at hh
  simp only [List.mem_cons, List.not_mem_nil, or_false] at hh
  rcases hh with rfl | rfl | rfl | rfl | rfl
  · exact ⟨⟨["bit"], tab_ones (by simp), .bit hv .nil, by simp, by simp, by simp, rg⟩, rn⟩
  · exact ⟨⟨["bit"], tab_ones (by simp), .bit hv .nil, by simp, by simp, by simp, rg⟩, rn⟩
  · exact ⟨⟨["bit"], tab_ones (by simp), .bit hv .nil, by simp, by simp, by simp, rg⟩, rn⟩
  · exact ⟨⟨["bit"], tab_ones (by simp), .bit hv .nil, by simp, by simp, by simp, rg⟩, rn⟩
  · exact ⟨⟨["bit"], tab_ones (by simp), .bit hv .nil, by simp, by simp, by simp, rg⟩, rn⟩
theorem twos_good {n a b u v : Int} (h0 : 0 ≤ a) (h1 : a < n) (h2 : 0 ≤ b) (h3 : b < n) (hne : a ≠ b) (hn : n ≤ 64) (hu : bitV (.int u)) (hv : bitV (.int v)) : ∀ h ∈ twos a b u v ++ [oneB a b u], goodH n h := by
  have rg : ∀ x ∈ ([a, b] : List Int), 0 ≤ x ∧ x < 64 := fun x hx => by
    simp at hx
    rcases hx with rfl | rfl <;> omega
  have rn : ∀ x ∈ ([a, b] : List Int), 0 ≤ x ∧ x < n := fun x hx => by
    simp at hx
    rcases hx with rfl | rfl <;> omega
  have nd : ([a, b] : List Int).Nodup := by simp [hne]
  intro h hh
  unfold twos at hh
  simp only [List.cons_append, List.nil_append, List.mem_cons, List.not_mem_nil, or_false] at hh
  rcases hh with rfl | rfl | rfl | rfl | rfl
  · exact ⟨⟨["bit"], tab_turns, .bit hu .nil, by simp, by simp, nd, rg⟩, rn⟩
  · exact ⟨⟨["bit", "bit"], tab_sets (.inl rfl), .bit hu (.bit hv .nil), by simp, by simp, nd, rg⟩, rn⟩
  · exact ⟨⟨["bit", "bit"], tab_sets (.inr rfl), .bit hu (.bit hv .nil), by simp, by simp, nd, rg⟩, rn⟩
  · exact ⟨⟨[], tab_other, .nil, by simp, by simp, nd, rg⟩, rn⟩
  · refine ⟨⟨["how"], tab_both, .how ?_ .nil, ⟨Nat.le_of_ble_eq_true rfl, Nat.le_of_ble_eq_true rfl⟩, by simp, nd, rg⟩, rn⟩
    unfold howV
    by_cases e : u = 0
    · rw [if_pos e]; exact .inl rfl
    · rw [if_neg e]; exact .inr rfl
theorem other_cell {n a k : Int} (h0 : 0 ≤ a) (h1 : a < n) (k1 : 1 ≤ k) (k2 : k < n) : (a + k) % n ≠ a ∧ 0 ≤ (a + k) % n ∧ (a + k) % n < n := by
  have hp : (0 : Int) < n := by omega
  refine ⟨?_, Int.emod_nonneg _ (by omega), Int.emod_lt_of_pos _ hp⟩
  by_cases h : a + k < n
  · rw [Int.emod_eq_of_lt (by omega) h]; omega
  · rw [show a + k = (a + k - n) + n by omega, Int.add_emod_right, Int.emod_eq_of_lt (by omega) (by omega)]; omega
theorem bit_of {d : Int} (h0 : 0 ≤ d) (h1 : d < 2) : ∃ b, d = b2i b := by
  rcases (by omega : d = 0 ∨ d = 1) with rfl | rfl
  · exact ⟨false, rfl⟩
  · exact ⟨true, rfl⟩
theorem HsV.upL {H : Hp} {us : List V} {hs : List Hm} {D : Addr} {xs : List V} {o : HO} (x : HsV H us hs) (hD : H D = some (.lst xs)) : HsV (L2.upd H D o) us hs := ⟨x.len, fun i v h a b => by
  obtain ⟨z, e, hz⟩ := x.at_ i v h a b
  exact ⟨z, e, by rw [upd_ne (fun q => by subst q; rw [hD] at hz; cases hz)]; exact hz⟩⟩
theorem HsV.snoc {H : Hp} {us : List V} {hs : List Hm} {v : V} {h : Hm} (x : HsV H us hs) (hv : HAt H v h) : HsV H (us ++ [v]) (hs ++ [h]) := by
  refine ⟨by simp [x.len], fun i v' h' a b => ?_⟩
  by_cases hi : i < us.length
  · rw [List.getElem?_append_left hi] at a
    rw [List.getElem?_append_left (by rw [← x.len]; exact hi)] at b
    exact x.at_ i v' h' a b
  · have hi' : i = us.length := by
      have := (List.getElem?_eq_some_iff.mp a).1
      simp at this
      omega
    subst hi'
    rw [List.getElem?_append_right (Nat.le_refl _)] at a
    rw [x.len, List.getElem?_append_right (Nat.le_refl _)] at b
    simp at a b
    subst a b
    exact hv
theorem rest_fl {ns : List Str} {rr : List V} (re : Rest ns rr) : ∀ x ∈ rr, fl1 x := by
  induction re with
  | nil => intro x hx; cases hx
  | bit hb _ ih =>
    obtain ⟨b, rfl⟩ := hb
    intro x hx
    rcases List.mem_cons.mp hx with rfl | hx
    · exact .inl ⟨_, rfl⟩
    · exact ih x hx
  | how hb _ ih =>
    intro x hx
    rcases List.mem_cons.mp hx with rfl | hx
    · rcases hb with rfl | rfl <;> exact .inr ⟨_, rfl⟩
    · exact ih x hx
theorem fr (h : Hm) (o : ∃ ns, okH h ns) : ∀ x ∈ h.r, fl1 x := by
  obtain ⟨ns, o⟩ := o
  exact rest_fl o.rest
theorem lay_c {te : TE} {ta : TA} {σ : L2.St} {H : Hp} {d : PyData} {Q : List V → Hp → Prop} (h : Lay [] te σ d H) (k : ∀ v H', Same H H' → At H' v d → ta σ H' fun vs H2 => Q (v :: vs) H2) : tCons te ta σ H Q :=
  h (fun b hb => by cases hb) H (Same.refl H) _ fun v H' s a => k v H' s (a.same (hideL_same _ _))
section
variable {P : Program} {w : World} {K : PySem.W.Frag} {mg : Str → Option Value} {base : Heap}
def sp_lharm : Sp := fun vs H Q _ => ∃ (D : Addr) (d0 d1 d2 d3 d4 : Int) (n : Int), vs = [.ref D, .int n] ∧ H D = some (.lst [.int d0, .int d1, .int d2, .int d3, .int d4]) ∧ 0 ≤ d0 ∧ 0 ≤ d1 ∧ 0 ≤ d2 ∧ 0 ≤ d3 ∧ d3 < 2 ∧ 0 ≤ d4 ∧ d4 < 2 ∧ 1 ≤ n ∧ n ≤ 64 ∧
  ∀ v h H', Same H H' → HAt H' v h → goodH n h → Q v H'
abbrev s__law_harm : Stmt := top 53
theorem sc__law_harm : FnScope ["_law_d", "_law_size", "_law_a", "_law_b", "_law_u", "_law_v", "_law_some"] ["_law_d", "_law_size"] (defScope s__law_harm) := ⟨rfl, rfl, rfl, by decide +kernel, rfl, by decide +kernel, by decide +kernel⟩
/- slots: 0 _law_d, 1 _law_size, 2 _law_a, 3 _law_b, 4 _law_u, 5 _law_v, 6 _law_some -/
theorem ok_lharm (B : Bl mg) (F : FnAt K mg "_law_harm" s__law_harm ["_law_d", "_law_size"]) : Has P w K mg base 1 "_law_harm" ["_law_d", "_law_size"] sp_lharm := by
  refine Has.ofQ F sc__law_harm (fun vs H Q E h => ?_) (fun f cdv A outer s H vs Q E hr h => ?_)
  · obtain ⟨D, d0, d1, d2, d3, d4, n, rfl, _⟩ := h
    rfl
  · obtain ⟨D, d0, d1, d2, d3, d4, n, rfl, hDD, p0, p1, p2, p3, q3, p4, q4, n1, n64, k⟩ := h
    have sc := sc__law_harm
    refine ⟨_, (qss_litQ rfl (qss_cons (qs_setE (i := 2) sc.nd rfl (Or.inl rfl) (qe_op op_mod (qe_ix ix_list (qe_of (pv 0)) (qe_of pe_int) (fun _ _ => rfl)) (qe_of (pv 1))))
      (qss_cons (qs_setE (i := 3) sc.nd rfl (Or.inl rfl) (qe_op op_mod (qe_op op_add (qe_op op_add (qe_of (pv 2)) (qe_of pe_int)) (qe_op op_mod (qe_ix ix_list (qe_of (pv 0)) (qe_of pe_int) (fun _ _ => rfl)) (qe_callB (call_max2 rfl) rfl (B.of rfl) boot_max (qa_cs (qe_of pe_int) (qa_bo (qe_op op_sub (qe_of (pv 1)) (qe_of pe_int)) qa_nil))))) (qe_of (pv 1))))
      (qss_cons (qs_setE (i := 4) sc.nd rfl (Or.inl rfl) (qe_ix ix_list (qe_of (pv 0)) (qe_of pe_int) (fun _ _ => rfl)))
      (qss_cons (qs_setE (i := 5) sc.nd rfl (Or.inl rfl) (qe_ix ix_list (qe_of (pv 0)) (qe_of pe_int) (fun _ _ => rfl)))
      (qss_cons (qs_setE (i := 6) sc.nd rfl (Or.inl rfl) (qe_lst (qa_tp (qe_tup (qa_cs (qe_of pe_str) (qa_nm (qe_of (pv 2)) (qa_nm (qe_of (pv 5)) qa_nil)))) (qa_tp (qe_tup (qa_cs (qe_of pe_str) (qa_nm (qe_of (pv 2)) (qa_nm (qe_of (pv 5)) qa_nil)))) (qa_tp (qe_tup (qa_cs (qe_of pe_str) (qa_nm (qe_of (pv 2)) (qa_nm (qe_of (pv 5)) qa_nil)))) (qa_tp (qe_tup (qa_cs (qe_of pe_str) (qa_nm (qe_of (pv 2)) (qa_nm (qe_of (pv 5)) qa_nil)))) (qa_tp (qe_tup (qa_cs (qe_of pe_str) (qa_nm (qe_of (pv 2)) (qa_nm (qe_of (pv 5)) qa_nil)))) qa_nil)))))))
      (qss_cut (qs_ifT (qt_cmpR op_gt (qe_of (pv 1)) (qe_of pe_int) (nomark _))
        (qss_cons (qs_setE (i := 6) sc.nd rfl (Or.inl rfl) (qe_op op_cat (qe_of (pv 6)) (qe_lst (qa_tp (qe_tup (qa_cs (qe_of pe_str) (qa_nm (qe_of (pv 2)) (qa_nm (qe_of (pv 3)) (qa_nm (qe_of (pv 4)) qa_nil))))) (qa_tp (qe_tup (qa_cs (qe_of pe_str) (qa_nm (qe_of (pv 2)) (qa_nm (qe_of (pv 3)) (qa_nm (qe_of (pv 4)) (qa_nm (qe_of (pv 5)) qa_nil)))))) (qa_tp (qe_tup (qa_cs (qe_of pe_str) (qa_nm (qe_of (pv 2)) (qa_nm (qe_of (pv 3)) (qa_nm (qe_of (pv 4)) (qa_nm (qe_of (pv 5)) qa_nil)))))) (qa_tp (qe_tup (qa_cs (qe_of pe_str) (qa_nm (qe_of (pv 2)) (qa_nm (qe_of (pv 3)) qa_nil)))) qa_nil)))))))
        (qss_one (qs_expr (qe_bm PySem.F.plainAttrs_list PySem.F.slot_list_append PySem.F.type_list_append mt_append (qe_of (pv 6)) (qa_tp (qe_tup (qa_cs (qe_of pe_str) (qa_nm (qe_of (pv 2)) (qa_nm (qe_of (pv 3)) (qa_sb (qe_ix ix_list (qe_lst (qa_cs (qe_of pe_str) (qa_cs (qe_of pe_str) qa_nil))) (qe_of (pv 4)) (fun _ _ => rfl)) qa_nil))))) qa_nil)))))
        qss_nil)
      (qss_one (qs_retE (qe_ix ix_list (qe_of (pv 6)) (qe_op op_mod (qe_ix ix_list (qe_of (pv 0)) (qe_of pe_int) (fun _ _ => rfl)) (qe_callB call_len_seq rfl (B.of rfl) boot_len (qa_nm (qe_of (pv 6)) qa_nil))) (fun _ _ => rfl))))))))))), ?_⟩
    have a0 := Int.emod_nonneg d1 (b := n) (by omega)
    have a1 := Int.emod_lt_of_pos d1 (b := n) (by omega)
    refine ⟨_, rfl, D, _, _, _, rfl, rfl, SqL.of hDD, atI_lit 1 rfl, _, rfl, _, _, rfl, rfl, by omega, ?_⟩
    refine gn ?_
    dsimp only
    obtain ⟨a, ha⟩ : ∃ a, d1 % n = a := ⟨_, rfl⟩
    rw [ha] at a0 a1 ⊢
    refine ⟨_, rfl, _, _, rfl, rfl, _, rfl, D, _, _, _, rfl, rfl, SqL.of hDD, atI_lit 2 rfl, _, rfl, _, _, rfl, rfl, _, _, rfl, _, _, rfl, rfl, (by show (0 : Int) < (if n - 1 > 1 then n - 1 else 1); split <;> omega), _, _, rfl, rfl, _, rfl, _, _, rfl, rfl, by omega, ?_⟩
    show gName 3 (V.int ((a + 1 + d2 % (if n - 1 > 1 then n - 1 else 1)) % n)) _ _ _
    obtain ⟨b, hb, hb2⟩ : ∃ b, (a + 1 + d2 % (if n - 1 > 1 then n - 1 else 1)) % n = b ∧ (1 < n → a ≠ b ∧ 0 ≤ b ∧ b < n) := by
      refine ⟨_, rfl, fun hn1 => ?_⟩
      have e : (if n - 1 > 1 then n - 1 else 1) = n - 1 := by split <;> omega
      rw [e]
      have m0 := Int.emod_nonneg d2 (b := n - 1) (by omega)
      have m1 := Int.emod_lt_of_pos d2 (b := n - 1) (by omega)
      rw [show a + 1 + d2 % (n - 1) = a + (1 + d2 % (n - 1)) by omega]
      obtain ⟨h1, h2, h3⟩ := other_cell (k := 1 + d2 % (n - 1)) a0 a1 (by omega) (by omega)
      exact ⟨fun z => h1 z.symm, h2, h3⟩
    rw [hb]
    refine gn ?_
    dsimp only
    refine ⟨_, rfl, D, _, _, _, rfl, rfl, SqL.of hDD, atI_lit 3 rfl, ?_⟩
    refine ⟨_, rfl, D, _, _, _, rfl, rfl, SqL.of hDD, atI_lit 4 rfl, ?_⟩
    refine gn ?_
    dsimp only
    have bu : bitV (.int d3) := by obtain ⟨b, rfl⟩ := bit_of p3 q3; exact ⟨b, rfl⟩
    have bv : bitV (.int d4) := by obtain ⟨b, rfl⟩ := bit_of p4 q4; exact ⟨b, rfl⟩
    have g1 := ones_good a0 a1 n64 bv
    have ia : At H (.int a) (.int a) := .int _
    have iv : At H (.int d4) (.int d4) := .int _
    refine lay_set (d := .list ((ones a d4).map hD)) ?_ fun x1 H1 s1 x1a => ?_
    · show Lay [] _ _ (.list [.tuple [.str "stuck", .int a, .int d4], .tuple [.str "slow", .int a, .int d4], .tuple [.str "forgets", .int a, .int d4], .tuple [.str "misreads", .int a, .int d4], .tuple [.str "nowhere", .int a, .int d4]]) _
      repeat' (first | exact lay_non | exact lay_bl | exact lay_int | exact lay_str | exact lay_neg | exact lay_nil | refine lay_cons ?_ ?_ | refine lay_tup ?_ | refine lay_lst ?_ | exact lay_var rfl (.int _))
    -- behind the second sort
    refine ⟨fun σ' HX => ∃ (p : Addr) (us : List V) (hs : List Hm), σ' = [some (.ref D), some (.int n), some (.int a), some (.int b), some (.int d3), some (.int d4), some (.ref p)] ∧ Same H HX ∧ HX p = some (.lst us) ∧ HsV HX us hs ∧ 1 ≤ hs.length ∧ hs.length ≤ 10 ∧ ∀ h ∈ hs, goodH n h, ?_, ?_⟩
    · refine ⟨_, rfl, _, _, rfl, rfl, _, rfl, ?_⟩
      by_cases hn1 : 1 < n
      · refine iteB (decide_eq_true hn1) ?_
        obtain ⟨hne, b0, b1⟩ := hb2 hn1
        have g2 := twos_good a0 a1 b0 b1 hne n64 bu bv
        refine ⟨_, rfl, ?_⟩
        refine lay_go (L := []) (d := .list ((twos a b d3 d4).map hD)) ?_ (fun b hb => by cases hb) fun x2 H2 s2 x2a => ?_
        · show Lay [] _ _ (.list [.tuple [.str "turns", .int a, .int b, .int d3], .tuple [.str "sets", .int a, .int b, .int d3, .int d4], .tuple [.str "keeps", .int a, .int b, .int d3, .int d4], .tuple [.str "other", .int a, .int b]]) _
          repeat' (first | exact lay_non | exact lay_bl | exact lay_int | exact lay_str | exact lay_neg | exact lay_nil | refine lay_cons ?_ ?_ | refine lay_tup ?_ | refine lay_lst ?_ | exact lay_var rfl (.int _))
        obtain ⟨q, ys, rfl, hq, hwq⟩ := (x2a.same (hideL_same _ _)).lstEq
        obtain ⟨p1, us1, rfl, hp1, hw1⟩ := (x1a.same s2).lstEq
        have l1 : us1.length = 5 := hw1.length
        have l2 : ys.length = 4 := hwq.length
        refine ⟨p1, q, us1, ys, rfl, rfl, hp1, hq, sl_le (by omega), fun p hp => ?_⟩
        have nH : H p = none := (s1.trans s2).free hp
        have hw : AtAll H2 (us1 ++ ys) ((ones a d4 ++ twos a b d3 d4).map hD) := by rw [List.map_append]; exact hw1.append hwq
        have hv2 := hats_of (hs := ones a d4 ++ twos a b d3 d4) (fun h hh => fr h (by
          rcases List.mem_append.mp hh with hh | hh
          · exact (g1 h hh).1
          · exact (g2 h (List.mem_append_left _ hh)).1)) hw
        generalize hG3 : upd H2 p _ = H3
        have s3 : Same H2 H3 := by rw [← hG3]; exact (Same.refl H2).upd hp
        have f3 : H3 p = some (.lst (us1 ++ ys)) := by rw [← hG3]; exact upd_same
        clear hG3
        refine gn ?_
        dsimp only
        refine ⟨_, rfl, .inl ⟨rfl, _, SqL.of f3⟩, ?_⟩
        refine lay_c (d := hD (oneB a b d3)) ?_ fun v4 H4 s4 a4 => ?_
        · show Lay [] _ _ (.tuple [.str "both", .int a, .int b, .str (if d3 = 0 then "and" else "or")]) _
          refine lay_tup (lay_cons lay_str (lay_cons (lay_var rfl (.int _)) (lay_cons (lay_var rfl (.int _)) (lay_cons ?_ lay_nil))))
          have hix : atI [V.str "and", .str "or"] d3 = some (.str (if d3 = 0 then "and" else "or")) := by
            rcases (by omega : d3 = 0 ∨ d3 = 1) with rfl | rfl <;> rfl
          exact fun hL H7 s7 Q7 k7 => ⟨(by show 2 ≤ sizeLine; decide), fun q hq => ⟨_, rfl, q, _, _, _, rfl, rfl, SqL.of upd_same, hix, k7 _ _ ((Same.refl H7).upd hq) (.str _)⟩⟩
        · have hat : HAt H4 v4 (oneB a b d3) := hat_of (fr _ (g2 _ (by simp)).1) a4
          refine ⟨p, us1 ++ ys, v4, rfl, rfl, s4 _ _ f3, sl_lt (by rw [List.length_append]; omega), ?_⟩
          refine ⟨p, us1 ++ ys ++ [v4], (ones a d4 ++ twos a b d3 d4) ++ [oneB a b d3], rfl, (((s1.trans s2).trans s3).trans s4).at nH, upd_same, ((hv2.same (s3.trans s4)).snoc hat).upL (s4 _ _ f3), Nat.le_of_ble_eq_true rfl, Nat.le_of_ble_eq_true rfl, fun h hh => ?_⟩
          rw [List.append_assoc] at hh
          rcases List.mem_append.mp hh with hh | hh
          · exact g1 h hh
          · exact g2 h hh
      · refine iteN (decide_eq_false hn1) ?_
        obtain ⟨p, us, rfl, hp, hw⟩ := x1a.lstEq
        exact ⟨p, us, ones a d4, rfl, s1, hp, hats_of (fun h hh => fr h (g1 h hh).1) hw, Nat.le_of_ble_eq_true rfl, Nat.le_of_ble_eq_true rfl, g1⟩
    · rintro σ1 HX ⟨p, us, hs, rfl, sX, eX, hvX, l1, l10, hg⟩
      have hul := hvX.len
      have hDX := sX _ _ hDD
      obtain ⟨j, hj, hjl⟩ : ∃ j : Nat, d0 % (us.length : Int) = (j : Int) ∧ j < us.length := by
        have h1 := Int.emod_nonneg d0 (b := (us.length : Int)) (by omega)
        have h2 := Int.emod_lt_of_pos d0 (b := (us.length : Int)) (by omega)
        exact ⟨(d0 % (us.length : Int)).toNat, by omega, by omega⟩
      have hgj : hs[j]? = some (hs[j]'(by omega)) := List.getElem?_eq_getElem _
      refine ⟨_, rfl, _, rfl, D, _, _, _, rfl, rfl, SqL.of hDX, atI_lit 0 rfl, _, rfl, p, _, rfl, .inl (SqL.of eX), _, _, rfl, rfl, (by show (0 : Int) < (us.length : Int); omega), p, us, _, us[j], rfl, rfl, SqL.of eX, ?_, k _ _ HX sX (hvX.at_ j _ _ (List.getElem?_eq_getElem hjl) hgj) (hg _ (List.mem_of_getElem? hgj))⟩
      show atI us (d0 % (us.length : Int)) = _
      rw [hj]
      exact atI_nat (List.getElem?_eq_getElem hjl)
end
end Mh
set_option Elab.async false
set_option linter.all false
set_option maxRecDepth 100000
set_option maxHeartbeats 4000000
namespace Mh
open PySem L2 PyProof.Rows Mx
theorem in5 {s a b c d e : Str} : inV (.str s) (([a, b, c, d, e] : List Str).map V.str) = decide (s = a ∨ s = b ∨ s = c ∨ s = d ∨ s = e) := by
  unfold inV
  rw [Bool.eq_iff_iff]
  simp [eqS]
theorem ten_words {h : Hm} {ns : List Str} (o : okH h ns) : (h.w = "stuck" ∨ h.w = "slow" ∨ h.w = "forgets" ∨ h.w = "misreads" ∨ h.w = "nowhere") ∨ h.w = "turns" ∨ (h.w = "sets" ∨ h.w = "keeps") ∨ h.w = "other" ∨ h.w = "both" := by
  have hk : KTD.inKeys h.w tabP = true := by rw [← KTD.isSome_datumAt, o.tab]; rfl
  have : h.w = "stuck" ∨ h.w = "slow" ∨ h.w = "forgets" ∨ h.w = "misreads" ∨ h.w = "turns" ∨ h.w = "sets" ∨ h.w = "keeps" ∨ h.w = "nowhere" ∨ h.w = "other" ∨ h.w = "both" := by
    simpa [tabP, KTD.inKeys] using hk
  rcases this with e | e | e | e | e | e | e | e | e | e
  · exact .inl (.inl e)
  · exact .inl (.inr (.inl e))
  · exact .inl (.inr (.inr (.inl e)))
  · exact .inl (.inr (.inr (.inr (.inl e))))
  · exact .inr (.inl e)
  · exact .inr (.inr (.inl (.inl e)))
  · exact .inr (.inr (.inl (.inr e)))
  · exact .inl (.inr (.inr (.inr (.inr e))))
  · exact .inr (.inr (.inr (.inl e)))
  · exact .inr (.inr (.inr (.inr e)))
def two5 : List Str := ["turns", "sets", "keeps", "other", "both"]
theorem two_is {h : Hm} {ns : List Str} (o : okH h ns) : inV (.str h.w) (two5.map V.str) = decide (h.c.length = 2) := by
  unfold two5
  rw [in5]
  rcases ten_words o with hw | hw | hw | hw | hw
  · obtain ⟨a, b, hc, _⟩ := o.s1 (tab_ones hw)
    rw [show h.c.length = 1 by rw [hc]; rfl]
    rcases hw with hw | hw | hw | hw | hw <;> rw [hw] <;> decide +kernel
  · obtain ⟨a, b, x, hc, _⟩ := o.sTurns (by rw [hw]; exact tab_turns)
    rw [show h.c.length = 2 by rw [hc]; rfl, hw]; decide +kernel
  · obtain ⟨a, b, x, y, hc, _⟩ := o.sSets (tab_sets hw)
    rw [show h.c.length = 2 by rw [hc]; rfl]
    rcases hw with hw | hw <;> rw [hw] <;> decide +kernel
  · obtain ⟨a, b, hc, _⟩ := o.sOther (by rw [hw]; exact tab_other)
    rw [show h.c.length = 2 by rw [hc]; rfl, hw]; decide +kernel
  · obtain ⟨a, b, v, hc, _⟩ := o.sBoth (by rw [hw]; exact tab_both)
    rw [show h.c.length = 2 by rw [hc]; rfl, hw]; decide +kernel
theorem all_len {hs : List Hm} (o : Oks hs) : (allC hs).length ≤ 2 * hs.length := by
  induction hs with
  | nil => simp [allC]
  | cons h hs ih =>
    have := ih fun g hg => o g (List.mem_cons_of_mem _ hg)
    obtain ⟨ns, oh⟩ := o h (List.mem_cons_self ..)
    have hc := oh.cl
    unfold allC at this ⊢
    rw [List.flatMap_cons, List.length_append, List.length_cons]
    omega
section
variable {P : Program} {w : World} {K : PySem.W.Frag} {mg : Str → Option Value} {base : Heap}
def sp_lcells : Sp := fun vs H Q _ => ∃ L us hs, vs = [.ref L] ∧ H L = some (.lst us) ∧ HsV H us hs ∧ Oks hs ∧ hs.length ≤ 4 ∧ ∀ (D : Addr) (ns : List Int) (H' : Hp), Same H H' → H D = none → H' D = some (.lst (ns.map V.int)) → ns.Perm (uniq (allC hs)) → ns.Pairwise (· ≤ ·) → Q (.ref D) H'
abbrev s__law_cells : Stmt := top 54
theorem sc__law_cells : FnScope ["_law_harms_here", "_law_found", "_law_harm_here"] ["_law_harms_here"] (defScope s__law_cells) := ⟨rfl, rfl, rfl, by decide +kernel, rfl, by decide +kernel, by decide +kernel⟩
/- slots: 0 _law_harms_here, 1 _law_found, 2 _law_harm_here -/
theorem ok_lcells (B : Bl mg) (z_set : mg "set" = none) (F : FnAt K mg "_law_cells" s__law_cells ["_law_harms_here"]) : Has P w K mg base 1 "_law_cells" ["_law_harms_here"] sp_lcells := by
  refine Has.ofQ F sc__law_cells (fun vs H Q E h => ?_) (fun f cdv A outer s H vs Q E hr h => ?_)
  · obtain ⟨L, us, hs, rfl, _⟩ := h
    rfl
  · obtain ⟨L, us, hs, rfl, hL, hv, ok, h4, k⟩ := h
    have sc := sc__law_cells
    refine ⟨_, (qss_litQ rfl (qss_cons (qs_setE (i := 1) sc.nd rfl (Or.inl rfl) (qe_lst qa_nil))
      (qss_cons (qs_for PassesOwn.never rfl (qi_list (qe_of (pv 0))) (pg_name (i := 2) sc.nd rfl (Or.inl rfl))
        (qss_cons (qs_expr (qe_bm PySem.F.plainAttrs_list PySem.F.slot_list_append PySem.F.type_list_append mt_append (qe_of (pv 1)) (qa_sb (qe_ix ix_tup (qe_of (pv 2)) (qe_of pe_int) (fun _ _ => rfl)) qa_nil)))
        (qss_one (qs_ifT (qt_cmpR op_in_seq (qe_ix ix_tup (qe_of (pv 2)) (qe_of pe_int) (fun _ _ => rfl)) (qe_tstrs (xs := ["turns", "sets", "keeps", "other", "both"]) (by decide +kernel)) (by with_unfolding_all rfl))
          (qss_one (qs_expr (qe_bm PySem.F.plainAttrs_list PySem.F.slot_list_append PySem.F.type_list_append mt_append (qe_of (pv 1)) (qa_sb (qe_ix ix_tup (qe_of (pv 2)) (qe_of pe_int) (fun _ _ => rfl)) qa_nil))))
          qss_nil))))
      (qss_one (qs_retE (qe_callB (call_sortSet rfl) rfl (B.of rfl) boot_sortedF (qa_cl (qe_callTy (call_setR rfl) rfl z_set boot_setT (qa_nm (qe_of (pv 1)) qa_nil)) qa_nil))))))), ?_⟩
    have z5 : 5 ≤ sizeLine := by decide
    have al : ∀ i, (allC (hs.take i)).length ≤ 8 := fun i => by
      have h1 := all_len (hs := hs.take i) fun h hh => ok h (List.mem_of_mem_take hh)
      rw [List.length_take] at h1
      omega
    refine ⟨Nat.zero_le _, fun p hp => ?_⟩
    generalize hG1 : upd H p _ = H1
    have s1 : Same H H1 := by rw [← hG1]; exact (Same.refl H).upd hp
    have f1 : H1 p = some (.lst []) := by rw [← hG1]; exact upd_same
    clear hG1
    refine ⟨_, rfl, L, rfl, ⟨us, SqL.of (s1 _ _ hL)⟩, for_list (xs := us) (fun i σ H2 => ∃ (o2 : Option V), σ = [some (.ref L), some (.ref p), o2] ∧ Same H H2 ∧ H2 p = some (.lst ((allC (hs.take i)).map V.int)))
      ⟨none, rfl, s1, f1⟩ (fun i σ H2 _ ⟨_, _, h, _⟩ => SqL.of (h _ _ hL)) ?_ ?_⟩
    · rintro i x σ H2 hx ⟨o2, rfl, s2, e2⟩
      obtain ⟨g, hg, hat⟩ := hv.get hx
      obtain ⟨nn, og⟩ := ok g (List.mem_of_getElem? hg)
      obtain ⟨a, rfl, ha⟩ := HAt.same s2 hat
      have ali := al i
      refine ⟨_, rfl, .inl ⟨rfl, _, SqL.of e2⟩, ?_⟩
      refine ⟨_, rfl, a, _, _, _, rfl, rfl, SqT.of ha, atI_lit 1 og.at1, p, _, _, rfl, rfl, e2, sl_lt (by rw [List.length_map]; omega), ?_⟩
      have nap : a ≠ p := fun z => by subst z; rw [e2] at ha; cases ha
      generalize hG3 : upd H2 p _ = H3
      have s3 : Same H H3 := by rw [← hG3]; exact s2.at hp
      have f3 : H3 p = some (.lst ((allC (hs.take i)).map V.int ++ [.int (g.cell 0)])) := by rw [← hG3]; exact upd_same
      have ha3 : H3 a = some (.tup (hV g)) := by rw [← hG3, upd_ne nap]; exact ha
      clear hG3
      refine ⟨_, rfl, a, _, _, _, rfl, rfl, SqT.of ha3, atI_lit 0 rfl, z5, fun t ht => ?_⟩
      have s4 : Same H3 (upd H3 t (.tup (two5.map V.str))) := (Same.refl H3).upd ht
      refine ⟨t, two5.map V.str, rfl, .inr (SqT.of upd_same), rfl, rfl, _, rfl, ?_⟩
      generalize hG4 : upd H3 t _ = H4
      have s4 : Same H3 H4 := by rw [← hG4]; exact s4
      clear hG4
      rcases cells_shape og with ⟨c, hc⟩ | ⟨c, c2, hc⟩
      · refine iteN (by show inV _ _ = false; rw [two_is og, hc]; rfl) ?_
        refine ⟨_, rfl, s3.trans s4, ?_⟩
        rw [s4 _ _ f3, allC_take hg, hc, List.map_append]
        unfold Hm.cell
        rw [hc]
        rfl
      · refine iteB (by show inV _ _ = true; rw [two_is og, hc]; rfl) ?_
        have h2 : (hV g)[2]? = some (.int c2) := by unfold hV; rw [hc]; rfl
        refine ⟨_, rfl, .inl ⟨rfl, _, SqL.of (s4 _ _ f3)⟩, ?_⟩
        refine ⟨_, rfl, a, _, _, _, rfl, rfl, SqT.of (s4 _ _ ha3), atI_lit 2 h2, p, _, _, rfl, rfl, s4 _ _ f3, sl_lt (by rw [List.length_append, List.length_map]; simp; omega), ?_⟩
        refine ⟨_, rfl, (s3.trans s4).at hp, ?_⟩
        rw [upd_same, allC_take hg, hc, List.map_append]
        unfold Hm.cell
        rw [hc]
        simp
    · rintro σ H2 ⟨o2, rfl, s2, e2⟩
      rw [hv.len, List.take_length] at e2
      have a8 := all_len ok
      have u8 := uniq_len (allC hs)
      refine ⟨_, rfl, p, _, rfl, e2, by omega, fun q hq => ?_⟩
      have s6 : Same H2 (upd H2 q (SetO P w q (uniq (allC hs)))) := (Same.refl H2).upd hq
      refine ⟨q, _, rfl, upd_same, by omega, fun l ns hl hpm hso => ?_⟩
      exact k l ns _ ((s2.trans s6).upd hl) ((s2.trans s6).free hl) upd_same hpm hso
end
end Mh
set_option Elab.async false
set_option linter.all false
set_option maxRecDepth 100000
set_option maxHeartbeats 4000000
namespace Mh
open PySem L2 PyProof.Rows Mx
theorem take5 {l : List Int} {a : Nat} (h : a + 5 ≤ l.length) : (l.drop a).take 5 = [l.getD a 0, l.getD (a + 1) 0, l.getD (a + 2) 0, l.getD (a + 3) 0, l.getD (a + 4) 0] := by
  have g : ∀ k, k < l.length → l.getD k 0 = l[k]?.getD 0 := fun k _ => List.getD_eq_getElem?_getD ..
  rw [List.drop_eq_getElem_cons (show a < l.length by omega), List.drop_eq_getElem_cons (show a + 1 < l.length by omega), List.drop_eq_getElem_cons (show a + 1 + 1 < l.length by omega), List.drop_eq_getElem_cons (show a + 1 + 1 + 1 < l.length by omega), List.drop_eq_getElem_cons (show a + 1 + 1 + 1 + 1 < l.length by omega)]
  simp only [List.take_succ_cons, List.take_zero, List.getD_eq_getElem?_getD]
  rw [List.getElem?_eq_getElem (show a < l.length by omega), List.getElem?_eq_getElem (show a + 1 < l.length by omega), List.getElem?_eq_getElem (show a + 2 < l.length by omega), List.getElem?_eq_getElem (show a + 3 < l.length by omega), List.getElem?_eq_getElem (show a + 4 < l.length by omega)]
  rfl
theorem cut_mid {xs : List V} {a b : Nat} : cutV xs (some (a : Int)) (some (b : Int)) = (xs.drop (min a xs.length)).take (min b xs.length - min a xs.length) := by
  unfold cutV
  rw [HT.sIx_nat, HT.sIx_nat]
def dg16 : List Int := [4, 20, 64, 64, 2, 2, 20, 64, 64, 2, 2, 20, 64, 64, 2, 2]
theorem dg_at {ds : List Int} (h : Dig ds dg16) {i : Nat} (hi : i < 3) : ds.length = 16 ∧ 0 ≤ ds.getD (1 + 5 * i) 0 ∧ 0 ≤ ds.getD (1 + 5 * i + 1) 0 ∧ 0 ≤ ds.getD (1 + 5 * i + 2) 0 ∧ (0 ≤ ds.getD (1 + 5 * i + 3) 0 ∧ ds.getD (1 + 5 * i + 3) 0 < 2) ∧ 0 ≤ ds.getD (1 + 5 * i + 4) 0 ∧ ds.getD (1 + 5 * i + 4) 0 < 2 := by
  have g : ∀ {j : Nat} {z : Int}, dg16[j]? = some z → 0 ≤ ds.getD j 0 ∧ ds.getD j 0 < z := fun {j z} hz => by
    obtain ⟨d, h1, h2, h3⟩ := h.get hz
    rw [List.getD_eq_getElem?_getD, h1]
    exact ⟨h2, h3⟩
  refine ⟨h.1, ?_⟩
  rcases (by omega : i = 0 ∨ i = 1 ∨ i = 2) with rfl | rfl | rfl
  · exact ⟨(g (j := 1) rfl).1, (g (j := 2) rfl).1, (g (j := 3) rfl).1, g (j := 4) rfl, (g (j := 5) rfl).1, (g (j := 5) rfl).2⟩
  · exact ⟨(g (j := 6) rfl).1, (g (j := 7) rfl).1, (g (j := 8) rfl).1, g (j := 9) rfl, (g (j := 10) rfl).1, (g (j := 10) rfl).2⟩
  · exact ⟨(g (j := 11) rfl).1, (g (j := 12) rfl).1, (g (j := 13) rfl).1, g (j := 14) rfl, (g (j := 15) rfl).1, (g (j := 15) rfl).2⟩
section
variable {P : Program} {w : World} {K : PySem.W.Frag} {mg : Str → Option Value} {base : Heap}
def sp_lharms : Sp := fun vs H Q _ => ∃ (D : Addr) (ds : List Int) (n : Int), vs = [.ref D, .int n] ∧ H D = some (.lst (ds.map V.int)) ∧ Dig ds dg16 ∧ 1 ≤ n ∧ n ≤ 64 ∧ ∀ (p : Addr) (us : List V) (hs : List Hm) (S : List Int) (H' : Hp), Same H H' → H p = none → H' p = some (.lst us) → HsV H' us hs → okHs hs S → (∀ h ∈ hs, goodH n h) → Q (.ref p) H'
abbrev s__law_harms : Stmt := top 55
theorem sc__law_harms : FnScope ["_law_d", "_law_size", "_law_harms_here", "_law_k", "_law_more"] ["_law_d", "_law_size"] (defScope s__law_harms) := ⟨rfl, rfl, rfl, by decide +kernel, rfl, by decide +kernel, by decide +kernel⟩
/- slots: 0 _law_d, 1 _law_size, 2 _law_harms_here, 3 _law_k, 4 _law_more -/
theorem ok_lharms (B : Bl mg) (h__law_harm : Has P w K mg base 1 "_law_harm" ["_law_d", "_law_size"] sp_lharm) (h__law_cells : Has P w K mg base 1 "_law_cells" ["_law_harms_here"] sp_lcells) (F : FnAt K mg "_law_harms" s__law_harms ["_law_d", "_law_size"]) : Has P w K mg base 2 "_law_harms" ["_law_d", "_law_size"] sp_lharms := by
  refine Has.ofQ F sc__law_harms (fun vs H Q E h => ?_) (fun f cdv A outer s H vs Q E hr h => ?_)
  · obtain ⟨D, ds, n, rfl, _⟩ := h
    rfl
  · obtain ⟨D, ds, n, rfl, hD, hdg, n1, n64, k⟩ := h
    have sc := sc__law_harms
    refine ⟨_, (qss_litQ rfl (qss_cons (qs_setE (i := 2) sc.nd rfl (Or.inl rfl) (qe_lst qa_nil))
      (qss_cons (qs_for PassesOwn.never rfl (qi_of (pi_range1 rfl (B.of rfl) (pa_cons (pe_ix ix_list (pv 0) pe_int (fun _ _ => rfl)) pa_nil))) (pg_name (i := 3) sc.nd rfl (Or.inl rfl))
        (qss_cons (qs_setE (i := 4) sc.nd rfl (Or.inl rfl) (qe_op op_cat (qe_of (pv 2)) (qe_lst (qa_cl (qe_callH h__law_harm hr (qa_sb (qe_sl sl_list (qe_of (pv 0)) (po_some (pe_op op_add pe_int (pe_op op_mul pe_int (pv 3)))) (po_some (pe_op op_add pe_int (pe_op op_mul pe_int (pv 3))))) (qa_nm (qe_of (pv 1)) qa_nil))) qa_nil))))
        (qss_one (qs_ifT (qt_cmpR op_lt (qe_callB call_len_seq rfl (B.of rfl) boot_len (qa_cl (qe_callH h__law_cells hr (qa_nm (qe_of (pv 4)) qa_nil)) qa_nil)) (qe_of pe_int) (nomark _))
          (qss_one (qs_setE (i := 2) sc.nd rfl (Or.inl rfl) (qe_of (pv 4))))
          qss_nil))))
      (qss_one (qs_retE (qe_of (pv 2))))))), ?_⟩
    have z1 : 1 ≤ sizeLine := by decide
    obtain ⟨d0, g0, m0, m4⟩ := hdg.get (i := 0) (z := 4) rfl
    obtain ⟨nn, hnn⟩ : ∃ nn : Nat, d0 = (nn : Int) := ⟨d0.toNat, by omega⟩
    subst hnn
    refine ⟨Nat.zero_le _, fun p0 hp0 => ?_⟩
    generalize hG1 : upd H p0 _ = H1
    have s1 : Same H H1 := by rw [← hG1]; exact (Same.refl H).upd hp0
    have f1 : H1 p0 = some (.lst []) := by rw [← hG1]; exact upd_same
    clear hG1
    refine ⟨_, rfl, D, _, _, _, rfl, rfl, SqL.of (s1 _ _ hD), atI_lit 0 (get_int g0), nn, rfl, by omega, by omega, for_range (n := nn) (fun i σ H2 => ∃ (p : Addr) (us : List V) (hs : List Hm) (S : List Int) (o3 o4 : Option V), σ = [some (.ref D), some (.int n), some (.ref p), o3, o4] ∧ Same H H2 ∧ H p = none ∧ H2 p = some (.lst us) ∧ HsV H2 us hs ∧ hs.length ≤ i ∧ okHs hs S ∧ ∀ h ∈ hs, goodH n h)
      ⟨p0, [], [], [], _, _, rfl, s1, hp0, f1, ⟨rfl, fun i v h a b => by simp at a⟩, by simp, ⟨by simp, (fun _ h => nomatch h), by simp, (fun _ h => nomatch h)⟩, (fun _ h => nomatch h)⟩ ?_ ?_⟩
    · rintro i σ H2 hi ⟨p, us, hs, S, o3, o4, rfl, s2, np, e2, hv, hl, ok, hg⟩
      obtain ⟨dl, q0, q1, q2, q3, q4⟩ := dg_at hdg (i := i) (by omega)
      have cm5 : CMul 5 (0 + (i : Int)) := .inl ⟨by decide, by decide⟩
      refine ⟨_, rfl, _, rfl, _, rfl, _, _, rfl, rfl, cm5, _, _, rfl, rfl, ((1 + 5 * i : Nat) : Int), congrArg V.int (by show (1 : Int) + 5 * (0 + (i : Int)) = _; omega), _, rfl, _, _, rfl, rfl, cm5, _, _, rfl, rfl, ((6 + 5 * i : Nat) : Int), congrArg V.int (by show (6 : Int) + 5 * (0 + (i : Int)) = _; omega), D, _, rfl, SqL.of (s2 _ _ hD), fun q hq => ?_⟩
      have ecut : cutV (ds.map V.int) (some ((1 + 5 * i : Nat) : Int)) (some ((6 + 5 * i : Nat) : Int)) = [V.int (ds.getD (1 + 5 * i) 0), .int (ds.getD (1 + 5 * i + 1) 0), .int (ds.getD (1 + 5 * i + 2) 0), .int (ds.getD (1 + 5 * i + 3) 0), .int (ds.getD (1 + 5 * i + 4) 0)] := by
        rw [cut_mid, List.length_map, dl, show min (6 + 5 * i) 16 - min (1 + 5 * i) 16 = 5 by omega, show min (1 + 5 * i) 16 = 1 + 5 * i by omega, ← List.map_drop, ← List.map_take, take5 (by omega)]
        rfl
      rw [ecut]
      generalize hG3 : upd H2 q _ = H3
      have s3 : Same H2 H3 := by rw [← hG3]; exact (Same.refl H2).upd hq
      have f3 : H3 q = some (.lst [V.int (ds.getD (1 + 5 * i) 0), .int (ds.getD (1 + 5 * i + 1) 0), .int (ds.getD (1 + 5 * i + 2) 0), .int (ds.getD (1 + 5 * i + 3) 0), .int (ds.getD (1 + 5 * i + 4) 0)]) := by rw [← hG3]; exact upd_same
      clear hG3 ecut
      refine ⟨_, rfl, q, _, _, _, _, _, n, rfl, f3, q0, q1, q2, q3.1, q3.2, q4.1, q4.2, n1, n64, fun v h H4 s4 hat hgd => ?_⟩
      refine ⟨z1, fun b hb => ?_⟩
      generalize hG5 : upd H4 b _ = H5
      have s5 : Same H4 H5 := by rw [← hG5]; exact (Same.refl H4).upd hb
      have f5 : H5 b = some (.lst [v]) := by rw [← hG5]; exact upd_same
      clear hG5
      have s25 := (s3.trans s4).trans s5
      have hul := hv.len
      refine ⟨p, b, us, _, rfl, rfl, s25 _ _ e2, f5, sl_le (by simp; omega), fun p2 hp2 => ?_⟩
      generalize hG6 : upd H5 p2 _ = H6
      have s6 : Same H5 H6 := by rw [← hG6]; exact (Same.refl H5).upd hp2
      have f6 : H6 p2 = some (.lst (us ++ [v])) := by rw [← hG6]; exact upd_same
      clear hG6
      have s26 := s25.trans s6
      have np2 : H p2 = none := (s2.trans s25).free hp2
      have hv6 : HsV H6 (us ++ [v]) (hs ++ [h]) := (hv.same s26).snoc (HAt.same (s5.trans s6) hat)
      have oks6 : Oks (hs ++ [h]) := fun g hg' => by
        rcases List.mem_append.mp hg' with hg' | hg'
        · exact ok.ok g hg'
        · rw [List.mem_singleton.mp hg']; exact hgd.1
      refine gn ?_
      dsimp only
      refine ⟨_, rfl, p2, _, _, rfl, f6, hv6, oks6, by simp; omega, fun DD ns H7 s7 nDD eDD hpm hso => ?_⟩
      refine ⟨DD, _, rfl, .inl (SqL.of eDD), _, _, rfl, rfl, _, rfl, ?_⟩
      have s27 := s26.trans s7
      by_cases h4 : ns.length < 4
      · refine iteB (decide_eq_true (by rw [List.length_map]; omega)) ?_
        refine ⟨_, rfl, p2, us ++ [v], hs ++ [h], ns, _, _, rfl, s2.trans s27, np2, s7 _ _ f6, hv6.same s7, by simp; omega, ⟨by simp; omega, oks6, by omega, fun g hg' c hc => ?_⟩, fun g hg' => ?_⟩
        · exact hpm.mem_iff.mpr ((uniq_mem _ c).mpr (List.mem_flatMap.mpr ⟨g, hg', hc⟩))
        · rcases List.mem_append.mp hg' with hg' | hg'
          · exact hg g hg'
          · rw [List.mem_singleton.mp hg']; exact hgd
      · refine iteN (decide_eq_false (by rw [List.length_map]; omega)) ?_
        exact ⟨p, us, hs, S, _, _, rfl, s2.trans s27, np, s27 _ _ e2, hv.same s27, by omega, ok, hg⟩
    · rintro σ H2 ⟨p, us, hs, S, o3, o4, rfl, s2, np, e2, hv, hl, ok, hg⟩
      exact ⟨_, rfl, k p us hs S H2 s2 np e2 hv ok hg⟩
end
end Mh
set_option Elab.async false
set_option linter.all false
set_option maxRecDepth 100000
set_option maxHeartbeats 4000000
namespace Mh
open PySem L2 PyProof.Rows Mx
theorem srt_spr {ns ks : List Int} {n : Int} (hp : ns.Perm (uniq ks)) (hs : ns.Pairwise (· ≤ ·)) (hr : ∀ x ∈ ks, 0 ≤ x ∧ x < n) (hl : ks.length ≤ 8) : Spr ns n := by
  have nd : ns.Nodup := hp.nodup_iff.mpr (uniq_nodup _)
  refine ⟨?_, fun x hx => hr x ((uniq_mem _ x).mp (hp.mem_iff.mp hx)), ?_⟩
  · exact (List.Pairwise.and hs nd).imp fun h => by
      have h1 := h.1
      have h2 := h.2
      omega
  · have := uniq_len ks
    rw [hp.length_eq]
    omega
theorem spr_take {ns : List Int} {n : Int} (h : Spr ns n) (k : Nat) : Spr (ns.take k) n := ⟨h.up.sublist (List.take_sublist _ _), fun x hx => h.rg x (List.mem_of_mem_take hx), by have := h.le; rw [List.length_take]; omega⟩
theorem spr_nil (n : Int) : Spr [] n := ⟨.nil, (fun _ h => nomatch h), by simp⟩
section
variable {P : Program} {w : World} {K : PySem.W.Frag} {mg : Str → Option Value} {base : Heap}
def sp_lbits : Sp := fun vs H Q _ => ∃ (x : Int) (n : Nat), vs = [.int x, .int (n : Int)] ∧ n ≤ 64 ∧ ∀ (p : Addr) (cs : List Int) (H' : Hp), Same H H' → H p = none → H' p = some (.lst (cs.map V.int)) → bits cs → cs.length = n → Q (.ref p) H'
abbrev s__law_bits : Stmt := top 56
theorem sc__law_bits : FnScope ["_law_number", "_law_many", "_law_found", "_law_k"] ["_law_number", "_law_many"] (defScope s__law_bits) := ⟨rfl, rfl, rfl, by decide +kernel, rfl, by decide +kernel, by decide +kernel⟩
/- slots: 0 _law_number, 1 _law_many, 2 _law_found, 3 _law_k -/
theorem ok_lbits (B : Bl mg) (F : FnAt K mg "_law_bits" s__law_bits ["_law_number", "_law_many"]) : Has P w K mg base 1 "_law_bits" ["_law_number", "_law_many"] sp_lbits := by
  refine Has.ofQ F sc__law_bits (fun vs H Q E h => ?_) (fun f cdv A outer s H vs Q E hr h => ?_)
  · obtain ⟨x, n, rfl, _⟩ := h
    rfl
  · obtain ⟨x, n, rfl, h64, k⟩ := h
    have sc := sc__law_bits
    refine ⟨_, (qss_litQ rfl (qss_cons (qs_setE (i := 2) sc.nd rfl (Or.inl rfl) (qe_lst qa_nil))
      (qss_cons (qs_for PassesOwn.never rfl (qi_of (pi_range1 rfl (B.of rfl) (pa_cons (pv 1) pa_nil))) (pg_name (i := 3) sc.nd rfl (Or.inl rfl))
        (qss_cons (qs_expr (qe_bm PySem.F.plainAttrs_list PySem.F.slot_list_append PySem.F.type_list_append mt_append (qe_of (pv 2)) (qa_bo (qe_op op_mod (qe_of (pv 0)) (qe_of pe_int)) qa_nil)))
        (qss_one (qs_setE (i := 0) sc.nd rfl (Or.inl rfl) (qe_op op_fdiv (qe_of (pv 0)) (qe_of pe_int))))))
      (qss_one (qs_retE (qe_of (pv 2))))))), ?_⟩
    refine ⟨Nat.zero_le _, fun p hp => ?_⟩
    generalize hG1 : upd H p _ = H1
    have s1 : Same H H1 := by rw [← hG1]; exact (Same.refl H).upd hp
    have f1 : H1 p = some (.lst []) := by rw [← hG1]; exact upd_same
    clear hG1
    refine ⟨_, rfl, n, rfl, by omega, by omega, for_range (n := n) (fun i σ H2 => ∃ (x' : Int) (cs : List Int) (o3 : Option V), σ = [some (.int x'), some (.int n), some (.ref p), o3] ∧ Same H H2 ∧ H2 p = some (.lst (cs.map V.int)) ∧ bits cs ∧ cs.length = i) ⟨x, [], _, rfl, s1, f1, (fun _ h => nomatch h), rfl⟩ ?_ ?_⟩
    · rintro i σ H2 hi ⟨x', cs, o3, rfl, s2, e2, hb, hl⟩
      refine ⟨_, rfl, .inl ⟨rfl, _, SqL.of e2⟩, ?_⟩
      refine ⟨_, rfl, _, _, rfl, rfl, (by show (0 : Int) < 2; decide), p, _, _, rfl, rfl, e2, sl_lt (by rw [List.length_map]; omega), ?_⟩
      refine ⟨_, rfl, _, _, rfl, rfl, ⟨by decide, by decide⟩, ?_⟩
      refine ⟨_, cs ++ [x' % 2], _, rfl, s2.at hp, by rw [upd_same, List.map_append]; rfl, fun c hc => ?_, by simp [hl]⟩
      rcases List.mem_append.mp hc with hc | hc
      · exact hb c hc
      · rw [List.mem_singleton.mp hc]
        exact bit_of (by omega) (by omega)
    · rintro σ H2 ⟨x', cs, o3, rfl, s2, e2, hb, hl⟩
      exact ⟨_, rfl, k p cs H2 s2 hp e2 hb hl⟩
def sp_lspared : Sp := fun vs H Q _ => ∃ (D O : Addr) (d0 d1 d2 d3 d4 r l : Int) (own : List Int), vs = [.ref D, .ref O, .int r, .int l] ∧ H D = some (.lst [.int d0, .int d1, .int d2, .int d3, .int d4]) ∧ H O = some (.lst (own.map V.int)) ∧ 0 ≤ d1 ∧ 0 ≤ d3 ∧ 1 ≤ r ∧ r ≤ 8 ∧ 1 ≤ l ∧ l ≤ 8 ∧ own.length ≤ 8 ∧ (∀ x ∈ own, 0 ≤ x ∧ x < r * l) ∧
  ∀ (q R M : Addr) (ns ms : List Int) (H' : Hp), Same H H' → H' q = some (.lst [.ref R, .ref M]) → H q = none → H R = none → H M = none → R ≠ M → H' R = some (.lst (ns.map V.int)) → H' M = some (.lst (ms.map V.int)) → Spr ns r → Spr ms l → Q (.ref q) H'
abbrev s__law_spared : Stmt := top 57
theorem sc__law_spared : FnScope ["_law_d", "_law_cells_here", "_law_rows", "_law_lines", "_law_some", "_law_other"] ["_law_d", "_law_cells_here", "_law_rows", "_law_lines"] (defScope s__law_spared) := ⟨rfl, rfl, rfl, by decide +kernel, rfl, by decide +kernel, by decide +kernel⟩
/- slots: 0 _law_d, 1 _law_cells_here, 2 _law_rows, 3 _law_lines, 4 _law_some, 5 _law_other; cells: _law_lines -/
theorem ok_lspared (B : Bl mg) (z_set : mg "set" = none) (F : FnAt K mg "_law_spared" s__law_spared ["_law_d", "_law_cells_here", "_law_rows", "_law_lines"]) : Has P w K mg base 1 "_law_spared" ["_law_d", "_law_cells_here", "_law_rows", "_law_lines"] sp_lspared := by
  refine Has.ofQ F sc__law_spared (fun vs H Q E h => ?_) (fun f cdv A outer s H vs Q E hr h => ?_)
  · obtain ⟨D, O, d0, d1, d2, d3, d4, r, l, own, rfl, _⟩ := h
    rfl
  · obtain ⟨D, O, d0, d1, d2, d3, d4, r, l, own, rfl, hD, hO, p1, p3, r1, r8, l1, l8, ho8, hor, k⟩ := h
    have sc := sc__law_spared
    refine ⟨_, (qss_litQ rfl (qss_cons (qs_setE (i := 4) sc.nd rfl (Or.inl rfl) (qe_lst (qa_cl (qe_callB (call_sortSet rfl) rfl (B.of rfl) boot_sortedF (qa_cl (qe_callTy (call_setR rfl) rfl z_set boot_setT (qa_ls (qe_lst (qa_bo (qe_op op_mod (qe_ix ix_list (qe_of (pv 0)) (qe_of pe_int) (fun _ _ => rfl)) (qe_of (pv 2))) (qa_bo (qe_op op_mod (qe_ix ix_list (qe_of (pv 0)) (qe_of pe_int) (fun _ _ => rfl)) (qe_of (pv 2))) qa_nil))) qa_nil)) qa_nil)) (qa_sb (qe_sl sl_list (qe_callB (call_sortSet rfl) rfl (B.of rfl) boot_sortedF (qa_cl (qe_callTy (call_setR rfl) rfl z_set boot_setT (qa_lc (qe_of (pe_comp rfl (compOk_of rfl) (M := ["_law_cell", "_law_lines"]) (ix := [none, some 3]) (pi_list (pv 1)) (fun _ _ _ _ => (pg_name (i := 0) (show List.Nodup (["_law_cell", "_law_lines"] : List Str) by decide +kernel) rfl (Or.inl rfl))) (fun _ _ _ _ => pts_nil) (fun _ _ _ _ => (pe_op op_fdiv (pv 0) (pv 1))))) qa_nil)) qa_nil)) po_none (po_some (pe_op op_mod (pe_ix ix_list (pv 0) pe_int (fun _ _ => rfl)) pe_int))) qa_nil))))
      (qss_cons (qs_setE (i := 5) sc.nd rfl (Or.inl rfl) (qe_lst (qa_cl (qe_callB (call_sortSet rfl) rfl (B.of rfl) boot_sortedF (qa_cl (qe_callTy (call_setR rfl) rfl z_set boot_setT (qa_ls (qe_lst (qa_bo (qe_op op_mod (qe_ix ix_list (qe_of (pv 0)) (qe_of pe_int) (fun _ _ => rfl)) (qe_of (pv 3))) qa_nil)) qa_nil)) qa_nil)) (qa_sb (qe_sl sl_list (qe_callB (call_sortSet rfl) rfl (B.of rfl) boot_sortedF (qa_cl (qe_callTy (call_setR rfl) rfl z_set boot_setT (qa_lc (qe_of (pe_comp rfl (compOk_of rfl) (M := ["_law_cell", "_law_lines"]) (ix := [none, some 3]) (pi_list (pv 1)) (fun _ _ _ _ => (pg_name (i := 0) (show List.Nodup (["_law_cell", "_law_lines"] : List Str) by decide +kernel) rfl (Or.inl rfl))) (fun _ _ _ _ => pts_nil) (fun _ _ _ _ => (pe_op op_mod (pv 0) (pv 1))))) qa_nil)) qa_nil)) po_none (po_some (pe_op op_mod (pe_ix ix_list (pv 0) pe_int (fun _ _ => rfl)) pe_int))) qa_nil))))
      (qss_one (qs_retE (qe_lst (qa_sb (qe_ix ix_list (qe_op op_cat (qe_of (pv 4)) (qe_lst (qa_ls (qe_lst qa_nil) qa_nil))) (qe_op op_mod (qe_ix ix_list (qe_of (pv 0)) (qe_of pe_int) (fun _ _ => rfl)) (qe_of pe_int)) (fun _ _ => rfl)) (qa_sb (qe_ix ix_list (qe_op op_cat (qe_of (pv 5)) (qe_lst (qa_ls (qe_lst qa_nil) qa_nil))) (qe_op op_mod (qe_ix ix_list (qe_of (pv 0)) (qe_of pe_int) (fun _ _ => rfl)) (qe_of pe_int)) (fun _ _ => rfl)) qa_nil)))))))), ?_⟩
    have z1 : 1 ≤ sizeLine := by decide
    have z2 : 2 ≤ sizeLine := by decide
    -- the first of the rows
    refine ⟨_, rfl, D, _, _, _, rfl, rfl, SqL.of hD, atI_lit 1 rfl, _, rfl, _, _, rfl, rfl, by omega, _, rfl, D, _, _, _, rfl, rfl, SqL.of hD, atI_lit 2 rfl, _, rfl, _, _, rfl, rfl, by omega, z2, fun t1 h1 => ?_⟩
    generalize hG1 : upd H t1 _ = H1
    have s1 : Same H H1 := by rw [← hG1]; exact (Same.refl H).upd h1
    have f1 : H1 t1 = some (.lst (([d1 % r, d2 % r] : List Int).map V.int)) := by rw [← hG1]; exact upd_same
    clear hG1
    refine ⟨t1, _, rfl, f1, by simp, fun qa hqa => ?_⟩
    have za : Same H1 (upd H1 qa (SetO P w qa (uniq [d1 % r, d2 % r]))) := (Same.refl H1).upd hqa
    refine ⟨qa, _, rfl, upd_same, by have := uniq_len [d1 % r, d2 % r]; simp at this; omega, fun Ra na nRa hpRa hsRa => ?_⟩
    have ya := za.upd (o := .lst (na.map V.int)) nRa
    have frRa : H1 Ra = none := za.free nRa
    generalize hGRa : upd _ Ra _ = Ha
    have sHa : Same H1 Ha := by rw [← hGRa]; exact ya
    have fRa : Ha Ra = some (.lst (na.map V.int)) := by rw [← hGRa]; exact upd_same
    clear hGRa ya za nRa
    have sHa' := s1.trans sHa
    refine ⟨_, rfl, O, rfl, ⟨_, SqL.of (sHa' _ _ hO)⟩, fun Db hDb => comp_by (n := own.length) (fun i H' => Same Ha H' ∧ H' Db = some (.lst (((own.map fun c => c / l).take i).map V.int))) ⟨(Same.refl Ha).upd hDb, upd_same⟩ ?_ ?_⟩
    rotate_left
    · rintro i H3 hi ⟨s3, e3⟩
      refine ⟨⟨_, _, SqL.of (s3 _ _ (sHa' _ _ hO)), by rw [List.getElem?_map, List.getElem?_eq_getElem hi]; rfl⟩, ?_⟩
      rintro x H4 ⟨rfl, hx⟩
      obtain ⟨c, hc, rfl⟩ := map_get (hx _ (SqL.of (s3 _ _ (sHa' _ _ hO))))
      refine ⟨KeepS.set (KeepS.refl _) rfl, yes ?_⟩
      refine ⟨_, rfl, _, rfl, _, _, rfl, rfl, ⟨by show (0 : Int) < l; omega, by show l < (1073741824 : Int); omega⟩, ?_⟩
      refine ⟨_, e3, sl_lt (by rw [List.length_map, List.length_take]; omega), s3.at hDb, ?_⟩
      rw [upd_same, List.take_add_one, List.getElem?_map, hc, List.map_append]; rfl
    rintro Hb ⟨sHb, eHb⟩
    refine ⟨⟨_, SqL.of (sHb _ _ (sHa' _ _ hO)), by simp⟩, ?_⟩
    rw [List.take_of_length_le (by simp)] at eHb
    refine ⟨Db, _, rfl, eHb, by simp; omega, fun qb hqb => ?_⟩
    have zb : Same Hb (upd Hb qb (SetO P w qb (uniq (own.map fun c => c / l)))) := (Same.refl Hb).upd hqb
    refine ⟨qb, _, rfl, upd_same, by have := uniq_len (own.map fun c => c / l); simp at this; omega, fun Rb nb nRb hpRb hsRb => ?_⟩
    have yb := zb.upd (o := .lst (nb.map V.int)) nRb
    have frRb : Hb Rb = none := zb.free nRb
    generalize hGRb : upd _ Rb _ = Hc
    have sHc : Same Hb Hc := by rw [← hGRb]; exact yb
    have fRb : Hc Rb = some (.lst (nb.map V.int)) := by rw [← hGRb]; exact upd_same
    clear hGRb yb zb nRb
    have sHc' := (sHa'.trans sHb).trans sHc
    have m3 := Int.emod_nonneg d1 (b := 3) (by decide)
    obtain ⟨j1, ej1⟩ : ∃ j : Nat, d1 % 3 = (j : Int) := ⟨(d1 % 3).toNat, by omega⟩
    refine ⟨_, rfl, D, _, _, _, rfl, rfl, SqL.of (sHc' _ _ hD), atI_lit 1 rfl, _, _, rfl, rfl, by omega, (j1 : Int), congrArg V.int ej1, Rb, _, rfl, SqL.of fRb, fun Rc hRc => ?_⟩
    rw [cut_take]
    generalize hGd : upd Hc Rc _ = Hd
    have sHd : Same Hc Hd := by rw [← hGd]; exact (Same.refl Hc).upd hRc
    have fRc : Hd Rc = some (.lst ((nb.take j1).map V.int)) := by rw [← hGd, List.map_take]; exact upd_same
    clear hGd
    refine ⟨z2, fun sm hsm => ?_⟩
    generalize hGe : upd Hd sm _ = He
    have sHe : Same Hd He := by rw [← hGe]; exact (Same.refl Hd).upd hsm
    have fsm : He sm = some (.lst [.ref Ra, .ref Rc]) := by rw [← hGe]; exact upd_same
    clear hGe
    have sHe' := (sHc'.trans sHd).trans sHe
    -- the lines
    refine ⟨_, rfl, D, _, _, _, rfl, rfl, SqL.of (sHe' _ _ hD), atI_lit 3 rfl, _, rfl, _, _, rfl, rfl, by omega, z1, fun t2 ht2 => ?_⟩
    generalize hGf : upd He t2 _ = Hf
    have sHf : Same He Hf := by rw [← hGf]; exact (Same.refl He).upd ht2
    have ft2 : Hf t2 = some (.lst (([d3 % l] : List Int).map V.int)) := by rw [← hGf]; exact upd_same
    clear hGf
    refine ⟨t2, _, rfl, ft2, by simp, fun qc hqc => ?_⟩
    have zc : Same Hf (upd Hf qc (SetO P w qc (uniq [d3 % l]))) := (Same.refl Hf).upd hqc
    refine ⟨qc, _, rfl, upd_same, by have := uniq_len [d3 % l]; simp at this; omega, fun Ma ma nMa hpMa hsMa => ?_⟩
    have yc := zc.upd (o := .lst (ma.map V.int)) nMa
    have frMa : Hf Ma = none := zc.free nMa
    generalize hGMa : upd _ Ma _ = Hg
    have sHg : Same Hf Hg := by rw [← hGMa]; exact yc
    have fMa : Hg Ma = some (.lst (ma.map V.int)) := by rw [← hGMa]; exact upd_same
    clear hGMa yc zc nMa
    have sHg' := (sHe'.trans sHf).trans sHg
    refine ⟨_, rfl, O, rfl, ⟨_, SqL.of (sHg' _ _ hO)⟩, fun Dd hDd => comp_by (n := own.length) (fun i H' => Same Hg H' ∧ H' Dd = some (.lst (((own.map fun c => c % l).take i).map V.int))) ⟨(Same.refl Hg).upd hDd, upd_same⟩ ?_ ?_⟩
    rotate_left
    · rintro i H3 hi ⟨s3, e3⟩
      refine ⟨⟨_, _, SqL.of (s3 _ _ (sHg' _ _ hO)), by rw [List.getElem?_map, List.getElem?_eq_getElem hi]; rfl⟩, ?_⟩
      rintro x H4 ⟨rfl, hx⟩
      obtain ⟨c, hc, rfl⟩ := map_get (hx _ (SqL.of (s3 _ _ (sHg' _ _ hO))))
      refine ⟨KeepS.set (KeepS.refl _) rfl, yes ?_⟩
      refine ⟨_, rfl, _, rfl, _, _, rfl, rfl, by show (0 : Int) < l; omega, ?_⟩
      refine ⟨_, e3, sl_lt (by rw [List.length_map, List.length_take]; omega), s3.at hDd, ?_⟩
      rw [upd_same, List.take_add_one, List.getElem?_map, hc, List.map_append]; rfl
    rintro Hh ⟨sHh, eHh⟩
    refine ⟨⟨_, SqL.of (sHh _ _ (sHg' _ _ hO)), by simp⟩, ?_⟩
    rw [List.take_of_length_le (by simp)] at eHh
    refine ⟨Dd, _, rfl, eHh, by simp; omega, fun qd hqd => ?_⟩
    have zd : Same Hh (upd Hh qd (SetO P w qd (uniq (own.map fun c => c % l)))) := (Same.refl Hh).upd hqd
    refine ⟨qd, _, rfl, upd_same, by have := uniq_len (own.map fun c => c % l); simp at this; omega, fun Mb mb nMb hpMb hsMb => ?_⟩
    have yd := zd.upd (o := .lst (mb.map V.int)) nMb
    have frMb : Hh Mb = none := zd.free nMb
    generalize hGMb : upd _ Mb _ = Hi
    have sHi : Same Hh Hi := by rw [← hGMb]; exact yd
    have fMb : Hi Mb = some (.lst (mb.map V.int)) := by rw [← hGMb]; exact upd_same
    clear hGMb yd zd nMb
    have sHi' := (sHg'.trans sHh).trans sHi
    have m3' := Int.emod_nonneg d3 (b := 3) (by decide)
    obtain ⟨j3, ej3⟩ : ∃ j : Nat, d3 % 3 = (j : Int) := ⟨(d3 % 3).toNat, by omega⟩
    refine ⟨_, rfl, D, _, _, _, rfl, rfl, SqL.of (sHi' _ _ hD), atI_lit 3 rfl, _, _, rfl, rfl, by omega, (j3 : Int), congrArg V.int ej3, Mb, _, rfl, SqL.of fMb, fun Mc hMc => ?_⟩
    rw [cut_take]
    generalize hGj : upd Hi Mc _ = Hj
    have sHj : Same Hi Hj := by rw [← hGj]; exact (Same.refl Hi).upd hMc
    have fMc : Hj Mc = some (.lst ((mb.take j3).map V.int)) := by rw [← hGj, List.map_take]; exact upd_same
    clear hGj
    refine ⟨z2, fun sn hsn => ?_⟩
    generalize hGk : upd Hj sn _ = Hk
    have sHk : Same Hj Hk := by rw [← hGk]; exact (Same.refl Hj).upd hsn
    have fsn : Hk sn = some (.lst [.ref Ma, .ref Mc]) := by rw [← hGk]; exact upd_same
    clear hGk
    refine gn ?_
    dsimp only
    have sHk' := (sHi'.trans sHj).trans sHk
    have sek : Same He Hk := ((sHf.trans sHg).trans (sHh.trans sHi)).trans (sHj.trans sHk)
    refine ⟨_, rfl, Nat.zero_le _, fun e1 he1 => ?_⟩
    generalize hGl : upd Hk e1 _ = Hl
    have sHl : Same Hk Hl := by rw [← hGl]; exact (Same.refl Hk).upd he1
    have fe1 : Hl e1 = some (.lst []) := by rw [← hGl]; exact upd_same
    clear hGl
    refine ⟨z1, fun e2 he2 => ?_⟩
    generalize hGm : upd Hl e2 _ = Hm
    have sHm : Same Hl Hm := by rw [← hGm]; exact (Same.refl Hl).upd he2
    have fe2 : Hm e2 = some (.lst [.ref e1]) := by rw [← hGm]; exact upd_same
    clear hGm
    have skm := sHl.trans sHm
    refine ⟨sm, e2, _, _, rfl, rfl, (sek.trans skm) _ _ fsm, fe2, sl_le (by simp), fun c1 hc1 => ?_⟩
    generalize hGn : upd Hm c1 _ = Hn
    have sHn : Same Hm Hn := by rw [← hGn]; exact (Same.refl Hm).upd hc1
    have fc1 : Hn c1 = some (.lst [.ref Ra, .ref Rc, .ref e1]) := by rw [← hGn]; exact upd_same
    clear hGn
    have skn := skm.trans sHn
    have sRa : Same Ha Hk := ((sHb.trans sHc).trans (sHd.trans sHe)).trans sek
    have sRc : Same Hd Hk := sHe.trans sek
    have sMa : Same Hg Hk := (sHh.trans sHi).trans (sHj.trans sHk)
    have prA : Spr na r := srt_spr hpRa hsRa (fun x hx => by
      simp at hx
      rcases hx with rfl | rfl
      · exact ⟨Int.emod_nonneg _ (by omega), Int.emod_lt_of_pos _ (by omega)⟩
      · exact ⟨Int.emod_nonneg _ (by omega), Int.emod_lt_of_pos _ (by omega)⟩) (by simp)
    have prB : Spr nb r := srt_spr hpRb hsRb (fun x hx => by
      obtain ⟨c, hc, rfl⟩ := List.mem_map.mp hx
      obtain ⟨c0, c1⟩ := hor c hc
      exact ⟨Int.ediv_nonneg c0 (by omega), Int.ediv_lt_of_lt_mul (by omega) c1⟩) (by simp; omega)
    have prM : Spr ma l := srt_spr hpMa hsMa (fun x hx => by
      simp at hx
      subst hx
      exact ⟨Int.emod_nonneg _ (by omega), Int.emod_lt_of_pos _ (by omega)⟩) (by simp)
    have prN : Spr mb l := srt_spr hpMb hsMb (fun x hx => by
      obtain ⟨c, hc, rfl⟩ := List.mem_map.mp hx
      exact ⟨Int.emod_nonneg _ (by omega), Int.emod_lt_of_pos _ (by omega)⟩) (by simp; omega)
    have sHaF : Same H Ha := sHa'
    obtain ⟨R, nR, hRat, hRl, hRs, hRn, hRw⟩ : ∃ R nR, atI [V.ref Ra, .ref Rc, .ref e1] (d0 % 3) = some (.ref R) ∧ Hn R = some (.lst ((nR : List Int).map V.int)) ∧ Spr nR r ∧ H R = none ∧ (Hk R ≠ none ∧ He R ≠ none ∨ R = e1) := by
      have m0 := Int.emod_nonneg d0 (b := 3) (by decide)
      have m1 := Int.emod_lt_of_pos d0 (b := 3) (by decide)
      rcases (by omega : d0 % 3 = 0 ∨ d0 % 3 = 1 ∨ d0 % 3 = 2) with e | e | e <;> rw [e]
      · exact ⟨Ra, na, rfl, (sRa.trans skn) _ _ fRa, prA, s1.free frRa, .inl ⟨by rw [sRa _ _ fRa]; simp, by rw [((sHb.trans sHc).trans (sHd.trans sHe)) _ _ fRa]; simp⟩⟩
      · exact ⟨Rc, nb.take j1, rfl, (sRc.trans skn) _ _ fRc, spr_take prB j1, sHc'.free hRc, .inl ⟨by rw [sRc _ _ fRc]; simp, by rw [sHe _ _ fRc]; simp⟩⟩
      · exact ⟨e1, [], rfl, (sHm.trans sHn) _ _ fe1, spr_nil r, sHk'.free he1, .inr rfl⟩
    refine ⟨_, rfl, D, _, _, _, rfl, rfl, SqL.of ((sHk'.trans skn) _ _ hD), atI_lit 0 rfl, _, _, rfl, rfl, by omega, c1, _, _, .ref R, rfl, rfl, SqL.of fc1, hRat, ?_⟩
    refine ⟨_, rfl, Nat.zero_le _, fun g1 hg1 => ?_⟩
    generalize hGo : upd Hn g1 _ = Ho
    have sHo : Same Hn Ho := by rw [← hGo]; exact (Same.refl Hn).upd hg1
    have fg1 : Ho g1 = some (.lst []) := by rw [← hGo]; exact upd_same
    clear hGo
    refine ⟨z1, fun g2 hg2 => ?_⟩
    generalize hGp : upd Ho g2 _ = Hp'
    have sHp : Same Ho Hp' := by rw [← hGp]; exact (Same.refl Ho).upd hg2
    have fg2 : Hp' g2 = some (.lst [.ref g1]) := by rw [← hGp]; exact upd_same
    clear hGp
    have snp := sHo.trans sHp
    refine ⟨sn, g2, _, _, rfl, rfl, (skn.trans snp) _ _ fsn, fg2, sl_le (by simp), fun c2 hc2 => ?_⟩
    generalize hGq : upd Hp' c2 _ = Hq
    have sHq : Same Hp' Hq := by rw [← hGq]; exact (Same.refl Hp').upd hc2
    have fc2 : Hq c2 = some (.lst [.ref Ma, .ref Mc, .ref g1]) := by rw [← hGq]; exact upd_same
    clear hGq
    have snq := snp.trans sHq
    have skq := skn.trans snq
    obtain ⟨M, nM, hMat, hMl, hMs, hMn, hMw⟩ : ∃ M nM, atI [V.ref Ma, .ref Mc, .ref g1] (d4 % 3) = some (.ref M) ∧ Hq M = some (.lst ((nM : List Int).map V.int)) ∧ Spr nM l ∧ H M = none ∧ R ≠ M := by
      have m0 := Int.emod_nonneg d4 (b := 3) (by decide)
      have m1 := Int.emod_lt_of_pos d4 (b := 3) (by decide)
      have neO : ∀ {X : Hp} {Z : Addr}, X Z = none → Same He X → Hk Z ≠ none → R ≠ Z := fun {X Z} hz sx hk e => by
        rcases hRw with ⟨_, h2⟩ | h2
        · subst e
          cases hx : He R with
          | none => exact h2 hx
          | some u => rw [sx _ _ hx] at hz; cases hz
        · rw [e] at h2
          rw [h2] at hk
          exact hk he1
      rcases (by omega : d4 % 3 = 0 ∨ d4 % 3 = 1 ∨ d4 % 3 = 2) with e | e | e <;> rw [e]
      · exact ⟨Ma, ma, rfl, (sMa.trans skq) _ _ fMa, prM, (sHe'.trans sHf).free frMa, neO frMa sHf (by rw [sMa _ _ fMa]; simp)⟩
      · exact ⟨Mc, mb.take j3, rfl, (sHk.trans skq) _ _ fMc, spr_take prN j3, sHi'.free hMc, neO hMc ((sHf.trans sHg).trans (sHh.trans sHi)) (by rw [sHk _ _ fMc]; simp)⟩
      · exact ⟨g1, [], rfl, (sHp.trans sHq) _ _ fg1, spr_nil l, (sHk'.trans skn).free hg1, fun z => by rw [z, hg1] at hRl; cases hRl⟩
    refine ⟨_, rfl, D, _, _, _, rfl, rfl, SqL.of ((sHk'.trans skq) _ _ hD), atI_lit 4 rfl, _, _, rfl, rfl, by omega, c2, _, _, .ref M, rfl, rfl, SqL.of fc2, hMat, ?_⟩
    refine ⟨z2, fun q hq => ?_⟩
    have sq := (Same.refl Hq).upd (o := .lst [.ref R, .ref M]) hq
    exact k q R M nR nM _ ((sHk'.trans skq).trans sq) upd_same ((sHk'.trans skq).free hq) hRn hMn hMw ((snq.trans sq) _ _ hRl) (sq _ _ hMl) hRs hMs
end
end Mh
set_option Elab.async false
set_option linter.all false
set_option maxRecDepth 100000
set_option maxHeartbeats 4000000
namespace Mh
open PySem L2 PyProof.Rows Mx
theorem put_len {kvs : List (Key × V)} {k : Key} {v : V} (h : (valV kvs k).isSome = true) : (putK kvs k v).length = kvs.length := by
  unfold putK
  rw [valV_any, if_pos h, List.length_map]
theorem SpD.put {kvs : List (Key × V)} {sp : Nat → Bool} {ws : List Int} (h : SpD kvs sp ws) {a : Nat} {b : Int} (ha : a < ws.length) (hs : sp a = true) : SpD (putK kvs (.inl (a : Int)) (.int b)) sp (ws.set a b) := fun i hi => by
  rw [List.length_set] at hi
  rw [valV_put]
  by_cases e : i = a
  · subst e
    rw [if_pos rfl, if_pos hs, List.getD_eq_getElem?_getD, List.getElem?_set_self hi]
    rfl
  · rw [if_neg (fun z => e (by have := Sum.inl.inj z; omega)), h i hi, List.getD_eq_getElem?_getD, List.getD_eq_getElem?_getD, List.getElem?_set_ne (fun z => e z.symm)]
/-- what is asked, and what is held against it -/
structure RS (H : Hp) (C N e m1 L1 C1 : Addr) (us1 : List V) (d1 m2 L2 C2 : Addr) (us2 : List V) (d2 : Addr) (hs : List Hm) (sp : Nat → Bool) (cs ws : List Int) : Prop where
  men : ∃ kvs, MenO H C N e m1 L1 C1 us1 hs cs d1 kvs ∧ SpD kvs sp ws ∧ kvs.length ≤ 64
  mem : MemO H C m2 L2 C2 us2 hs cs
  dd : ∃ kvs, H d2 = some (.dK kvs) ∧ SpD kvs sp ws ∧ kvs.length ≤ 64
  wl : ws.length = cs.length
  n1 : C1 ≠ C2
  n2 : C1 ≠ L2
  n3 : C2 ≠ L1
  n4 : d1 ≠ d2
/-- only these four may have changed -/
def UpS (H : Hp) (C1 d1 C2 d2 : Addr) (H' : Hp) : Prop := ∀ b u, b ≠ C1 → b ≠ d1 → b ≠ C2 → b ≠ d2 → H b = some u → H' b = some u
section
variable {H H' : Hp} {C N e m1 L1 C1 d1 m2 L2 C2 d2 : Addr} {us1 us2 : List V} {hs : List Hm} {sp : Nat → Bool} {cs ws : List Int}
theorem MenO.same {kvs : List (Key × V)} (h : MenO H C N e m1 L1 C1 us1 hs cs d1 kvs) (s : Same H H') : MenO H' C N e m1 L1 C1 us1 hs cs d1 kvs := by
  obtain ⟨⟨dx, ho⟩, mm, hd⟩ := h
  exact ⟨⟨dx, s _ _ ho⟩, mm.same s, s _ _ hd⟩
theorem RS.same (r : RS H C N e m1 L1 C1 us1 d1 m2 L2 C2 us2 d2 hs sp cs ws) (s : Same H H') : RS H' C N e m1 L1 C1 us1 d1 m2 L2 C2 us2 d2 hs sp cs ws := by
  obtain ⟨⟨k1, h1, h2, h3⟩, hm, ⟨k2, h4, h5, h6⟩, wl, n1, n2, n3, n4⟩ := r
  exact ⟨⟨k1, h1.same s, h2, h3⟩, hm.same s, ⟨k2, s _ _ h4, h5, h6⟩, wl, n1, n2, n3, n4⟩
/-- both memories go on alike -/
theorem RS.both {ds : List Int} {H1 H2 : Hp} (r : RS H C N e m1 L1 C1 us1 d1 m2 L2 C2 us2 d2 hs sp cs ws) (u1 : UpC H C1 ds H1) (u2 : UpC H1 C2 ds H2) (hl : ds.length = cs.length) : RS H2 C N e m1 L1 C1 us1 d1 m2 L2 C2 us2 d2 hs sp ds ws ∧ UpS H C1 d1 C2 d2 H2 := by
  obtain ⟨⟨k1, ⟨⟨dx, ho⟩, mm, hd⟩, h2, h3⟩, hm, ⟨k2, h4, h5, h6⟩, wl, n1, n2, n3, n4⟩ := r
  have go : ∀ b u, b ≠ C1 → b ≠ C2 → H b = some u → H2 b = some u := fun b u h1 h2 e => u2.st b u h2 (u1.st b u h1 e)
  obtain ⟨⟨dy, ho1⟩, q1⟩ := id mm
  obtain ⟨⟨dz, ho2⟩, q2⟩ := id hm
  have hc1 := q1.hc
  have hc2 := q2.hc
  have ne : ∀ {b : Addr} {u : HO}, H b = some u → (∀ xs, u ≠ .lst xs) → b ≠ C1 ∧ b ≠ C2 := fun {b u} e h => ⟨fun z => by subst z; rw [hc1] at e; exact h _ (Option.some.inj e).symm, fun z => by subst z; rw [hc2] at e; exact h _ (Option.some.inj e).symm⟩
  have gk : ∀ {b : Addr} {u : HO}, H b = some u → (∀ xs, u ≠ .lst xs) → H2 b = some u := fun {b u} e h => go b u (ne e h).1 (ne e h).2 e
  have tv : ∀ {us : List V}, HsV H us hs → HsV H2 us hs := fun {us} hv => ⟨hv.len, fun i v h a b => by
    obtain ⟨z, e, hz⟩ := hv.at_ i v h a b
    exact ⟨z, e, gk hz (fun _ z => by cases z)⟩⟩
  refine ⟨⟨⟨k1, ⟨⟨dx, gk ho (fun _ z => by cases z)⟩, ⟨⟨dy, gk ho1 (fun _ z => by cases z)⟩, ⟨q1.ne, go _ _ q1.ne n3.symm q1.hl, tv q1.hv, q1.ok, u2.st _ _ n1 u1.at_⟩⟩, gk hd (fun _ z => by cases z)⟩, h2, h3⟩, ⟨⟨dz, gk ho2 (fun _ z => by cases z)⟩, ⟨q2.ne, go _ _ n2.symm q2.ne q2.hl, tv q2.hv, q2.ok, u2.at_⟩⟩, ⟨k2, gk h4 (fun _ z => by cases z), h5, h6⟩, by omega, n1, n2, n3, n4⟩, fun b u h1 _ h3 _ e => go b u h1 h3 e⟩
end
end Mh
set_option Elab.async false
set_option linter.all false
set_option maxRecDepth 100000
set_option maxHeartbeats 4000000
namespace Mh
open PySem L2 PyProof.Rows Mx
theorem lk_m {L Cc : Addr} {f : Str} (h1 : (f == ("harmed" : Str)) = false := by decide +kernel) (h2 : (f == ("spare" : Str)) = false := by decide +kernel) : (fsN L Cc).lookup f = none := by
  unfold fsN
  rw [List.lookup_cons, h1, List.lookup_cons, h2]
  rfl
theorem readAt_len (hs : List Hm) (cs : List Int) (a : Int) : (readAt hs cs a).2.length = cs.length := readsM_len _ _ _
theorem writeAt_len (hs : List Hm) (cs : List Int) (a b : Int) : (writeAt hs cs a b).length = cs.length := writesM_len _ _ _ _
section
variable {P : Program} {w : World} {K : PySem.W.Frag} {mg : Str → Option Value} {base : Heap} {C N : Addr}
def sp_lisbit : Sp := fun vs H Q _ => ∃ x : Int, vs = [.int x, .int x] ∧ Q (.bl true) H
abbrev s__law_is_bit : Stmt := top 58
theorem sc__law_is_bit : FnScope ["_law_found", "_law_due"] ["_law_found", "_law_due"] (defScope s__law_is_bit) := ⟨rfl, rfl, rfl, by decide +kernel, rfl, by decide +kernel, by decide +kernel⟩
/- slots: 0 _law_found, 1 _law_due -/
theorem ok_lisbit (B : Bl mg) (F : FnAt K mg "_law_is_bit" s__law_is_bit ["_law_found", "_law_due"]) : Has P w K mg base 1 "_law_is_bit" ["_law_found", "_law_due"] sp_lisbit := by
  refine Has.ofQ F sc__law_is_bit (fun vs H Q E h => ?_) (fun f cdv A outer s H vs Q E hr h => ?_)
  · obtain ⟨x, rfl, _⟩ := h
    rfl
  · obtain ⟨x, rfl, k⟩ := h
    have sc := sc__law_is_bit
    refine ⟨_, (qss_litQ rfl (qss_one (qs_retE (qe_of (pe_and (pe_callB call_isi rfl (B.of rfl) boot_isinstance (pa_cons (pv 0) (pa_cons (pe_bltn (v := .ty "int") rfl (B.of rfl) boot_int rfl) pa_nil))) (pe_and (pe_not (pe_callB call_isi rfl (B.of rfl) boot_isinstance (pa_cons (pv 0) (pa_cons (pe_bltn (v := .ty "bool") rfl (B.of rfl) boot_bool rfl) pa_nil)))) (pe_one (pe_cmpR op_eq (pv 0) (pv 1) (nomark _))))))))), ?_⟩
    refine ⟨_, rfl, _, _, _, _, rfl, .int x, rfl, _, rfl, iteT ?_⟩
    refine ⟨_, rfl, _, _, _, _, rfl, .int x, rfl, _, rfl, _, rfl, iteB rfl ?_⟩
    refine ⟨_, rfl, _, rfl, rfl, ?_⟩
    show Q (.bl (decide (V.int x = V.int x))) H
    rw [decide_eq_true rfl]
    exact k
def sp_lheld (C N : Addr) : Sp := fun vs H Q _ => ∃ e m1 L1 C1 us1 d1 m2 L2 C2 us2 d2 hs sp cs ws, vs = [.ref e, .ref m2, .ref d2] ∧ RS H C N e m1 L1 C1 us1 d1 m2 L2 C2 us2 d2 hs sp cs ws ∧ cs.length ≤ 64 ∧ ∀ H', Same H H' → Q (.bl true) H'
abbrev s__law_held : Stmt := top 59
theorem sc__law_held : FnScope ["_law_one", "_law_memory", "_law_spare", "_law_due", "_law_found"] ["_law_one", "_law_memory", "_law_spare"] (defScope s__law_held) := ⟨rfl, rfl, rfl, by decide +kernel, rfl, by decide +kernel, by decide +kernel⟩
/- slots: 0 _law_one, 1 _law_memory, 2 _law_spare, 3 _law_due, 4 _law_found; cells: _law_spare -/
theorem ok_lheld (B : Bl mg) (cm : CM K C) (cn : CN K N) (hm_holds : HasM P w K mg base C 1 "holds" ["self"] (sp_m_holds C)) (hn_holds : HasM P w K mg base N 2 "holds" ["self"] (sp_n_holds C N)) (F : FnAt K mg "_law_held" s__law_held ["_law_one", "_law_memory", "_law_spare"]) : Has P w K mg base 3 "_law_held" ["_law_one", "_law_memory", "_law_spare"] (sp_lheld C N) := by
  refine Has.ofQ F sc__law_held (fun vs H Q E h => ?_) (fun f cdv A outer s H vs Q E hr h => ?_)
  · obtain ⟨e, m1, L1, C1, us1, d1, m2, L2, C2, us2, d2, hs, sp, cs, ws, rfl, _⟩ := h
    rfl
  · obtain ⟨e, m1, L1, C1, us1, d1, m2, L2, C2, us2, d2, hs, sp, cs, ws, rfl, rs, h64, k⟩ := h
    have sc := sc__law_held
    refine ⟨_, (qss_litQ rfl (qss_cons (qs_of (ps_setC (i := 3) rfl sc.nd rfl (Or.inl rfl) rfl (compOk_of rfl) (M := ["_law_address", "_law_bit", "_law_spare"]) (ix := [none, none, some 2]) (pi_enum rfl (B.of rfl) (pa_cons (QE.of (qe_methH0 cm.c hm_holds hr (qe_of (pv 1)))) pa_nil)) (fun _ _ _ _ => (pg_tupK (K := K) (n := 2) rfl rfl (pgs_cons (pg_name (i := 0) (show List.Nodup (["_law_address", "_law_bit", "_law_spare"] : List Str) by decide +kernel) rfl (Or.inl rfl)) (pgs_cons (pg_name (i := 1) (show List.Nodup (["_law_address", "_law_bit", "_law_spare"] : List Str) by decide +kernel) rfl (Or.inl rfl)) pgs_nil)))) (fun _ _ _ _ => pts_nil) (fun _ _ _ _ => (pe_dget2 (hu_of hr) (pv 2) (pv 0) (pv 1) ⟨rfl, rfl, rfl, rfl⟩))))
      (qss_cons (qs_setE (i := 4) sc.nd rfl (Or.inl rfl) (qe_methH0 cn.c hn_holds hr (qe_of (pv 0))))
      (qss_cons (qs_ifT (QW.pt (qw_or (qt_not (qt_valC (qe_callB call_isi rfl (B.of rfl) boot_isinstance (qa_nm (qe_of (pv 4)) (qa_nm (qe_of (pe_bltn (v := .ty "list") rfl (B.of rfl) boot_list rfl)) qa_nil))))) (qw_or (qt_cmpR (op_neD hr) (qe_of (pv 4)) (qe_of (pv 3)) (nomark _)) (qw_or1 (qt_cmpR (op_neD hr) (qe_of (pe_comp rfl (compOk_of rfl) (M := ["_law_bit"]) (ix := [none]) (pi_list (pv 4)) (fun _ _ _ _ => (pg_name (i := 0) (show List.Nodup (["_law_bit"] : List Str) by decide +kernel) rfl (Or.inl rfl))) (fun _ _ _ _ => (pts_one (pt_val (pe_callB (call_isiK (K := K) rfl) rfl (B.of rfl) boot_isinstance (pa_cons (pv 0) (pa_cons (pe_bltn (v := .ty "bool") rfl (B.of rfl) boot_bool rfl) pa_nil)))))) (fun _ _ _ _ => (pv 0)))) (qe_lst qa_nil) (nomark _))))))
        (qss_one (qs_retE (qe_of pe_bl)))
        qss_nil)
      (qss_cons (qs_expr (qe_of (pe_bm PySem.F.plainAttrs_list PySem.F.slot_list_append PySem.F.type_list_append mt_append (pv 4) (pa_cons pe_int pa_nil))))
      (qss_one (qs_retE (qe_of pe_bl)))))))), ?_⟩
    obtain ⟨⟨k1, mo, hs1, hk1⟩, mm, ⟨k2, hd2, hs2, hk2⟩, wl, _, _, _, _⟩ := id rs
    obtain ⟨⟨dx, ho⟩, _, _⟩ := id mo
    obtain ⟨⟨dy, hm⟩, _⟩ := id mm
    refine ⟨_, rfl, m2, dy, _, rfl, hm, lk_n, m2, L2, C2, us2, hs, cs, rfl, mm, fun q hq => ?_⟩
    generalize hG1 : upd H q _ = H1
    have s1 : Same H H1 := by rw [← hG1]; exact (Same.refl H).upd hq
    have f1 : H1 q = some (.lst (cs.map V.int)) := by rw [← hG1]; exact upd_same
    clear hG1
    have mixl : (mixL sp ws cs).length = cs.length := by unfold mixL; simp
    refine ⟨q, _, rfl, SqL.of f1, fun D hD => comp_by (n := cs.length) (fun i H' => Same H1 H' ∧ H' D = some (.lst (((mixL sp ws cs).take i).map V.int))) ⟨(Same.refl H1).upd hD, upd_same⟩ ?_ ?_⟩
    rotate_left
    · rintro i H2 hi ⟨s2, e2⟩
      refine ⟨⟨_, _, SqL.of (s2 _ _ f1), List.getElem?_eq_getElem (by simpa using hi)⟩, ?_⟩
      rintro x H3 ⟨pp, y, hpp, rfl, rfl, hy⟩
      obtain ⟨c, hc, rfl⟩ := int_get (hy _ (SqL.of (s2 _ _ f1)))
      have s3 : Same H2 (upd H2 pp (.tup [.int i, .int c])) := (Same.refl H2).upd hpp
      refine ⟨pp, _, rfl, SqT.of upd_same, rfl, ?_⟩
      revert s3
      generalize upd H2 pp (.tup [.int i, .int c]) = H3
      intro s3
      refine ⟨_, _, rfl, _, _, rfl, rfl, KeepS.set (KeepS.set (KeepS.refl _) rfl) rfl, yes ?_⟩
      have s13 := (s1.trans s2).trans s3
      have hd3 := s13 _ _ hd2
      have hv := hs2 i (by omega)
      refine ⟨_, rfl, d2, rfl, .inl ⟨k2, .inl hd3⟩, _, rfl, _, rfl, _, DGet.k (k := .inl (i : Int)) hd3, ?_⟩
      refine ⟨_, s3 _ _ e2, sl_lt (by rw [List.length_map, List.length_take]; omega), (s2.trans s3).at hD, ?_⟩
      rw [upd_same, List.take_add_one, List.map_append]
      have hm : (mixL sp ws cs)[i]? = some (if sp i = true then ws.getD i 0 else cs.getD i 0) := by
        unfold mixL
        rw [List.getElem?_map, List.getElem?_range hi]
        rfl
      have hcd : cs.getD i 0 = c := by rw [List.getD_eq_getElem?_getD, hc]; rfl
      rw [hm, hv, hcd]
      cases sp i <;> rfl
    rintro H2 ⟨s2, e2⟩
    refine ⟨⟨_, SqL.of (s2 _ _ f1), by simp⟩, ?_⟩
    rw [List.take_of_length_le (by omega)] at e2
    have s12 := s1.trans s2
    refine ⟨_, rfl, e, dx, _, rfl, s12 _ _ ho, lk_m, e, m1, L1, C1, us1, hs, cs, d1, k1, sp, ws, rfl, mo.same s12, hs1, wl, h64, fun D3 H3 s3 nD3 eD3 => ?_⟩
    refine ⟨_, rfl, _, _, _, _, rfl, .lst eD3, rfl, _, rfl, iteN rfl ?_⟩
    refine ⟨_, rfl, _, rfl, _, _, ints_at eD3, ints_at (s3 _ _ e2), ints_lay0 _, ints_lay0 _, ints_depth _, _, rfl, iteN (by rw [ints_eqv]; rfl) ?_⟩
    have n0 : PyData.eqv (.list []) (.list []) = true := by decide +kernel
    have l0 : (PyData.list []).canLay0 = true := by decide +kernel
    have d0 : (PyData.list []).depth ≤ 60 := by decide +kernel
    refine ⟨_, rfl, D3, rfl, ⟨_, SqL.of eD3⟩, fun D4 hD4 => comp_by (n := (mixL sp ws cs).length) (fun i H' => Same H3 H' ∧ H' D4 = some (.lst [])) ⟨(Same.refl H3).upd hD4, upd_same⟩ ?_ ?_⟩
    rotate_left
    · rintro i H5 hi ⟨s5, e5⟩
      refine ⟨⟨_, _, SqL.of (s5 _ _ eD3), by rw [List.getElem?_map, List.getElem?_eq_getElem hi]; rfl⟩, ?_⟩
      rintro x H6 ⟨rfl, hx⟩
      obtain ⟨c, hc, rfl⟩ := map_get (hx _ (SqL.of (s5 _ _ eD3)))
      refine ⟨KeepS.set (KeepS.refl _) rfl, ?_⟩
      exact ⟨_, rfl, _, _, _, _, rfl, .int c, rfl, _, rfl, iteN rfl ⟨s5, e5⟩⟩
    rintro H5 ⟨s5, e5⟩
    refine ⟨⟨_, SqL.of (s5 _ _ eD3), by simp⟩, Nat.zero_le _, fun p6 hp6 => ?_⟩
    have s6 := (Same.refl H5).upd (o := .lst []) hp6
    refine ⟨_, _, .lst (s6 _ _ e5) .nil, .lst upd_same .nil, l0, l0, d0, _, rfl, iteN (by rw [n0]; rfl) ?_⟩
    have s36 := s5.trans s6
    have e6 := s36 _ _ eD3
    have nD0 : H D3 = none := s12.free nD3
    have sH6 := (s12.trans s3).trans s36
    revert e6 sH6
    generalize upd H5 p6 (.lst []) = H6
    intro e6 sH6
    refine ⟨_, rfl, .inl ⟨rfl, _, SqL.of e6⟩, ?_⟩
    exact ⟨D3, _, _, rfl, rfl, e6, sl_lt (by rw [List.length_map]; omega), k _ (sH6.at nD0)⟩
end
end Mh
set_option Elab.async false
set_option linter.all false
set_option maxRecDepth 100000
set_option maxHeartbeats 4000000
namespace Mh
open PySem L2 PyProof.Rows Mx
theorem bits_set {cs : List Int} (h : bits cs) {i : Nat} {b : Int} (hb : ∃ x, b = b2i x) : bits (cs.set i b) := fun c hc => by
  rcases List.mem_or_eq_of_mem_set hc with h1 | h1
  · exact h c h1
  · rw [h1]; exact hb
theorem bits_put {hs : List Hm} {cs : List Int} (h : bits cs) {c b : Int} (hb : ∃ x, b = b2i x) : bits (putM hs cs c b) := by
  unfold putM
  split
  · exact bits_set h hb
  · exact h
theorem stuck_bits {hs : List Hm} (ok : Oks hs) {c b : Int} (h : stuckB hs c = some b) : ∃ x, b = b2i x := by
  unfold stuckB at h
  obtain ⟨g, hg, rfl⟩ := Option.map_eq_some_iff.mp h
  obtain ⟨ns, o⟩ := ok g (List.mem_of_find?_eq_some hg)
  have hw : g.w = "stuck" := by
    have := List.find?_some (p := isStuck c) hg
    unfold isStuck at this
    rw [Bool.and_eq_true] at this
    exact beq_iff_eq.mp this.1
  obtain ⟨a, b, ec, er⟩ := o.s1 (tab_ones (.inl hw))
  exact ⟨b, by unfold Hm.bit; rw [er]; rfl⟩
theorem bits_stk {hs : List Hm} (ok : Oks hs) {cs : List Int} (h : bits cs) : ∀ n, bits (stkN hs cs n)
  | 0 => h
  | n + 1 => by
    have ih := bits_stk ok h n
    unfold stkN
    split
    · rename_i b hb
      exact bits_set ih (stuck_bits ok hb)
    · exact ih
theorem bits_keep {hs : List Hm} : ∀ (l : List Hm) {cs : List Int}, Oks l → bits cs → bits (keepN hs l cs)
  | [], _, _, h => h
  | g :: l, cs, ok, h => by
    refine bits_keep (hs := hs) l (cs := keepOne hs cs g) (fun x hx => ok x (List.mem_cons_of_mem _ hx)) ?_
    unfold keepOne
    split
    · rename_i hk
      obtain ⟨ns, o⟩ := ok g (List.mem_cons_self ..)
      obtain ⟨a, b, x, y, ec, er⟩ := o.sSets (tab_sets (.inr hk.1))
      exact bits_put h ⟨y, by unfold Hm.bit; rw [er]; rfl⟩
    · exact h
theorem bits_settle {hs : List Hm} (ok : Oks hs) {cs : List Int} (h : bits cs) : bits (settleM hs cs) := bits_keep hs ok (bits_stk ok h _)
def isB (b : Int) : Prop := ∃ x, b = b2i x
theorem isB0 : isB 0 := ⟨false, rfl⟩
theorem isB.not {b : Int} (h : isB b) : isB (1 - b) := by
  obtain ⟨x, rfl⟩ := h
  cases x
  · exact ⟨true, rfl⟩
  · exact ⟨false, rfl⟩
theorem bit_bit {h : Hm} {ns : List Str} (o : okH h ns) (i : Nat) : isB (h.bit i) := by
  unfold Hm.bit
  cases e : h.r[i]? with
  | none => rw [List.getD_eq_getElem?_getD, e]; exact isB0
  | some v =>
    rw [List.getD_eq_getElem?_getD, e]
    have hl := o.rest.len
    have hi := (List.getElem?_eq_some_iff.mp e).1
    obtain ⟨n, hn⟩ : ∃ n, ns[i]? = some n := ⟨ns[i]'(by omega), List.getElem?_eq_getElem _⟩
    rcases o.rest.get hn e with ⟨_, b, rfl⟩ | ⟨_, rfl | rfl⟩
    · exact ⟨b, rfl⟩
    · exact isB0
    · exact isB0
theorem rd_bit {cs : List Int} (h : bits cs) (c : Int) : isB (rd cs c) := by
  unfold rd
  rw [List.getD_eq_getElem?_getD]
  cases e : cs[c.toNat]? with
  | none => exact isB0
  | some v => exact h v (List.mem_of_getElem? e)
theorem read_bits {hs : List Hm} {cs : List Int} (h : bits cs) (c : Int) : isB (readM hs cs c).1 ∧ bits (readM hs cs c).2 := by
  unfold readM
  have h1 := rd_bit h c
  have h2 : bits (putM hs cs c (1 - rd cs c)) := bits_put h h1.not
  split
  · exact ⟨h1, h⟩
  · refine ⟨?_, h2⟩
    dsimp only
    split
    · exact h1
    · exact rd_bit h2 c
theorem reads_bits {hs : List Hm} : ∀ (l : List Int) {cs : List Int}, bits cs → (∀ b ∈ (readsM hs l cs).1, isB b) ∧ bits (readsM hs l cs).2
  | [], cs, h => ⟨fun b hb => by simp [readsM] at hb, h⟩
  | c :: l, cs, h => by
    obtain ⟨g1, g2⟩ := read_bits (hs := hs) h c
    obtain ⟨k1, k2⟩ := reads_bits (hs := hs) l g2
    refine ⟨fun b hb => ?_, k2⟩
    rcases List.mem_cons.mp hb with rfl | hb
    · exact g1
    · exact k1 b hb
theorem readAt_bits {hs : List Hm} (ok : Oks hs) {cs : List Int} (h : bits cs) (a : Int) : isB (readAt hs cs a).1 ∧ bits (readAt hs cs a).2 := by
  obtain ⟨k1, k2⟩ := reads_bits (hs := hs) (reach (addrH hs a) a) h
  refine ⟨?_, k2⟩
  unfold readAt
  dsimp only
  revert k1
  generalize (readsM hs (reach (addrH hs a) a) cs).1 = l
  intro k1
  match l, k1 with
  | [], _ =>
    unfold valOf
    cases e : addrH hs a with
    | none => exact isB0
    | some x =>
      obtain ⟨ns, o⟩ := ok x (addrH_some e).1
      exact bit_bit o 0
  | [b], k1 => exact k1 b (by simp)
  | b :: c :: _, k1 =>
    have hb := k1 b (by simp)
    have hc := k1 c (by simp)
    simp only [valOf]
    split
    · unfold loI; split <;> assumption
    · unfold hiI; split <;> assumption
theorem kept_bits {hs : List Hm} (ok : Oks hs) {cs : List Int} {c b : Int} (hb : isB b) : isB (keptB hs cs c b) := by
  unfold keptB
  split
  · rename_i x e
    obtain ⟨ns, o⟩ := ok x (List.mem_of_find?_eq_some e)
    exact bit_bit o 1
  · exact hb
theorem act_bits {hs : List Hm} (ok : Oks hs) (c : Int) : ∀ (l : List Hm) {cs : List Int}, (∀ h ∈ l, h ∈ hs) → bits cs → bits (actN hs l c cs)
  | [], cs, _, h => h
  | x :: l, cs, hl, h => by
    refine act_bits ok c l (fun y hy => hl y (List.mem_cons_of_mem _ hy)) (cs := actOne hs c cs x) ?_
    unfold actOne
    obtain ⟨ns, o⟩ := ok x (hl x (List.mem_cons_self ..))
    split
    · refine bits_put h ?_
      split
      · exact (rd_bit h _).not
      · exact bit_bit o 1
    · exact h
theorem write_bits {hs : List Hm} (ok : Oks hs) {cs : List Int} (h : bits cs) {c b : Int} (hb : isB b) : bits (writeM hs cs c b) := by
  unfold writeM
  have h1 : bits (putM hs cs c (keptB hs cs c b)) := bits_put h (kept_bits ok hb)
  split
  · exact h
  · split
    · exact h1
    · exact act_bits ok c hs (fun _ h => h) h1
theorem writes_bits {hs : List Hm} (ok : Oks hs) {b : Int} (hb : isB b) : ∀ (l : List Int) {cs : List Int}, bits cs → bits (writesM hs b l cs)
  | [], cs, h => h
  | c :: l, cs, h => writes_bits ok hb l (write_bits ok h hb)
theorem mix_bits {sp : Nat → Bool} {ws cs : List Int} (h1 : bits cs) (h2 : bits ws) : bits (mixL sp ws cs) := fun x hx => by
  unfold mixL at hx
  obtain ⟨a, ha, rfl⟩ := List.mem_map.mp hx
  have gd : ∀ {l : List Int}, bits l → isB (l.getD a 0) := fun {l} h => by
    rw [List.getD_eq_getElem?_getD]
    cases e : l[a]? with
    | none => exact isB0
    | some x => exact h x (List.mem_of_getElem? e)
  cases sp a
  · exact gd h1
  · exact gd h2
theorem bit_sm {x : Int} (h : isB x) : Sm 0 0 (.int x) := by
  obtain ⟨b, rfl⟩ := h
  cases b <;> exact ⟨by decide +kernel, by decide +kernel, by decide +kernel, by decide +kernel⟩
theorem bits_shown {cs : List Int} (h : bits cs) (hl : cs.length ≤ 64) : (PyData.list (cs.map PyData.int)).showable = true ∧ (PyData.list (cs.map PyData.int)).depth ≤ 60 ∧ (PyData.list (cs.map PyData.int)).shown.length ≤ sizeLine :=
  (Sm.list (n := 64) (D := 0) (B := 0) (fun x hx => by
    obtain ⟨c, hc, rfl⟩ := List.mem_map.mp hx
    exact bit_sm (h c hc)) (by rw [List.length_map]; exact hl)).shown
end Mh
set_option Elab.async false
set_option linter.all false
set_option maxRecDepth 100000
set_option maxHeartbeats 4000000
namespace Mh
open PySem L2 PyProof.Rows Mx
section
variable {H H' : Hp} {C N e m1 l1 C1 d1 m2 l2 C2 d2 : Addr} {us1 us2 : List V} {hs : List Hm} {sp : Nat → Bool} {cs ws : List Int}
/-- a spare cell is written in both -/
theorem RS.spare {H1 : Hp} {kvs1 kvs2 : List (Key × V)} (r : RS H C N e m1 l1 C1 us1 d1 m2 l2 C2 us2 d2 hs sp cs ws) (s : Same H H1) {a : Nat} {b : Int} (ha : a < cs.length) (hs' : sp a = true)
    (mo : MenO H C N e m1 l1 C1 us1 hs cs d1 kvs1) (h1 : SpD kvs1 sp ws) (k1 : kvs1.length ≤ 64) (hd2 : H d2 = some (.dK kvs2)) (h2 : SpD kvs2 sp ws) (k2 : kvs2.length ≤ 64) :
    RS (upd (upd H1 d1 (.dK (putK kvs1 (.inl (a : Int)) (.int b)))) d2 (.dK (putK kvs2 (.inl (a : Int)) (.int b)))) C N e m1 l1 C1 us1 d1 m2 l2 C2 us2 d2 hs sp cs (ws.set a b) ∧ UpS H C1 d1 C2 d2 (upd (upd H1 d1 (.dK (putK kvs1 (.inl (a : Int)) (.int b)))) d2 (.dK (putK kvs2 (.inl (a : Int)) (.int b)))) := by
  have wl := r.wl
  have n4 := r.n4
  have go : ∀ b' u, b' ≠ d1 → b' ≠ d2 → H b' = some u → (upd (upd H1 d1 (.dK (putK kvs1 (.inl (a : Int)) (.int b)))) d2 (.dK (putK kvs2 (.inl (a : Int)) (.int b)))) b' = some u := fun b' u e1 e2 e => by rw [upd_ne e2, upd_ne e1]; exact s _ _ e
  have hd1 := mo.d
  have gk : ∀ {b' : Addr} {u : HO}, H b' = some u → (∀ k, u ≠ .dK k) → (upd (upd H1 d1 (.dK (putK kvs1 (.inl (a : Int)) (.int b)))) d2 (.dK (putK kvs2 (.inl (a : Int)) (.int b)))) b' = some u := fun {b' u} e h => go b' u (fun z => by subst z; rw [hd1] at e; exact h _ (Option.some.inj e).symm) (fun z => by subst z; rw [hd2] at e; exact h _ (Option.some.inj e).symm) e
  have mk : ∀ {m L Cc : Addr} {us : List V}, MemO H C m L Cc us hs cs → MemO (upd (upd H1 d1 (.dK (putK kvs1 (.inl (a : Int)) (.int b)))) d2 (.dK (putK kvs2 (.inl (a : Int)) (.int b)))) C m L Cc us hs cs := fun {m L Cc us} h => by
    obtain ⟨⟨dx, ho⟩, mm⟩ := h
    refine ⟨⟨dx, gk ho (fun _ z => by cases z)⟩, ⟨mm.ne, gk mm.hl (fun _ z => by cases z), ⟨mm.hv.len, fun i v h a b => ?_⟩, mm.ok, gk mm.hc (fun _ z => by cases z)⟩⟩
    obtain ⟨z, e, hz⟩ := mm.hv.at_ i v h a b
    exact ⟨z, e, gk hz (fun _ z => by cases z)⟩
  have v1 := h1 a (by omega)
  have v2 := h2 a (by omega)
  rw [if_pos hs'] at v1 v2
  refine ⟨⟨⟨_, ⟨?_, mk mo.m, by rw [upd_ne n4]; exact upd_same⟩, h1.put (by omega) hs', by rw [put_len (by rw [v1]; rfl)]; exact k1⟩, mk r.mem, ⟨_, upd_same, h2.put (by omega) hs', by rw [put_len (by rw [v2]; rfl)]; exact k2⟩, by rw [List.length_set]; exact wl, r.n1, r.n2, r.n3, n4⟩, fun b' u _ e2 _ e4 e => go b' u e2 e4 e⟩
  obtain ⟨dx, ho⟩ := mo.o
  exact ⟨dx, gk ho (fun _ z => by cases z)⟩
theorem mem_up {ds : List Int} {H1 : Hp} {m L Cc D : Addr} {us : List V} {xs : List V} (h : MemO H C m L Cc us hs cs) (u : UpC H D ds H1) (hD : H D = some (.lst xs)) (n1 : D ≠ Cc) (n2 : D ≠ L) : MemO H1 C m L Cc us hs cs := by
  obtain ⟨⟨dx, ho⟩, mm⟩ := h
  have gk : ∀ {b' : Addr} {u' : HO}, H b' = some u' → (∀ k, u' ≠ .lst k) → H1 b' = some u' := fun {b' u'} e h => u.st b' u' (fun z => by subst z; rw [hD] at e; exact h _ (Option.some.inj e).symm) e
  refine ⟨⟨dx, gk ho (fun _ z => by cases z)⟩, ⟨mm.ne, u.st _ _ n2.symm mm.hl, ⟨mm.hv.len, fun i v h a b => ?_⟩, mm.ok, u.st _ _ n1.symm mm.hc⟩⟩
  obtain ⟨z, e, hz⟩ := mm.hv.at_ i v h a b
  exact ⟨z, e, gk hz (fun _ z => by cases z)⟩
end
section
variable {P : Program} {w : World} {K : PySem.W.Frag} {mg : Str → Option Value} {base : Heap} {C N : Addr}
def sp_ldone (C N : Addr) : Sp := fun vs H Q _ => ∃ e m1 l1 C1 us1 d1 m2 l2 C2 us2 d2 hs sp cs ws, ∃ a : Nat, ∃ dd : Int, vs = [.ref e, .ref m2, .ref d2, .int (a : Int), .int dd] ∧ RS H C N e m1 l1 C1 us1 d1 m2 l2 C2 us2 d2 hs sp cs ws ∧ InR hs cs.length ∧ a < cs.length ∧ 0 ≤ dd ∧ bits cs ∧ bits ws ∧ Oks hs ∧
  ∀ cs' ws' H', bits cs' → bits ws' → RS H' C N e m1 l1 C1 us1 d1 m2 l2 C2 us2 d2 hs sp cs' ws' → cs'.length = cs.length → UpS H C1 d1 C2 d2 H' → Q (.bl true) H'
abbrev s__law_done : Stmt := top 60
theorem sc__law_done : FnScope ["_law_one", "_law_memory", "_law_spare", "_law_address", "_law_deed"] ["_law_one", "_law_memory", "_law_spare", "_law_address", "_law_deed"] (defScope s__law_done) := ⟨rfl, rfl, rfl, by decide +kernel, rfl, by decide +kernel, by decide +kernel⟩
/- slots: 0 _law_one, 1 _law_memory, 2 _law_spare, 3 _law_address, 4 _law_deed -/
theorem ok_ldone (cm : CM K C) (cn : CN K N) (h__law_is_bit : Has P w K mg base 1 "_law_is_bit" ["_law_found", "_law_due"] sp_lisbit) (hm_read : HasM P w K mg base C 5 "read" ["self", "address"] (sp_m_read C)) (hm_write : HasM P w K mg base C 6 "write" ["self", "address", "bit"] (sp_m_write C))
    (hn_read : HasM P w K mg base N 6 "read" ["self", "address"] (sp_n_read C N)) (hn_write : HasM P w K mg base N 7 "write" ["self", "address", "bit"] (sp_n_write C N)) (F : FnAt K mg "_law_done" s__law_done ["_law_one", "_law_memory", "_law_spare", "_law_address", "_law_deed"]) : Has P w K mg base 8 "_law_done" ["_law_one", "_law_memory", "_law_spare", "_law_address", "_law_deed"] (sp_ldone C N) := by
  refine Has.ofQ F sc__law_done (fun vs H Q E h => ?_) (fun f cdv A outer s H vs Q E hr h => ?_)
  · obtain ⟨e, m1, l1, C1, us1, d1, m2, l2, C2, us2, d2, hs, sp, cs, ws, a, dd, rfl, _⟩ := h
    rfl
  · obtain ⟨e, m1, l1, C1, us1, d1, m2, l2, C2, us2, d2, hs, sp, cs, ws, a, dd, rfl, rs, ir, ha, hdd, bc, bw, oks, k⟩ := h
    have sc := sc__law_done
    refine ⟨_, (qss_litQ rfl (qss_cons (qs_ifT (qt_cmpR op_lt (qe_of (pv 4)) (qe_of pe_int) (nomark _))
        (qss_cons (qs_ifT (qt_of (pt_cmp (pc_notN (QE.of (qe_methH cn.c hn_write hr (qe_of (pv 0)) (qa_nm (qe_of (pv 3)) (qa_nm (qe_of (pv 4)) qa_nil)))))))
          (qss_one (qs_retE (qe_of pe_bl)))
          qss_nil)
        (qss_cut (qs_ifT (qt_of (pt_cmp (pc_din (hu_of hr) (QE.of (qe_of (pv 3))) (QE.of (qe_of (pv 2)))) (by with_unfolding_all rfl)))
          (qss_one (qs_of (ps_dput (hu_of hr) (QE.of (qe_of (pv 2))) (QE.of (qe_of (pv 3))) (QE.of (qe_of (pv 4))) rfl)))
          (qss_one (qs_expr (qe_methH cm.c hm_write hr (qe_of (pv 1)) (qa_nm (qe_of (pv 3)) (qa_nm (qe_of (pv 4)) qa_nil))))))
        (qss_one (qs_retE (qe_of pe_bl)))))
        qss_nil)
      (qss_cons (qs_ifT (qt_of (pt_cmp (pc_din (hu_of hr) (QE.of (qe_of (pv 3))) (QE.of (qe_of (pv 2)))) (by with_unfolding_all rfl)))
        (qss_one (qs_retE (qe_callH h__law_is_bit hr (qa_cl (qe_methH cn.c hn_read hr (qe_of (pv 0)) (qa_nm (qe_of (pv 3)) qa_nil)) (qa_sb (qe_dget (hu_of hr) (qe_of (pv 2)) (qe_of (pv 3)) (fun _ _ => rfl)) qa_nil)))))
        qss_nil)
      (qss_one (qs_retE (qe_callH h__law_is_bit hr (qa_cl (qe_methH cn.c hn_read hr (qe_of (pv 0)) (qa_nm (qe_of (pv 3)) qa_nil)) (qa_cl (qe_methH cm.c hm_read hr (qe_of (pv 1)) (qa_nm (qe_of (pv 3)) qa_nil)) qa_nil)))))))), ?_⟩
    obtain ⟨⟨k1, mo, hs1, hk1⟩, mm, ⟨k2, hd2, hs2, hk2⟩, wl, n1, n2, n3, n4⟩ := id rs
    obtain ⟨⟨dx, ho⟩, mo1, hd1⟩ := id mo
    obtain ⟨⟨dy, hm⟩, mm2⟩ := id mm
    have v2 := hs2 a (by omega)
    refine ⟨_, rfl, _, _, rfl, rfl, _, rfl, ?_⟩
    by_cases hlt : dd < 2
    · refine iteB (decide_eq_true hlt) ?_
      obtain ⟨b, rfl⟩ := bit_of hdd hlt
      refine ⟨_, rfl, e, dx, _, rfl, ho, lk_m, _, rfl, _, rfl, e, m1, l1, C1, us1, hs, cs, d1, k1, sp, ws, a, b, rfl, mo, ir, hs1, wl, ha, hk1, fun hsa H1 s1 => ?_, fun hsa H1 u1 => ?_⟩
      · refine ⟨_, rfl, iteN rfl ?_⟩
        rw [if_pos hsa] at v2
        have ndd : d2 ≠ d1 := n4.symm
        have e2 : (upd H1 d1 (.dK (putK k1 (.inl (a : Int)) (.int (b2i b))))) d2 = some (.dK k2) := by rw [upd_ne ndd]; exact s1 _ _ hd2
        refine ⟨fun _ H' => Q (.bl true) H', ?_, fun _ _ h => h⟩
        refine ⟨_, rfl, _, rfl, d2, _, rfl, DGet.k (k := .inl (a : Int)) e2, _, rfl, iteB (by rw [v2]; rfl) ?_⟩
        refine ⟨_, rfl, _, rfl, _, rfl, d2, _, rfl, DPut.k (k := .inl (a : Int)) e2 (sl_lt (by omega)), ?_⟩
        obtain ⟨r2, u2⟩ := rs.spare s1 (b := b2i b) ha hsa mo hs1 hk1 hd2 hs2 hk2
        exact k _ _ _ bc (bits_set bw ⟨b, rfl⟩) r2 rfl u2
      · refine ⟨_, rfl, iteN rfl ?_⟩
        rw [hsa, if_neg (by simp)] at v2
        have hc1 := mo1.m.hc
        have e2 : H1 d2 = some (.dK k2) := u1.st _ _ (fun z => by subst z; rw [hd2] at hc1; cases hc1) hd2
        have mm1 := mem_up mm u1 hc1 n1 n2
        obtain ⟨⟨dz, hm1⟩, _⟩ := id mm1
        refine ⟨fun _ H' => Q (.bl true) H', ?_, fun _ _ h => h⟩
        refine ⟨_, rfl, _, rfl, d2, _, rfl, DGet.k (k := .inl (a : Int)) e2, _, rfl, iteN (by rw [v2]; rfl) ?_⟩
        refine ⟨_, rfl, m2, dz, _, rfl, hm1, lk_n, _, rfl, _, rfl, m2, l2, C2, us2, hs, cs, a, b, rfl, mm1, ir, by omega, by omega, fun H2 u2 => ?_⟩
        obtain ⟨r2, up⟩ := rs.both u1 u2 (writeAt_len _ _ _ _)
        exact k _ _ _ (writes_bits oks ⟨b, rfl⟩ _ bc) bw r2 (writeAt_len _ _ _ _) up
    · refine iteN (decide_eq_false hlt) ?_
      refine ⟨_, rfl, _, rfl, d2, _, rfl, DGet.k (k := .inl (a : Int)) hd2, _, rfl, ?_⟩
      cases hsa : sp a with
      | true =>
        rw [hsa, if_pos rfl] at v2
        refine iteB (by rw [v2]; rfl) ?_
        refine ⟨_, rfl, e, dx, _, rfl, ho, lk_m, _, rfl, e, m1, l1, C1, us1, hs, cs, d1, k1, sp, ws, a, rfl, mo, ir, hs1, wl, ha, fun _ => ?_, fun z => (by rw [hsa] at z; cases z)⟩
        exact ⟨_, rfl, _, rfl, d2, _, rfl, by rw [← v2]; exact DGet.k (k := .inl (a : Int)) hd2, _, rfl, k _ _ _ bc bw rs rfl fun b u _ _ _ _ e => e⟩
      | false =>
        rw [hsa, if_neg (by simp)] at v2
        refine iteN (by rw [v2]; rfl) ?_
        refine ⟨_, rfl, e, dx, _, rfl, ho, lk_m, _, rfl, e, m1, l1, C1, us1, hs, cs, d1, k1, sp, ws, a, rfl, mo, ir, hs1, wl, ha, fun z => (by rw [hsa] at z; cases z), fun _ H1 u1 => ?_⟩
        have hc1 := mo1.m.hc
        have mm1 := mem_up mm u1 hc1 n1 n2
        obtain ⟨⟨dz, hm1⟩, _⟩ := id mm1
        refine ⟨_, rfl, m2, dz, _, rfl, hm1, lk_n, _, rfl, m2, l2, C2, us2, hs, cs, a, rfl, mm1, ir, by omega, by omega, fun H2 u2 => ?_⟩
        obtain ⟨r2, up⟩ := rs.both u1 u2 (readAt_len _ _ _)
        exact ⟨_, rfl, k _ _ _ (readAt_bits oks bc a).2 bw r2 (readAt_len _ _ _) up⟩
end
end Mh
set_option Elab.async false
set_option linter.all false
set_option maxRecDepth 100000
set_option maxHeartbeats 4000000
namespace Mh
open PySem L2 PyProof.Rows Mx
section
variable {H H' : Hp} {C N e m1 l1 C1 d1 m2 l2 C2 d2 : Addr} {us1 us2 : List V} {hs : List Hm} {sp : Nat → Bool} {cs ws : List Int}
/-- all but some lists and dicts stays -/
structure Stay (H : Hp) (bad : Addr → Prop) (H' : Hp) : Prop where
  st : ∀ b u, ¬ bad b → H b = some u → H' b = some u
  ob : ∀ b, bad b → ∃ o, H b = some o ∧ (∀ c d f, o ≠ .ins c d f) ∧ ∀ t, o ≠ .tup t
theorem Stay.mem {bad : Addr → Prop} {m L Cc : Addr} {us : List V} (s : Stay H bad H') (h : MemO H C m L Cc us hs cs) (n1 : ¬ bad L) (n2 : ¬ bad Cc) : MemO H' C m L Cc us hs cs := by
  have nb : ∀ {b : Addr} {o : HO}, H b = some o → ((∃ c d f, o = .ins c d f) ∨ ∃ t, o = .tup t) → ¬ bad b := fun {b o} e h q => by
    obtain ⟨o', e', h1, h2⟩ := s.ob b q
    rw [e] at e'
    cases e'
    rcases h with ⟨c, d, f, rfl⟩ | ⟨t, rfl⟩
    · exact h1 _ _ _ rfl
    · exact h2 _ rfl
  obtain ⟨⟨dx, ho⟩, mm⟩ := h
  refine ⟨⟨dx, s.st _ _ (nb ho (.inl ⟨_, _, _, rfl⟩)) ho⟩, ⟨mm.ne, s.st _ _ n1 mm.hl, ⟨mm.hv.len, fun i v h a b => ?_⟩, mm.ok, s.st _ _ n2 mm.hc⟩⟩
  obtain ⟨z, e, hz⟩ := mm.hv.at_ i v h a b
  exact ⟨z, e, s.st _ _ (nb hz (.inr ⟨_, rfl⟩)) hz⟩
theorem Stay.men {bad : Addr → Prop} {e m L Cc d : Addr} {us : List V} {kvs : List (Key × V)} (s : Stay H bad H') (h : MenO H C N e m L Cc us hs cs d kvs) (n1 : ¬ bad L) (n2 : ¬ bad Cc) (n3 : ¬ bad d) : MenO H' C N e m L Cc us hs cs d kvs := by
  obtain ⟨⟨dx, ho⟩, mm, hd⟩ := h
  refine ⟨⟨dx, s.st _ _ (fun q => ?_) ho⟩, s.mem mm n1 n2, s.st _ _ n3 hd⟩
  obtain ⟨o', e', h1, _⟩ := s.ob _ q
  rw [ho] at e'
  cases e'
  exact h1 _ _ _ rfl
theorem UpS.trans {H2 : Hp} (a : UpS H C1 d1 C2 d2 H') (b : UpS H' C1 d1 C2 d2 H2) : UpS H C1 d1 C2 d2 H2 := fun x u h1 h2 h3 h4 e => b x u h1 h2 h3 h4 (a x u h1 h2 h3 h4 e)
theorem UpS.of (s : Same H H') : UpS H C1 d1 C2 d2 H' := fun x u _ _ _ _ e => s _ _ e
end
def dg120 : List Int := (List.replicate 40 ([4, 64, 4] : List Int)).flatten
theorem dg120_at : ∀ i : Nat, i < 40 → dg120[3 * i]? = some 4 ∧ dg120[3 * i + 1]? = some 64 ∧ dg120[3 * i + 2]? = some 4 := by decide +kernel
theorem dg120_ok : dg120.length ≤ 130 ∧ ∀ z ∈ dg120, 0 < z ∧ z ≤ 18446744073709551616 := by decide +kernel
end Mh
set_option Elab.async false
set_option linter.all false
set_option maxRecDepth 100000
set_option maxHeartbeats 4000000
namespace Mh
open PySem L2 PyProof.Rows Mx
theorem dig_drop {ds a b : List Int} (h : Dig ds (a ++ b)) : Dig (ds.drop a.length) b := by
  obtain ⟨h1, h2⟩ := h
  rw [List.length_append] at h1
  refine ⟨by rw [List.length_drop]; omega, fun i d z g1 g2 => ?_⟩
  rw [List.getElem?_drop] at g1
  exact h2 (a.length + i) d z g1 (by rw [List.getElem?_append_right (by omega)]; simpa using g2)
def dgR : List Int := [8, 8, 3, 8, 8, 8, 3] ++ dg16
theorem eqv_nil (l : List Int) : PyData.eqv (intsD l) (.list []) = l.isEmpty := by
  unfold intsD
  cases l <;> simp [PyData.eqv, PyData.eqvAll]
section
variable {P : Program} {w : World} {K : PySem.W.Frag} {mg : Str → Option Value} {base : Heap} {C N : Addr}
def sp_lright : Sp := fun vs H Q _ => ∃ (A : Addr) (a b c t : Int), vs = [.ref A, .int t] ∧ H A = some (.lst [.int a, .int b, .int c]) ∧ 0 ≤ t ∧ t ≤ 1000 ∧ ∀ H', Same H H' → Q (.bl true) H'
abbrev s__law_right : Stmt := top 61
theorem sc__law_right : FnScope ["_law_cells_here", "_law_turn", "_law_d", "_law_rows", "_law_lines", "_law_harms_here", "_law_own", "_law_others", "_law_contents", "_law_one", "_law_memory", "_law_beside", "_law_spare", "_law_address", "_law_first", "_law_deeds", "_law_k", "_law_near", "_law_told", "_law_word"] ["_law_cells_here", "_law_turn"] (defScope s__law_right) := ⟨rfl, rfl, rfl, by decide +kernel, rfl, by decide +kernel, by decide +kernel⟩
/- slots: 0 _law_cells_here, 1 _law_turn, 2 _law_d, 3 _law_rows, 4 _law_lines, 5 _law_harms_here, 6 _law_own, 7 _law_others, 8 _law_contents, 9 _law_one, 10 _law_memory, 11 _law_beside, 12 _law_spare, 13 _law_address, 14 _law_first, 15 _law_deeds, 16 _law_k, 17 _law_near, 18 _law_told, 19 _law_word -/
theorem ok_lright (B : Bl mg) (cm : CM K C) (cn : CN K N) (h__law_digits : Has P w K mg base 1 "_law_digits" ["_law_cell", "_law_turn", "_law_sizes"] sp_digits) (h__law_harms : Has P w K mg base 2 "_law_harms" ["_law_d", "_law_size"] sp_lharms) (h__law_cells : Has P w K mg base 1 "_law_cells" ["_law_harms_here"] sp_lcells)
    (h__law_bits : Has P w K mg base 1 "_law_bits" ["_law_number", "_law_many"] sp_lbits) (h__law_spared : Has P w K mg base 1 "_law_spared" ["_law_d", "_law_cells_here", "_law_rows", "_law_lines"] sp_lspared) (h__law_held : Has P w K mg base 3 "_law_held" ["_law_one", "_law_memory", "_law_spare"] (sp_lheld C N)) (h__law_done : Has P w K mg base 8 "_law_done" ["_law_one", "_law_memory", "_law_spare", "_law_address", "_law_deed"] (sp_ldone C N))
    (hi_Memory : HasI P w K mg base C 9 "Memory" ["self", "size", "harms", "contents"] (sp_m_init C)) (hi_Mended : HasI P w K mg base N 11 "Mended" ["self", "rows", "lines", "harms", "contents", "spare_rows", "spare_lines"] (sp_n_init C N)) (hn_holds : HasM P w K mg base N 2 "holds" ["self"] (sp_n_holds C N)) (hn_size : HasM P w K mg base N 2 "size" ["self"] (sp_n_size C N))
    (F : FnAt K mg "_law_right" s__law_right ["_law_cells_here", "_law_turn"]) : Has P w K mg base 13 "_law_right" ["_law_cells_here", "_law_turn"] sp_lright := by
  refine Has.ofQ F sc__law_right (fun vs H Q E h => ?_) (fun f cdv A outer s H vs Q E hr h => ?_)
  · obtain ⟨A, a, b, c, t, rfl, _⟩ := h
    rfl
  · obtain ⟨A, a, b, c, t, rfl, hA, t0, t1, k⟩ := h
    have sc := sc__law_right
    refine ⟨_, (qss_litQ rfl (qss_cons (qs_setE (i := 2) sc.nd rfl (Or.inl rfl) (qe_callH h__law_digits hr (qa_sb (qe_ix ix_list (qe_of (pv 0)) (qe_of pe_int) (fun _ _ => rfl)) (qa_nm (qe_of (pv 1)) (qa_bo (qe_op op_cat (qe_op op_cat (qe_lst (qa_cs (qe_of pe_int) (qa_cs (qe_of pe_int) (qa_cs (qe_of pe_int) (qa_cs (qe_of pe_int) (qa_cs (qe_of pe_int) (qa_cs (qe_of pe_int) (qa_cs (qe_of pe_int) qa_nil)))))))) (qe_lst (qa_cs (qe_of pe_int) qa_nil))) (qe_op op_rep (qe_lst (qa_cs (qe_of pe_int) (qa_cs (qe_of pe_int) (qa_cs (qe_of pe_int) (qa_cs (qe_of pe_int) (qa_cs (qe_of pe_int) qa_nil)))))) (qe_of pe_int))) qa_nil)))))
      (qss_cons (qs_setE (i := 3) sc.nd rfl (Or.inl rfl) (qe_op op_add (qe_of pe_int) (qe_ix ix_list (qe_of (pv 2)) (qe_of pe_int) (fun _ _ => rfl))))
      (qss_cons (qs_setE (i := 4) sc.nd rfl (Or.inl rfl) (qe_op op_add (qe_of pe_int) (qe_ix ix_list (qe_of (pv 2)) (qe_of pe_int) (fun _ _ => rfl))))
      (qss_cons (qs_setE (i := 5) sc.nd rfl (Or.inl rfl) (qe_callH h__law_harms hr (qa_sb (qe_sl sl_list (qe_of (pv 2)) (po_some pe_int) po_none) (qa_bo (qe_op op_mul (qe_of (pv 3)) (qe_of (pv 4))) qa_nil))))
      (qss_cons (qs_setE (i := 6) sc.nd rfl (Or.inl rfl) (qe_callH h__law_cells hr (qa_nm (qe_of (pv 5)) qa_nil)))
      (qss_cons (qs_setE (i := 7) sc.nd rfl (Or.inl rfl) (qe_callH h__law_spared hr (qa_sb (qe_sl sl_list (qe_of (pv 2)) (po_some pe_int) (po_some pe_int)) (qa_nm (qe_of (pv 6)) (qa_nm (qe_of (pv 3)) (qa_nm (qe_of (pv 4)) qa_nil))))))
      (qss_cons (qs_setE (i := 8) sc.nd rfl (Or.inl rfl) (qe_callH h__law_bits hr (qa_sb (qe_ix ix_seq (qe_callH h__law_digits hr (qa_sb (qe_ix ix_list (qe_of (pv 0)) (qe_of pe_int) (fun _ _ => rfl)) (qa_cs (qe_of pe_int) (qa_ls (qe_lst (qa_bo (qe_op op_pow (qe_of pe_int) (qe_of pe_int)) qa_nil)) qa_nil)))) (qe_of pe_int) (fun _ _ => rfl)) (qa_bo (qe_op op_mul (qe_of (pv 3)) (qe_of (pv 4))) qa_nil))))
      (qss_cons (qs_setE (i := 9) sc.nd rfl (Or.inl rfl) (qe_makeH hi_Mended hr (qa_nm (qe_of (pv 3)) (qa_nm (qe_of (pv 4)) (qa_nm (qe_of (pv 5)) (qa_nm (qe_of (pv 8)) (qa_sb (qe_ix ix_list (qe_of (pv 7)) (qe_of pe_int) (fun _ _ => rfl)) (qa_sb (qe_ix ix_list (qe_of (pv 7)) (qe_of pe_int) (fun _ _ => rfl)) qa_nil))))))))
      (qss_cons (qs_setE (i := 10) sc.nd rfl (Or.inl rfl) (qe_makeH hi_Memory hr (qa_bo (qe_op op_mul (qe_of (pv 3)) (qe_of (pv 4))) (qa_nm (qe_of (pv 5)) (qa_cl (qe_callTy call_list_of rfl (B.of rfl) boot_list (qa_nm (qe_of (pv 8)) qa_nil)) qa_nil)))))
      (qss_cons (qs_setE (i := 11) sc.nd rfl (Or.inl rfl) (qe_makeH hi_Mended hr (qa_nm (qe_of (pv 3)) (qa_nm (qe_of (pv 4)) (qa_cl (qe_callTy call_list_of rfl (B.of rfl) boot_list (qa_nm (qe_of (pv 5)) qa_nil)) (qa_cl (qe_callTy call_list_of rfl (B.of rfl) boot_list (qa_nm (qe_of (pv 8)) qa_nil)) (qa_cl (qe_callTy call_list_of rfl (B.of rfl) boot_list (qa_sb (qe_ix ix_list (qe_of (pv 7)) (qe_of pe_int) (fun _ _ => rfl)) qa_nil)) (qa_cl (qe_callTy call_list_of rfl (B.of rfl) boot_list (qa_sb (qe_ix ix_list (qe_of (pv 7)) (qe_of pe_int) (fun _ _ => rfl)) qa_nil)) qa_nil))))))))
      (qss_cons (qs_setE (i := 12) sc.nd rfl (Or.inl rfl) (qe_of pe_dnewK))
      (qss_cons (qs_for PassesOwn.never rfl (qi_of (pi_range1 rfl (B.of rfl) (pa_cons (pe_op op_mul (pv 3) (pv 4)) pa_nil))) (pg_name (i := 13) sc.nd rfl (Or.inl rfl))
        (qss_one (qs_ifT (QW.pt (qw_or (qt_cmpR op_in_seq (qe_op op_fdiv (qe_of (pv 13)) (qe_of (pv 4))) (qe_ix ix_list (qe_of (pv 7)) (qe_of pe_int) (fun _ _ => rfl)) (by with_unfolding_all rfl)) (qw_or1 (qt_cmpR op_in_seq (qe_op op_mod (qe_of (pv 13)) (qe_of (pv 4))) (qe_ix ix_list (qe_of (pv 7)) (qe_of pe_int) (fun _ _ => rfl)) (by with_unfolding_all rfl)))))
          (qss_one (qs_of (ps_dput (hu_of hr) (QE.of (qe_of (pv 12))) (QE.of (qe_of (pv 13))) (QE.of (qe_ix ix_list (qe_of (pv 8)) (qe_of (pv 13)) (fun _ _ => rfl))) rfl)))
          qss_nil)))
      (qss_cons (qs_setE (i := 14) sc.nd rfl (Or.inl rfl) (qe_lst (qa_cl (qe_methH0 cn.c hn_holds hr (qe_of (pv 11))) (qa_cl (qe_of (pe_callTy call_dictCopy rfl (B.of rfl) boot_dictT (pa_cons (pv 12) pa_nil))) qa_nil))))
      (qss_cons (qs_expr (qe_bm PySem.F.plainAttrs_list PySem.F.slot_list_append PySem.F.type_list_append mt_append (qe_of (pv 5)) (qa_tp (qe_tup (qa_cs (qe_of pe_str) (qa_cs (qe_of pe_int) (qa_cs (qe_of pe_int) qa_nil)))) qa_nil)))
      (qss_cons (qs_asg (qe_op op_sub (qe_of pe_int) (qe_ix ix_list (qe_of (pv 8)) (qe_of pe_int) (fun _ _ => rfl))) (pg_sub (pv 8) pe_int set_list))
      (qss_cons (qs_expr (qe_of (pe_bm0 PySem.F.plainAttrs_list PySem.F.slot_list_reverse PySem.F.type_list_reverse mt_reverse (pv 8))))
      (qss_cons (qs_expr (qe_bm PySem.F.plainAttrs_list PySem.F.slot_list_extend PySem.F.type_list_extend mt_extend (qe_ix ix_list (qe_of (pv 7)) (qe_of pe_int) (fun _ _ => rfl)) (qa_cl (qe_of (pe_listRange hr.hd rfl (B.of rfl) rfl (B.of rfl) (pa_cons (pv 3) pa_nil))) qa_nil)))
      (qss_cons (qs_expr (qe_of (pe_bm0 PySem.F.plainAttrs_list PySem.F.slot_list_clear PySem.F.type_list_clear mt_clear (pe_ix ix_list (pv 7) pe_int (fun _ _ => rfl)))))
      (qss_cons (qs_setE (i := 15) sc.nd rfl (Or.inl rfl) (qe_callH h__law_digits hr (qa_sb (qe_ix ix_list (qe_of (pv 0)) (qe_of pe_int) (fun _ _ => rfl)) (qa_bo (qe_op op_add (qe_of (pv 1)) (qe_of pe_int)) (qa_bo (qe_op op_rep (qe_lst (qa_cs (qe_of pe_int) (qa_cs (qe_of pe_int) (qa_cs (qe_of pe_int) qa_nil)))) (qe_of pe_int)) qa_nil)))))
      (qss_cons (qs_for PassesOwn.never rfl (qi_of (pi_range1 rfl (B.of rfl) (pa_cons pe_int pa_nil))) (pg_name (i := 16) sc.nd rfl (Or.inl rfl))
        (qss_cons (qs_setE (i := 13) sc.nd rfl (Or.inl rfl) (qe_op op_mod (qe_ix ix_list (qe_of (pv 15)) (qe_op op_add (qe_op op_mul (qe_of pe_int) (qe_of (pv 16))) (qe_of pe_int)) (fun _ _ => rfl)) (qe_op op_mul (qe_of (pv 3)) (qe_of (pv 4)))))
        (qss_cut (qs_ifT (QW.pt (qw_and (qt_cmpR op_gt (qe_ix ix_list (qe_of (pv 15)) (qe_op op_mul (qe_of pe_int) (qe_of (pv 16))) (fun _ _ => rfl)) (qe_of pe_int) (nomark _)) (qw_and1 (qt_cmpR (op_neD hr) (qe_of (pv 6)) (qe_lst qa_nil) (nomark _)))))
          (qss_cons (qs_setE (i := 17) sc.nd rfl (Or.inl rfl) (qe_op op_add (qe_ix ix_list (qe_of (pv 6)) (qe_op op_mod (qe_ix ix_list (qe_of (pv 15)) (qe_op op_add (qe_op op_mul (qe_of pe_int) (qe_of (pv 16))) (qe_of pe_int)) (fun _ _ => rfl)) (qe_callB call_len_seq rfl (B.of rfl) boot_len (qa_nm (qe_of (pv 6)) qa_nil))) (fun _ _ => rfl)) (qe_op op_fdiv (qe_ix ix_list (qe_of (pv 15)) (qe_op op_mul (qe_of pe_int) (qe_of (pv 16))) (fun _ _ => rfl)) (qe_of pe_int))))
          (qss_one (qs_setE (i := 13) sc.nd rfl (Or.inl rfl) (qe_op op_mod (qe_of (pv 17)) (qe_op op_mul (qe_of (pv 3)) (qe_of (pv 4)))))))
          qss_nil)
        (qss_cons (qs_setE (i := 18) sc.nd rfl (Or.inl rfl) (qe_methH0 cn.c hn_holds hr (qe_of (pv 9))))
        (qss_cons (qs_setE (i := 19) sc.nd rfl (Or.inl rfl) (qe_callB (call_reprXL hr) rfl (B.of rfl) boot_repr (qa_nm (qe_of (pv 18)) qa_nil)))
        (qss_cons (qs_ifT (qt_not (qt_valC (qe_callH h__law_done hr (qa_nm (qe_of (pv 9)) (qa_nm (qe_of (pv 10)) (qa_nm (qe_of (pv 12)) (qa_nm (qe_of (pv 13)) (qa_sb (qe_ix ix_list (qe_of (pv 15)) (qe_op op_add (qe_op op_mul (qe_of pe_int) (qe_of (pv 16))) (qe_of pe_int)) (fun _ _ => rfl)) qa_nil))))))))
          (qss_one (qs_retE (qe_of pe_bl)))
          qss_nil)
        (qss_one (qs_ifT (QW.pt (qw_or (qt_not (qt_valC (qe_callH h__law_held hr (qa_nm (qe_of (pv 9)) (qa_nm (qe_of (pv 10)) (qa_nm (qe_of (pv 12)) qa_nil)))))) (qw_or1 (qt_cmpR op_ne (qe_callB (call_reprXL hr) rfl (B.of rfl) boot_repr (qa_nm (qe_of (pv 18)) qa_nil)) (qe_of (pv 19)) (nomark _)))))
          (qss_one (qs_retE (qe_of pe_bl)))
          qss_nil))))))))
      (qss_one (qs_retE (qe_of (pe_and (pe_cmpR op_eq (QE.of (qe_methH0 cn.c hn_size hr (qe_of (pv 9)))) (pe_op op_mul (pv 3) (pv 4)) (nomark _)) (pe_and (pe_cmpR (op_eqD hr) (QE.of (qe_methH0 cn.c hn_holds hr (qe_of (pv 11)))) (pe_ix ix_list (pv 14) pe_int (fun _ _ => rfl)) (nomark _)) (pe_one (pe_cmpR op_eq (QE.of (qe_methH0 cn.c hn_size hr (qe_of (pv 11)))) (pe_op op_mul (pv 3) (pv 4)) (nomark _))))))))))))))))))))))))))))), ?_⟩
    have z1 : 1 ≤ sizeLine := by decide
    have z2 : 2 ≤ sizeLine := by decide
    have z3 : 3 ≤ sizeLine := by decide
    have z5 : 5 ≤ sizeLine := by decide
    have z7 : 7 ≤ sizeLine := by decide
    -- the digits
    refine ⟨_, rfl, A, _, _, _, rfl, rfl, SqL.of hA, atI_lit 0 rfl, _, rfl, z7, fun p1 v1 => ?_⟩
    generalize hK1 : upd H p1 _ = K1
    have t1' : Same H K1 := by rw [← hK1]; exact (Same.refl H).upd v1
    have u1 : K1 p1 = some (.lst (([8, 8, 3, 8, 8, 8, 3] : List Int).map V.int)) := by rw [← hK1]; exact upd_same
    clear hK1
    refine ⟨z1, fun p2 v2 => ?_⟩
    generalize hK2 : upd K1 p2 _ = K2
    have t2 : Same K1 K2 := by rw [← hK2]; exact (Same.refl K1).upd v2
    have u2 : K2 p2 = some (.lst (([4] : List Int).map V.int)) := by rw [← hK2]; exact upd_same
    clear hK2
    refine ⟨p1, p2, _, _, rfl, rfl, t2 _ _ u1, u2, sl_le (by simp), fun p3 v3 => ?_⟩
    generalize hK3 : upd K2 p3 _ = K3
    have t3 : Same K2 K3 := by rw [← hK3]; exact (Same.refl K2).upd v3
    have u3 : K3 p3 = some (.lst (([8, 8, 3, 8, 8, 8, 3, 4] : List Int).map V.int)) := by rw [← hK3]; exact upd_same
    clear hK3
    refine ⟨z5, fun p4 v4 => ?_⟩
    generalize hK4 : upd K3 p4 _ = K4
    have t4 : Same K3 K4 := by rw [← hK4]; exact (Same.refl K3).upd v4
    have u4 : K4 p4 = some (.lst [.int 20, .int 64, .int 64, .int 2, .int 2]) := by rw [← hK4]; exact upd_same
    clear hK4
    refine ⟨p4, 3, _, rfl, rfl, u4, by decide, by decide, sl_le (by decide), fun p5 v5 => ?_⟩
    generalize hK5 : upd K4 p5 _ = K5
    have t5 : Same K4 K5 := by rw [← hK5]; exact (Same.refl K4).upd v5
    have u5 : K5 p5 = some (.lst (([20, 64, 64, 2, 2, 20, 64, 64, 2, 2, 20, 64, 64, 2, 2] : List Int).map V.int)) := by rw [← hK5]; exact upd_same
    clear hK5
    refine ⟨p3, p5, _, _, rfl, rfl, (t4.trans t5) _ _ u3, u5, sl_le (by simp), fun p6 v6 => ?_⟩
    generalize hK6 : upd K5 p6 _ = K6
    have t6 : Same K5 K6 := by rw [← hK6]; exact (Same.refl K5).upd v6
    have u6 : K6 p6 = some (.lst (dgR.map V.int)) := by rw [← hK6]; exact upd_same
    clear hK6
    have s6 : Same H K6 := ((t1'.trans t2).trans (t3.trans t4)).trans (t5.trans t6)
    refine ⟨a, t, p6, dgR, rfl, u6, by decide, by decide, by omega, by omega, fun dp ds H1 s1 ndp hdp hD => ?_⟩
    have sH1 := s6.trans s1
    clear u1 u2 u3 u4 u5 u6
    obtain ⟨e0, g0, b0, b0'⟩ := hD.get (i := 0) (z := 8) rfl
    obtain ⟨e1, g1, b1, b1'⟩ := hD.get (i := 1) (z := 8) rfl
    obtain ⟨e2, g2, b2, b2'⟩ := hD.get (i := 2) (z := 3) rfl
    obtain ⟨e3, g3, b3, b3'⟩ := hD.get (i := 3) (z := 8) rfl
    obtain ⟨e4, g4, b4, b4'⟩ := hD.get (i := 4) (z := 8) rfl
    obtain ⟨e5, g5, b5, b5'⟩ := hD.get (i := 5) (z := 8) rfl
    obtain ⟨e6, g6, b6, b6'⟩ := hD.get (i := 6) (z := 3) rfl
    have dl : ds.length = 23 := hD.1
    have hD16 : Dig (ds.drop 7) dg16 := dig_drop (a := [8, 8, 3, 8, 8, 8, 3]) (b := dg16) hD
    refine ⟨_, rfl, dp, _, _, _, rfl, rfl, SqL.of hdp, atI_lit 0 (get_int g0), _, _, rfl, rfl, ?_⟩
    obtain ⟨r, hr0, r1, r8⟩ : ∃ r, 1 + e0 = r ∧ 1 ≤ r ∧ r ≤ 8 := ⟨_, rfl, by omega, by omega⟩
    show gName 3 (V.int (1 + e0)) _ _ _
    rw [hr0]
    refine gn ?_
    dsimp only
    refine ⟨_, rfl, dp, _, _, _, rfl, rfl, SqL.of hdp, atI_lit 1 (get_int g1), _, _, rfl, rfl, ?_⟩
    obtain ⟨l, hl0, l1, l8⟩ : ∃ l, 1 + e1 = l ∧ 1 ≤ l ∧ l ≤ 8 := ⟨_, rfl, by omega, by omega⟩
    show gName 4 (V.int (1 + e1)) _ _ _
    rw [hl0]
    refine gn ?_
    dsimp only
    have crl := cmul8 (r := r) (l := l) (by omega) r8 (by omega) l8
    obtain ⟨n, hn, n1, n64⟩ : ∃ n : Nat, r * l = (n : Int) ∧ 1 ≤ n ∧ n ≤ 64 := by
      have h1 : r * l ≤ 8 * 8 := Int.mul_le_mul r8 l8 (by omega) (by omega)
      have h2 : 1 * 1 ≤ r * l := Int.mul_le_mul r1 l1 (by omega) (by omega)
      exact ⟨(r * l).toNat, by omega, by omega, by omega⟩
    -- the harms
    refine ⟨_, rfl, 7, rfl, dp, _, rfl, SqL.of hdp, fun q1 w1 => ?_⟩
    rw [show (7 : Int) = ((7 : Nat) : Int) from rfl, cut_drop, ← List.map_drop]
    generalize hG2 : upd H1 q1 _ = H2
    have s2 : Same H1 H2 := by rw [← hG2]; exact (Same.refl H1).upd w1
    have f2 : H2 q1 = some (.lst ((ds.drop 7).map V.int)) := by rw [← hG2]; exact upd_same
    clear hG2
    refine ⟨_, rfl, _, rfl, _, _, rfl, rfl, crl, q1, _, (n : Int), ?_, f2, hD16, by omega, by omega, fun L us hs S H3 s3 nL hL hv ok hgood => ?_⟩
    · show [V.ref q1, V.int (r * l)] = _
      rw [hn]
    have sH3 := (sH1.trans s2).trans s3
    have hdp3 := (s2.trans s3) _ _ hdp
    have ir : InR hs n := fun h hh c hc => (hgood h hh).2 c hc
    -- their cells
    refine ⟨_, rfl, L, us, hs, rfl, hL, hv, ok.ok, by have := ok.len; omega, fun O own H4 s4 nO eO hpm hso => ?_⟩
    have ownr : ∀ x ∈ own, 0 ≤ x ∧ x < r * l := fun x hx => by
      obtain ⟨h, hh, hc⟩ := List.mem_flatMap.mp ((uniq_mem _ x).mp (hpm.mem_iff.mp hx))
      rw [hn]
      exact ir h hh x hc
    have own8 : own.length ≤ 8 := by
      rw [hpm.length_eq]
      have := ok.few (l := hs) fun h hh => hh
      omega
    -- the spares
    refine ⟨_, rfl, 2, rfl, 7, rfl, dp, _, rfl, SqL.of (s4 _ _ hdp3), fun q2 w2 => ?_⟩
    have ecut : cutV (ds.map V.int) (some 2) (some 7) = [V.int e2, .int e3, .int e4, .int e5, .int e6] := by
      rw [show (2 : Int) = ((2 : Nat) : Int) from rfl, show (7 : Int) = ((7 : Nat) : Int) from rfl, cut_mid, List.length_map, dl, show min 7 23 - min 2 23 = 5 by omega, show min 2 23 = 2 by omega, ← List.map_drop, ← List.map_take, take5 (by omega)]
      simp only [List.getD_eq_getElem?_getD, g2, g3, g4, g5, g6, Option.getD_some, List.map_cons, List.map_nil]
    rw [ecut]
    generalize hG5 : upd H4 q2 _ = H5
    have s5 : Same H4 H5 := by rw [← hG5]; exact (Same.refl H4).upd w2
    have f5 : H5 q2 = some (.lst [V.int e2, .int e3, .int e4, .int e5, .int e6]) := by rw [← hG5]; exact upd_same
    clear hG5 ecut
    refine ⟨_, rfl, _, rfl, _, rfl, q2, O, e2, e3, e4, e5, e6, r, l, own, rfl, f5, s5 _ _ eO, b3, b5, r1, r8, l1, l8, own8, ownr, fun qo R M ns ms H6 s6' eqo nqo nR nM nRM eR eM prR prM => ?_⟩
    have s36 := (s4.trans s5).trans s6'
    have sH6 := sH3.trans s36
    -- the contents
    refine ⟨_, rfl, A, _, _, _, rfl, rfl, SqL.of (sH6 _ _ hA), atI_lit 1 rfl, _, _, rfl, rfl, ⟨by decide, by decide, by decide⟩, z1, fun p7 v7 => ?_⟩
    generalize hG7 : upd H6 p7 _ = H7
    have s7 : Same H6 H7 := by rw [← hG7]; exact (Same.refl H6).upd v7
    have f7 : H7 p7 = some (.lst (([18446744073709551616] : List Int).map V.int)) := by
      rw [← hG7]
      refine upd_same.trans ?_
      rw [show (fun i j : Int => V.int (i ^ j.toNat)) 2 64 = V.int 18446744073709551616 by decide]
      rfl
    clear hG7
    refine ⟨b, 7, p7, [18446744073709551616], rfl, f7, by decide, by decide, by decide, by decide, fun dp2 ds2 H8 s8 ndp2 hdp2 hD2 => ?_⟩
    obtain ⟨x0, gx, _, _⟩ := hD2.get (i := 0) (z := 18446744073709551616) rfl
    refine .inl ⟨dp2, _, _, _, rfl, rfl, SqL.of hdp2, atI_lit 0 (get_int gx), ?_⟩
    refine ⟨_, rfl, _, rfl, _, _, rfl, rfl, crl, x0, n, ?_, n64, fun pc cs H9 s9 npc epc hb hcl => ?_⟩
    · show [V.int x0, V.int (r * l)] = _
      rw [hn]
    subst hcl
    have s69 := (s7.trans s8).trans s9
    have sH9 := sH6.trans s69
    have hL9 := (s36.trans s69) _ _ hL
    have hv9 := hv.same (s36.trans s69)
    have eqo9 := s69 _ _ eqo
    have eR9 := s69 _ _ eR
    have eM9 := s69 _ _ eM
    -- one
    refine ⟨_, rfl, _, rfl, _, rfl, _, rfl, _, rfl, qo, _, _, _, rfl, rfl, SqL.of eqo9, atI_lit 0 rfl, _, rfl, qo, _, _, _, rfl, rfl, SqL.of eqo9, atI_lit 1 rfl, ?_⟩
    intro x dx nx ndx nxd
    generalize hGx : upd (upd H9 dx (.own x)) x (.ins N dx []) = X9
    have sx : Same H9 X9 := by rw [← hGx]; exact ((Same.refl H9).upd (o := .own x) ndx).upd (o := .ins N dx []) (p := x) (by rw [upd_ne (fun z => nxd z.symm)]; exact nx)
    have fx : X9 x = some (.ins N dx []) := by rw [← hGx]; exact upd_same
    clear hGx
    refine ⟨x, dx, L, pc, R, M, r, l, us, hs, S, cs, ns, ms, rfl, fx, r1, r8, l1, l8, hn, sx _ _ hL9, hv9.same sx, ok, ir, sx _ _ epc, hb, sx _ _ eR9, prR, sx _ _ eM9, prM, fun m1 a1 C1 d1 kv1 H11 st11 nm1 na1 nC1 nd1 mo1 sd1 kl1 => ⟨rfl, ?_⟩⟩
    have s11 : Same H9 H11 := fun b u e => st11 b u (fun z => by subst z; rw [nx] at e; cases e) (sx _ _ e)
    clear st11
    -- the memory beside
    refine ⟨_, rfl, _, rfl, _, _, rfl, rfl, crl, _, rfl, _, rfl, pc, _, rfl, .inl (SqL.of (s11 _ _ epc)), fun pc2 w12 => ?_⟩
    generalize hG12 : upd H11 pc2 _ = H12
    have s12 : Same H11 H12 := by rw [← hG12]; exact (Same.refl H11).upd w12
    have f12 : H12 pc2 = some (.lst (cs.map V.int)) := by rw [← hG12]; exact upd_same
    clear hG12
    intro y dy ny ndy nyd
    generalize hGy : upd (upd H12 dy (.own y)) y (.ins C dy []) = Y12
    have sy : Same H12 Y12 := by rw [← hGy]; exact ((Same.refl H12).upd (o := .own y) ndy).upd (o := .ins C dy []) (p := y) (by rw [upd_ne (fun z => nyd z.symm)]; exact ny)
    have fy : Y12 y = some (.ins C dy []) := by rw [← hGy]; exact upd_same
    clear hGy
    have s9y := (s11.trans s12).trans sy
    refine ⟨y, dy, L, pc2, us, hs, S, cs, ?_, fy, s9y _ _ hL9, hv9.same s9y, ok, ir, sy _ _ f12, hb, n1, n64, fun a2 C2 H13 st13 na2 nC2 mm2 => ⟨rfl, ?_⟩⟩
    · show [V.ref y, V.int (r * l), V.ref L, V.ref pc2] = _
      rw [hn]
    have s13 : Same H12 H13 := fun b u e => st13 b u (fun z => by subst z; rw [ny] at e; cases e) (sy _ _ e)
    clear st13
    have s11_13 := s12.trans s13
    -- one more, beside
    refine ⟨_, rfl, _, rfl, _, rfl, L, _, rfl, .inl (SqL.of ((s11.trans s11_13) _ _ hL9)), fun b1 w1' => ?_⟩
    generalize hG14 : upd H13 b1 _ = H14
    have s14 : Same H13 H14 := by rw [← hG14]; exact (Same.refl H13).upd w1'
    have f14 : H14 b1 = some (.lst us) := by rw [← hG14]; exact upd_same
    clear hG14
    have s9_14 := (s11.trans s11_13).trans s14
    refine ⟨_, rfl, pc, _, rfl, .inl (SqL.of (s9_14 _ _ epc)), fun b2 w2' => ?_⟩
    generalize hG15 : upd H14 b2 _ = H15
    have s15 : Same H14 H15 := by rw [← hG15]; exact (Same.refl H14).upd w2'
    have f15 : H15 b2 = some (.lst (cs.map V.int)) := by rw [← hG15]; exact upd_same
    clear hG15
    have s9_15 := s9_14.trans s15
    refine ⟨_, rfl, qo, _, _, _, rfl, rfl, SqL.of (s9_15 _ _ eqo9), atI_lit 0 rfl, R, _, rfl, .inl (SqL.of (s9_15 _ _ eR9)), fun b3' w3' => ?_⟩
    generalize hG16 : upd H15 b3' _ = H16
    have s16 : Same H15 H16 := by rw [← hG16]; exact (Same.refl H15).upd w3'
    have f16 : H16 b3' = some (.lst (ns.map V.int)) := by rw [← hG16]; exact upd_same
    clear hG16
    have s9_16 := s9_15.trans s16
    refine ⟨_, rfl, qo, _, _, _, rfl, rfl, SqL.of (s9_16 _ _ eqo9), atI_lit 1 rfl, M, _, rfl, .inl (SqL.of (s9_16 _ _ eM9)), fun b4' w4' => ?_⟩
    generalize hG17 : upd H16 b4' _ = H17
    have s17 : Same H16 H17 := by rw [← hG17]; exact (Same.refl H16).upd w4'
    have f17 : H17 b4' = some (.lst (ms.map V.int)) := by rw [← hG17]; exact upd_same
    clear hG17
    have s9_17 := s9_16.trans s17
    intro z dz nz ndz nzd
    generalize hGz : upd (upd H17 dz (.own z)) z (.ins N dz []) = Z17
    have sz : Same H17 Z17 := by rw [← hGz]; exact ((Same.refl H17).upd (o := .own z) ndz).upd (o := .ins N dz []) (p := z) (by rw [upd_ne (fun q => nzd q.symm)]; exact nz)
    have fz : Z17 z = some (.ins N dz []) := by rw [← hGz]; exact upd_same
    clear hGz
    have s14z : Same H14 Z17 := ((s15.trans s16).trans s17).trans sz
    refine ⟨z, dz, b1, b2, b3', b4', r, l, us, hs, S, cs, ns, ms, rfl, fz, r1, r8, l1, l8, hn, s14z _ _ f14, hv9.same (s9_17.trans sz), ok, ir, ((s16.trans s17).trans sz) _ _ f15, hb, (s17.trans sz) _ _ f16, prR, sz _ _ f17, prM, fun m3 a3 C3 d3 kv3 H18 st18 nm3 na3 nC3 nd3 mo3 sd3 kl3 => ⟨rfl, ?_⟩⟩
    have s18 : Same H17 H18 := fun b u e => st18 b u (fun q => by subst q; rw [nz] at e; cases e) (sz _ _ e)
    clear st18
    have s9_18 := s9_17.trans s18
    have s13_18 := ((s14.trans s15).trans (s16.trans s17)).trans s18
    have mo1' := mo1.same (s11_13.trans s13_18)
    have mm2' := mm2.same s13_18
    -- what is spare
    refine gn ?_
    dsimp only
    intro d2 nd2
    generalize hG19 : upd H18 d2 _ = H19
    have s19 : Same H18 H19 := by rw [← hG19]; exact (Same.refl H18).upd nd2
    have f19 : H19 d2 = some (.dK []) := by rw [← hG19]; exact upd_same
    clear hG19
    have s9_19 := s9_18.trans s19
    have ndd : d1 ≠ d2 := fun q => by subst q; rw [mo1'.d] at nd2; cases nd2
    have ndd3 : d3 ≠ d2 := fun q => by subst q; rw [mo3.d] at nd2; cases nd2
    refine gn ?_
    dsimp only
    have eR19 := s9_19 _ _ eR9
    have eM19 := s9_19 _ _ eM9
    have eqo19 := s9_19 _ _ eqo9
    have epc19 := s9_19 _ _ epc
    have ne2 : ∀ {b : Addr} {xs : List V}, H19 b = some (.lst xs) → b ≠ d2 := fun {b xs} e q => by subst q; rw [f19] at e; cases e
    refine ⟨_, rfl, _, rfl, _, _, rfl, rfl, crl, cs.length, (by show [V.int (r * l)] = _; rw [hn]), by omega, by omega, for_range (n := cs.length) (fun i σ H' => ∃ q13 : Option V, σ = [some (.ref A), some (.int t), some (.ref dp), some (.int r), some (.int l), some (.ref L), some (.ref O), some (.ref qo), some (.ref pc), some (.ref x), some (.ref y), some (.ref z), some (.ref d2), q13, none, none, none, none, none, none] ∧ (∀ b u, b ≠ d2 → H19 b = some u → H' b = some u) ∧ H' d2 = some (.dK (spk (spF ns ms l) cs i))) ⟨_, rfl, fun b u _ e => e, f19⟩ ?_ ?_⟩
    · rintro i σ H20 hi ⟨q13, rfl, st20, hd20⟩
      show gName 13 (V.int ((0 : Int) + (i : Int))) _ _ _
      rw [Int.zero_add]
      refine gn ?_
      dsimp only
      obtain ⟨c', hc'⟩ : ∃ c', cs[i]? = some c' := ⟨_, List.getElem?_eq_getElem hi⟩
      have hcd : cs.getD i 0 = c' := by rw [List.getD_eq_getElem?_getD, hc']; rfl
      have put9 : ∃ q13 : Option V, [some (V.ref A), some (.int t), some (.ref dp), some (.int r), some (.int l), some (.ref L), some (.ref O), some (.ref qo), some (.ref pc), some (.ref x), some (.ref y), some (.ref z), some (.ref d2), some (.int i), none, none, none, none, none, none] = [some (.ref A), some (.int t), some (.ref dp), some (.int r), some (.int l), some (.ref L), some (.ref O), some (.ref qo), some (.ref pc), some (.ref x), some (.ref y), some (.ref z), some (.ref d2), q13, none, none, none, none, none, none] ∧ (∀ b u, b ≠ d2 → H19 b = some u → upd H20 d2 (.dK (putK (spk (spF ns ms l) cs i) (.inl (i : Int)) (.int c'))) b = some u) ∧ upd H20 d2 (.dK (putK (spk (spF ns ms l) cs i) (.inl (i : Int)) (.int c'))) d2 = some (.dK (putK (spk (spF ns ms l) cs i) (.inl (i : Int)) (.int c'))) := ⟨_, rfl, fun b u h e => by rw [upd_ne h]; exact st20 b u h e, upd_same⟩
      have dput : ∀ {D : Ends}, (D.nx [some (V.ref A), some (.int t), some (.ref dp), some (.int r), some (.int l), some (.ref L), some (.ref O), some (.ref qo), some (.ref pc), some (.ref x), some (.ref y), some (.ref z), some (.ref d2), some (.int i), none, none, none, none, none, none] (upd H20 d2 (.dK (putK (spk (spF ns ms l) cs i) (.inl (i : Int)) (.int c'))))) → sDPut (tVar 12) (tVar 13) (tOp (rIxL K) (tVar 8) (tVar 13)) D [some (V.ref A), some (.int t), some (.ref dp), some (.int r), some (.int l), some (.ref L), some (.ref O), some (.ref qo), some (.ref pc), some (.ref x), some (.ref y), some (.ref z), some (.ref d2), some (.int i), none, none, none, none, none, none] H20 := fun {D} h =>
        ⟨_, rfl, _, rfl, pc, _, _, _, rfl, rfl, SqL.of (st20 _ _ (ne2 epc19) epc19), atI_nat (get_int hc'), _, rfl, _, rfl, d2, _, rfl, DPut.k (k := .inl (i : Int)) hd20 (sl_lt (by have := spk_len (spF ns ms l) cs i; omega)), h⟩
      refine ⟨_, rfl, _, rfl, _, _, rfl, rfl, ⟨by omega, by omega⟩, _, rfl, qo, _, _, _, rfl, rfl, SqL.of (st20 _ _ (ne2 eqo19) eqo19), atI_lit 0 rfl, R, _, rfl, .inl (SqL.of (st20 _ _ (ne2 eR19) eR19)), rfl, by simp [flatV], _, rfl, ?_⟩
      by_cases h1 : (i : Int) / l ∈ ns
      · refine iteB (by show inV (.int ((i : Int) / l)) _ = true; rw [int_mem]; exact decide_eq_true h1) ?_
        refine iteB rfl ?_
        refine dput ?_
        have : spk (spF ns ms l) cs (i + 1) = putK (spk (spF ns ms l) cs i) (.inl (i : Int)) (.int c') := by
          show (if spF ns ms l i = true then _ else _) = _
          rw [if_pos (show spF ns ms l i = true from decide_eq_true (Or.inl h1)), hcd]
        show ∃ q13 : Option V, _
        rw [this]
        exact put9
      · refine iteN (by show inV (.int ((i : Int) / l)) _ = false; rw [int_mem]; exact decide_eq_false h1) ?_
        refine ⟨_, rfl, _, rfl, _, _, rfl, rfl, (by show (0 : Int) < l; omega), _, rfl, qo, _, _, _, rfl, rfl, SqL.of (st20 _ _ (ne2 eqo19) eqo19), atI_lit 1 rfl, M, _, rfl, .inl (SqL.of (st20 _ _ (ne2 eM19) eM19)), rfl, by simp [flatV], _, rfl, ?_⟩
        by_cases h2 : (i : Int) % l ∈ ms
        · refine iteB (by show inV (.int ((i : Int) % l)) _ = true; rw [int_mem]; exact decide_eq_true h2) ?_
          refine dput ?_
          have : spk (spF ns ms l) cs (i + 1) = putK (spk (spF ns ms l) cs i) (.inl (i : Int)) (.int c') := by
            show (if spF ns ms l i = true then _ else _) = _
            rw [if_pos (show spF ns ms l i = true from decide_eq_true (Or.inr h2)), hcd]
          show ∃ q13 : Option V, _
          rw [this]
          exact put9
        · refine iteN (by show inV (.int ((i : Int) % l)) _ = false; rw [int_mem]; exact decide_eq_false h2) ?_
          have : spk (spF ns ms l) cs (i + 1) = spk (spF ns ms l) cs i := by
            show (if spF ns ms l i = true then _ else _) = _
            rw [if_neg (by unfold spF; simp [h1, h2])]
          show ∃ q13 : Option V, _
          rw [this]
          exact ⟨_, rfl, st20, hd20⟩
    · rintro σ H20 ⟨q13, rfl, st20, hd20⟩
      have keep20 : ∀ {b : Addr} {u : HO}, H18 b = some u → H20 b = some u := fun {b u} e => st20 b u (fun q => by subst q; rw [nd2] at e; cases e) (s19 _ _ e)
      have s20 : Same H18 H20 := fun b u e => keep20 e
      clear st20
      have s9_20 := s9_18.trans s20
      have mo1'' := mo1'.same s20
      have mm2'' := mm2'.same s20
      have mo3'' := mo3.same s20
      have len1 := settleM_len hs cs
      obtain ⟨dz3, ho3⟩ := mo3''.o
      -- the first
      refine ⟨_, rfl, z, dz3, _, rfl, ho3, lk_m, z, m3, a3, C3, us, hs, _, d3, kv3, spF ns ms l, cs, rfl, mo3'', sd3, len1.symm, by omega, fun F1 H21 s21 nF1 eF1 => ?_⟩
      refine ⟨_, rfl, d2, _, rfl, s21 _ _ hd20, fun F2 nF2 => ?_⟩
      generalize hG22 : upd H21 F2 _ = H22
      have s22 : Same H21 H22 := by rw [← hG22]; exact (Same.refl H21).upd nF2
      clear hG22
      refine ⟨z2, fun F3 nF3 => ?_⟩
      generalize hG23 : upd H22 F3 _ = H23
      have s23 : Same H22 H23 := by rw [← hG23]; exact (Same.refl H22).upd nF3
      have f23 : H23 F3 = some (.lst [.ref F1, .ref F2]) := by rw [← hG23]; exact upd_same
      clear hG23
      have eF1' := (s22.trans s23) _ _ eF1
      have s20_23 := (s21.trans s22).trans s23
      have s9_23 := s9_20.trans s20_23
      refine gn ?_
      dsimp only
      -- what was handed in is changed
      have hL23 := s9_23 _ _ hL9
      have hpc23 := s9_23 _ _ epc
      have hR23 := s9_23 _ _ eR9
      have hM23 := s9_23 _ _ eM9
      have hqo23 := s9_23 _ _ eqo9
      refine ⟨_, rfl, .inl ⟨rfl, _, SqL.of hL23⟩, z3, fun t1x nt1 => ?_⟩
      have nLt : L ≠ t1x := ne_of_none hL23 nt1
      refine ⟨L, us, _, rfl, rfl, by rw [upd_ne nLt]; exact hL23, sl_lt (by have := hv.len; have := ok.len; omega), ?_⟩
      generalize hG24 : upd (upd H23 t1x _) L _ = H24
      have st24 : ∀ b u, b ≠ L → H23 b = some u → H24 b = some u := fun b u h e => by rw [← hG24, upd_ne h, upd_ne (ne_of_none e nt1)]; exact e
      have f24 : ∃ xs, H24 L = some (.lst xs) := ⟨_, by rw [← hG24]; exact upd_same⟩
      clear hG24
      -- apart
      have nLpc : pc ≠ L := fun q => by subst q; rw [((s36.trans (s7.trans s8)) _ _ hL)] at npc; cases npc
      have nLR : R ≠ L := fun q => by subst q; rw [(s4.trans s5) _ _ hL] at nR; cases nR
      have nLM : M ≠ L := fun q => by subst q; rw [(s4.trans s5) _ _ hL] at nM; cases nM
      have nLqo : qo ≠ L := fun q => by subst q; rw [(s4.trans s5) _ _ hL] at nqo; cases nqo
      have npR : R ≠ pc := fun q => by subst q; rw [((s7.trans s8)) _ _ eR] at npc; cases npc
      have npM : M ≠ pc := fun q => by subst q; rw [((s7.trans s8)) _ _ eM] at npc; cases npc
      have npq : qo ≠ pc := fun q => by subst q; rw [((s7.trans s8)) _ _ eqo] at npc; cases npc
      have hc00 : cs[0]? = some (cs[0]'(by omega)) := List.getElem?_eq_getElem _
      have hpc24 := st24 _ _ nLpc hpc23
      refine ⟨_, rfl, pc, _, _, _, rfl, rfl, SqL.of hpc24, atI_lit 0 (get_int hc00), _, _, rfl, rfl, _, rfl, pc, _, 0, 0, rfl, rfl, hpc24, ixN_in (by decide) (by rw [List.length_map]; omega), ?_⟩
      generalize hG25 : upd H24 pc _ = H25
      have st25 : ∀ b u, b ≠ pc → H24 b = some u → H25 b = some u := fun b u h e => by rw [← hG25, upd_ne h]; exact e
      obtain ⟨xs25, f25⟩ : ∃ xs, H25 pc = some (.lst xs) := ⟨_, by rw [← hG25]; exact upd_same⟩
      clear hG25
      refine ⟨_, rfl, .inl ⟨rfl, _, SqL.of f25⟩, pc, _, rfl, rfl, f25, ?_⟩
      generalize hG26 : upd H25 pc _ = H26
      have st26 : ∀ b u, b ≠ pc → H25 b = some u → H26 b = some u := fun b u h e => by rw [← hG26, upd_ne h]; exact e
      clear hG26
      have st26' : ∀ b u, b ≠ L → b ≠ pc → H23 b = some u → H26 b = some u := fun b u h1 h2 e => st26 b u h2 (st25 b u h2 (st24 b u h1 e))
      have hR26 := st26' _ _ nLR npR hR23
      have hqo26 := st26' _ _ nLqo npq hqo23
      have hM26 := st26' _ _ nLM npM hM23
      refine ⟨_, rfl, qo, _, _, _, rfl, rfl, SqL.of hqo26, atI_lit 0 rfl, .inl ⟨rfl, _, SqL.of hR26⟩, _, rfl, r.toNat, (by show [V.int r] = _; rw [show ((r.toNat : Nat) : Int) = r by omega]), by omega, fun lr nlr => ?_⟩
      have sl26 := (Same.refl H26).upd (o := .lst (natsV r.toNat)) nlr
      refine ⟨R, lr, _, _, rfl, rfl, sl26 _ _ hR26, upd_same, ?_, ?_⟩
      · have := prR.le
        rw [List.length_map]
        refine Nat.le_of_lt (sl_lt ?_)
        unfold natsV
        simp
        omega
      generalize hG27 : upd (upd H26 lr _) R _ = H27
      have st27 : ∀ b u, b ≠ R → H26 b = some u → H27 b = some u := fun b u h e => by rw [← hG27, upd_ne h]; exact sl26 _ _ e
      clear hG27
      have hM27 := st27 _ _ nRM.symm hM26
      have nqR : qo ≠ R := fun q => by subst q; rw [hqo26] at hR26; cases ns with
        | nil => simp at hR26
        | cons => simp at hR26
      refine ⟨_, rfl, qo, _, _, _, rfl, rfl, SqL.of (st27 _ _ nqR hqo26), atI_lit 1 rfl, .inl ⟨rfl, _, SqL.of hM27⟩, M, _, rfl, rfl, hM27, ?_⟩
      generalize hG28 : upd H27 M _ = H28
      have st28 : ∀ b u, b ≠ M → H27 b = some u → H28 b = some u := fun b u h e => by rw [← hG28, upd_ne h]; exact e
      clear hG28
      have S28 : Stay H23 (fun b => b = L ∨ b = pc ∨ b = R ∨ b = M) H28 := ⟨fun b u h e => st28 b u (fun q => h (.inr (.inr (.inr q)))) (st27 b u (fun q => h (.inr (.inr (.inl q)))) (st26' b u (fun q => h (.inl q)) (fun q => h (.inr (.inl q))) e)), fun b hb => by
        rcases hb with rfl | rfl | rfl | rfl
        · exact ⟨_, hL23, (fun _ _ _ z => by cases z), (fun _ z => by cases z)⟩
        · exact ⟨_, hpc23, (fun _ _ _ z => by cases z), (fun _ z => by cases z)⟩
        · exact ⟨_, hR23, (fun _ _ _ z => by cases z), (fun _ z => by cases z)⟩
        · exact ⟨_, hM23, (fun _ _ _ z => by cases z), (fun _ z => by cases z)⟩⟩
      have free9 : ∀ {X : Hp} {b : Addr}, Same H9 X → X b = none → ¬ (b = L ∨ b = pc ∨ b = R ∨ b = M) := fun {X b} sX hX hb => by
        rcases hb with rfl | rfl | rfl | rfl
        · rw [sX _ _ hL9] at hX; cases hX
        · rw [sX _ _ epc] at hX; cases hX
        · rw [sX _ _ eR9] at hX; cases hX
        · rw [sX _ _ eM9] at hX; cases hX
      have mo1_28 := S28.men (mo1''.same s20_23) (free9 sx na1) (free9 sx nC1) (free9 sx nd1)
      have s9Y : Same H9 Y12 := s9y
      have mm2_28 := S28.mem (mm2''.same s20_23) (free9 s9Y na2) (free9 s9Y nC2)
      have s9Z : Same H9 Z17 := s9_17.trans sz
      have mo3_28 := S28.men (mo3''.same s20_23) (free9 s9Z na3) (free9 s9Z nC3) (free9 s9Z nd3)
      have hd28 : H28 d2 = some (.dK (spk (spF ns ms l) cs cs.length)) := S28.st _ _ (free9 s9_18 nd2) (s20_23 _ _ hd20)
      have sH23 : Same H H23 := sH9.trans s9_23
      have nH : ∀ {b : Addr} {u : HO}, H b = some u → ¬ (b = L ∨ b = pc ∨ b = R ∨ b = M) := fun {b u} e hb => by
        rcases hb with rfl | rfl | rfl | rfl
        · rw [(sH1.trans s2) _ _ e] at nL; cases nL
        · rw [(sH6.trans (s7.trans s8)) _ _ e] at npc; cases npc
        · rw [(sH3.trans (s4.trans s5)) _ _ e] at nR; cases nR
        · rw [(sH3.trans (s4.trans s5)) _ _ e] at nM; cases nM
      have sH28 : Same H H28 := fun b u e => S28.st b u (nH e) (sH23 _ _ e)
      have nOb : ¬ (O = L ∨ O = pc ∨ O = R ∨ O = M) := fun hb => by
        rcases hb with q | q | q | q
        · rw [q, hL] at nO; cases nO
        · rw [← q, ((s5.trans s6').trans (s7.trans s8)) _ _ eO] at npc; cases npc
        · rw [← q, s5 _ _ eO] at nR; cases nR
        · rw [← q, s5 _ _ eO] at nM; cases nM
      have eO28 : H28 O = some (.lst (own.map V.int)) := S28.st _ _ nOb (((s5.trans s6').trans (s69.trans s9_23)) _ _ eO)
      have nF1b := free9 s9_20 nF1
      have nF3b := free9 (s9_20.trans (s21.trans s22)) nF3
      have eF128 := S28.st _ _ nF1b eF1'
      have eF328 := S28.st _ _ nF3b f23
      have xC1 : Y12 C1 = some (.lst ((settleM hs cs).map V.int)) := (s12.trans sy) _ _ mo1.m.m.hc
      have xa1 : Y12 a1 = some (.lst us) := (s12.trans sy) _ _ mo1.m.m.hl
      have rs0 : RS H28 C N x m1 a1 C1 us d1 y a2 C2 us d2 hs (spF ns ms l) (settleM hs cs) cs := ⟨⟨kv1, mo1_28, sd1, by omega⟩, mm2_28, ⟨_, hd28, spk_is, by have := spk_len (spF ns ms l) cs cs.length; omega⟩, len1.symm, ne_of_none xC1 nC2, ne_of_none xC1 na2, (ne_of_none xa1 nC2).symm, ndd⟩
      -- the deeds
      dsimp only
      refine ⟨_, rfl, A, _, _, _, rfl, rfl, SqL.of (sH28 _ _ hA), atI_lit 2 rfl, _, rfl, _, _, rfl, rfl, z3, fun j1 nj1 => ?_⟩
      generalize hG29 : upd H28 j1 _ = H29
      have s29 : Same H28 H29 := by rw [← hG29]; exact (Same.refl H28).upd nj1
      have f29 : H29 j1 = some (.lst [.int 4, .int 64, .int 4]) := by rw [← hG29]; exact upd_same
      clear hG29
      refine ⟨j1, 40, _, rfl, rfl, f29, by decide, by decide, sl_le (by decide), fun j2 nj2 => ?_⟩
      generalize hG30 : upd H29 j2 _ = H30
      have s30 : Same H29 H30 := by rw [← hG30]; exact (Same.refl H29).upd nj2
      have f30 : H30 j2 = some (.lst (dg120.map V.int)) := by
        rw [← hG30]
        refine upd_same.trans ?_
        unfold dg120
        rw [List.map_flatten, List.map_replicate]
        rfl
      clear hG30
      refine ⟨c, t + 40, j2, dg120, rfl, f30, dg120_ok.1, dg120_ok.2, by omega, by omega, fun dp3 ds3 H31 s31 ndp3 hdp3' hD3 => ?_⟩
      have s28_31 := (s29.trans s30).trans s31
      have eF131 := s28_31 _ _ eF128
      have eF331 := s28_31 _ _ eF328
      have eO31 := s28_31 _ _ eO28
      have mo3_31 := mo3_28.same s28_31
      have sH31 := sH28.trans s28_31
      have rs31 := rs0.same s28_31
      have bS := bits_settle ok.ok hb
      -- apart from what changes
      obtain ⟨kA, moA, _, _⟩ := rs31.men
      obtain ⟨kB, hdB, _, _⟩ := rs31.dd
      have nb_old : ∀ {b : Addr} {u : HO}, H9 b = some u → ¬ (b = C1 ∨ b = d1 ∨ b = C2 ∨ b = d2) := fun {b u} e hb => by
        rcases hb with q | q | q | q
        · rw [← q, sx _ _ e] at nC1; cases nC1
        · rw [← q, sx _ _ e] at nd1; cases nd1
        · rw [← q, s9y _ _ e] at nC2; cases nC2
        · rw [← q, s9_18 _ _ e] at nd2; cases nd2
      have nb_new : ∀ {X : Hp} {b : Addr}, Same H20 X → X b = none → ¬ (b = C1 ∨ b = d1 ∨ b = C2 ∨ b = d2) := fun {X b} sX e hb => by
        rcases hb with q | q | q | q
        · rw [q, sX _ _ mo1''.m.m.hc] at e; cases e
        · rw [q, sX _ _ mo1''.d] at e; cases e
        · rw [q, sX _ _ mm2''.m.hc] at e; cases e
        · rw [q, sX _ _ hd20] at e; cases e
      have nb_z : ∀ {b : Addr} {u : HO}, Z17 b = none → H18 b = some u → ¬ (b = C1 ∨ b = d1 ∨ b = C2 ∨ b = d2) := fun {b u} e e2 hb => by
        have s11Z : Same H11 Z17 := (s11_13.trans ((s14.trans s15).trans (s16.trans s17))).trans sz
        have s13Z : Same H13 Z17 := ((s14.trans s15).trans (s16.trans s17)).trans sz
        rcases hb with q | q | q | q
        · rw [q, s11Z _ _ mo1.m.m.hc] at e; cases e
        · rw [q, s11Z _ _ mo1.d] at e; cases e
        · rw [q, s13Z _ _ mm2.m.hc] at e; cases e
        · rw [q, nd2] at e2; cases e2
      have nbO := nb_old (((s5.trans s6').trans s69) _ _ eO)
      have nbF1 := nb_new (Same.refl _) nF1
      have nbF3 := nb_new (s21.trans s22) nF3
      have up4 : ∀ {Hk : Hp} {b : Addr} {u : HO}, UpS H31 C1 d1 C2 d2 Hk → ¬ (b = C1 ∨ b = d1 ∨ b = C2 ∨ b = d2) → H31 b = some u → Hk b = some u := fun {Hk b u} up h e => up b u (fun q => h (.inl q)) (fun q => h (.inr (.inl q))) (fun q => h (.inr (.inr (.inl q)))) (fun q => h (.inr (.inr (.inr q)))) e
      have stK : ∀ {Hk : Hp}, UpS H31 C1 d1 C2 d2 Hk → Stay H31 (fun b => b = C1 ∨ b = d1 ∨ b = C2 ∨ b = d2) Hk := fun {Hk} up => ⟨fun b u h e => up4 up h e, fun b hb => by
        rcases hb with rfl | rfl | rfl | rfl
        · exact ⟨_, moA.m.m.hc, (fun _ _ _ z => by cases z), (fun _ z => by cases z)⟩
        · exact ⟨_, moA.d, (fun _ _ _ z => by cases z), (fun _ z => by cases z)⟩
        · exact ⟨_, rs31.mem.m.hc, (fun _ _ _ z => by cases z), (fun _ z => by cases z)⟩
        · exact ⟨_, hdB, (fun _ _ _ z => by cases z), (fun _ z => by cases z)⟩⟩
      have c14 : H31 C1 ≠ none := by rw [moA.m.m.hc]; simp
      have nbdp : ¬ (dp3 = C1 ∨ dp3 = d1 ∨ dp3 = C2 ∨ dp3 = d2) := fun hb => by
        rcases hb with q | q | q | q
        · rw [q, (s29.trans s30) _ _ mo1_28.m.m.hc] at ndp3; cases ndp3
        · rw [q, (s29.trans s30) _ _ mo1_28.d] at ndp3; cases ndp3
        · rw [q, (s29.trans s30) _ _ mm2_28.m.hc] at ndp3; cases ndp3
        · rw [q, (s29.trans s30) _ _ hd28] at ndp3; cases ndp3
      refine gn ?_
      dsimp only
      refine ⟨40, rfl, by decide, by decide, for_range (n := 40) (fun i σ Hk => ∃ (cs' ws' : List Int) (o13 o16 o17 o18 o19 : Option V), σ = [some (.ref A), some (.int t), some (.ref dp), some (.int r), some (.int l), some (.ref L), some (.ref O), some (.ref qo), some (.ref pc), some (.ref x), some (.ref y), some (.ref z), some (.ref d2), o13, some (.ref F3), some (.ref dp3), o16, o17, o18, o19] ∧ bits cs' ∧ bits ws' ∧ cs'.length = cs.length ∧ RS Hk C N x m1 a1 C1 us d1 y a2 C2 us d2 hs (spF ns ms l) cs' ws' ∧ UpS H31 C1 d1 C2 d2 Hk) ⟨_, _, _, _, _, _, _, rfl, bS, hb, len1, rs31, UpS.of (Same.refl _)⟩ ?_ ?_⟩
      · rintro i σ Hk hi ⟨cs', ws', o13, o16, o17, o18, o19, rfl, bc', bw', lc', rsk, upk⟩
        show gName 16 (V.int ((0 : Int) + (i : Int))) _ _ _
        rw [Int.zero_add]
        refine gn ?_
        dsimp only
        obtain ⟨z0', z1', z2'⟩ := dg120_at i hi
        obtain ⟨u0, gu0, u00, u01⟩ := hD3.get z0'
        obtain ⟨u1, gu1, u10, u11⟩ := hD3.get z1'
        obtain ⟨u2, gu2, u20, u21⟩ := hD3.get z2'
        have cm3 : CMul 3 (i : Int) := .inl ⟨by decide, by decide⟩
        have at0 : atI (ds3.map V.int) (3 * (i : Int)) = some (.int u0) := by rw [show 3 * (i : Int) = ((3 * i : Nat) : Int) by omega]; exact atI_nat (get_int gu0)
        have at1 : atI (ds3.map V.int) (3 * (i : Int) + 1) = some (.int u1) := by rw [show 3 * (i : Int) + 1 = ((3 * i + 1 : Nat) : Int) by omega]; exact atI_nat (get_int gu1)
        have at2 : atI (ds3.map V.int) (3 * (i : Int) + 2) = some (.int u2) := by rw [show 3 * (i : Int) + 2 = ((3 * i + 2 : Nat) : Int) by omega]; exact atI_nat (get_int gu2)
        have hdk := up4 upk nbdp hdp3'
        have hOk := up4 upk nbO eO31
        refine ⟨_, rfl, _, rfl, _, _, rfl, rfl, cm3, _, _, rfl, rfl, dp3, _, _, _, rfl, rfl, SqL.of hdk, at1, _, rfl, _, rfl, _, _, rfl, rfl, crl, _, _, rfl, rfl, (by show (0 : Int) < r * l; omega), ?_⟩
        obtain ⟨a0, ea0, la0⟩ : ∃ a0 : Nat, u1 % (r * l) = (a0 : Int) ∧ a0 < cs.length := by
          have h1 := Int.emod_nonneg u1 (b := r * l) (by omega)
          have h2 := Int.emod_lt_of_pos u1 (b := r * l) (by omega)
          exact ⟨(u1 % (r * l)).toNat, by omega, by omega⟩
        show gName 13 (V.int (u1 % (r * l))) _ _ _
        rw [ea0]
        refine gn ?_
        dsimp only
        refine ⟨fun σ' H' => ∃ (a : Nat) (q17 : Option V), σ' = [some (.ref A), some (.int t), some (.ref dp), some (.int r), some (.int l), some (.ref L), some (.ref O), some (.ref qo), some (.ref pc), some (.ref x), some (.ref y), some (.ref z), some (.ref d2), some (.int a), some (.ref F3), some (.ref dp3), some (.int i), q17, o18, o19] ∧ a < cs.length ∧ Same Hk H', ?_, ?_⟩
        · refine ⟨_, rfl, _, rfl, _, _, rfl, rfl, cm3, dp3, _, _, _, rfl, rfl, SqL.of hdk, at0, _, _, rfl, rfl, _, rfl, ?_⟩
          by_cases h0 : 0 < u0
          · refine iteB (decide_eq_true h0) ?_
            refine ⟨_, rfl, Nat.zero_le _, fun pn npn => ?_⟩
            have spn := (Same.refl Hk).upd (o := .lst []) npn
            refine ⟨_, _, ints_at (spn _ _ hOk), .lst upd_same .nil, ints_lay0 _, by decide +kernel, ints_depth _, _, rfl, ?_⟩
            have hOn := spn _ _ hOk
            have hdn := spn _ _ hdk
            revert spn hOn hdn
            generalize upd Hk pn (.lst []) = Hn
            intro spn hOn hdn
            cases own with
            | nil =>
              refine iteN (by rw [eqv_nil]; rfl) ?_
              exact ⟨a0, _, rfl, la0, spn⟩
            | cons o0 orest =>
              refine iteB (by rw [eqv_nil]; rfl) ?_
              obtain ⟨jo, ejo, hjo⟩ : ∃ j : Nat, u1 % (((o0 :: orest).map V.int).length : Int) = (j : Int) ∧ j < (o0 :: orest).length := by
                rw [List.length_map]
                have h1 := Int.emod_nonneg u1 (b := ((o0 :: orest).length : Int)) (by rw [List.length_cons]; omega)
                have h2 := Int.emod_lt_of_pos u1 (b := ((o0 :: orest).length : Int)) (by rw [List.length_cons]; omega)
                exact ⟨(u1 % ((o0 :: orest).length : Int)).toNat, by omega, by omega⟩
              refine ⟨_, rfl, _, rfl, _, rfl, _, _, rfl, rfl, cm3, _, _, rfl, rfl, dp3, _, _, _, rfl, rfl, SqL.of hdn, at1, _, rfl, O, _, rfl, .inl (SqL.of hOn), _, _, rfl, rfl, (by show (0 : Int) < (((o0 :: orest).map V.int).length : Int); rw [List.length_map, List.length_cons]; omega), O, _, _, .int ((o0 :: orest)[jo]), rfl, rfl, SqL.of hOn, ?_, ?_⟩
              · show atI _ (u1 % (((o0 :: orest).map V.int).length : Int)) = _
                rw [ejo]
                exact atI_nat (get_int (List.getElem?_eq_getElem hjo))
              refine ⟨_, rfl, _, rfl, _, _, rfl, rfl, cm3, dp3, _, _, _, rfl, rfl, SqL.of hdn, at0, _, _, rfl, rfl, ⟨by decide, by decide⟩, _, _, rfl, rfl, ?_⟩
              refine gn ?_
              dsimp only
              refine ⟨_, rfl, _, rfl, _, rfl, _, _, rfl, rfl, crl, _, _, rfl, rfl, (by show (0 : Int) < r * l; omega), ?_⟩
              generalize hnear : (o0 :: orest)[jo] + u0 / 3 = near
              obtain ⟨a9, ea9, la9⟩ : ∃ a9 : Nat, near % (r * l) = (a9 : Int) ∧ a9 < cs.length := by
                have h1 := Int.emod_nonneg near (b := r * l) (by omega)
                have h2 := Int.emod_lt_of_pos near (b := r * l) (by omega)
                exact ⟨(near % (r * l)).toNat, by omega, by omega⟩
              show gName 13 (V.int (near % (r * l))) _ _ _
              rw [ea9]
              refine gn ?_
              exact ⟨a9, _, rfl, la9, spn⟩
          · refine iteN (decide_eq_false h0) ?_
            exact ⟨a0, _, rfl, la0, Same.refl _⟩
        · rintro σ1 Hm ⟨a, q17, rfl, la, sm⟩
          have rsm := rsk.same sm
          obtain ⟨km, mom, sdm, klm⟩ := rsm.men
          obtain ⟨⟨dxm, hom⟩, _, _⟩ := id mom
          refine ⟨_, rfl, x, dxm, _, rfl, hom, lk_m, x, m1, a1, C1, us, hs, cs', d1, km, _, ws', rfl, mom, sdm, rsm.wl, by omega, fun T H5 s5 nT eT => ?_⟩
          have mixb := mix_bits (sp := spF ns ms l) bc' bw'
          have mixl : (mixL (spF ns ms l) ws' cs').length = cs'.length := by unfold mixL; simp
          obtain ⟨v1, v2, v3⟩ := bits_shown mixb (by omega)
          have tne : (mixL (spF ns ms l) ws' cs').map V.int ≠ [] := fun q => by have := congrArg List.length q; rw [List.length_map, mixl, List.length_nil] at this; omega
          have tall : ∀ {X : Hp}, AllX X ((mixL (spF ns ms l) ws' cs').map V.int) ((mixL (spF ns ms l) ws' cs').map PyData.int) := fun {X} => AtAll.allX (ints_all _)
          refine ⟨_, rfl, T, _, _, rfl, eT, tne, tall, v1, v2, v3, ?_⟩
          have rs5 := rsm.same s5
          have hd5 := (sm.trans s5) _ _ hdk
          refine ⟨_, rfl, _, rfl, _, rfl, _, rfl, _, rfl, _, rfl, _, _, rfl, rfl, cm3, _, _, rfl, rfl, dp3, _, _, _, rfl, rfl, SqL.of hd5, at2, x, m1, a1, C1, us, d1, y, a2, C2, us, d2, hs, _, cs', ws', a, u2, rfl, rs5, by rw [lc']; exact ir, by omega, u20, bc', bw', ok.ok, fun cs2 ws2 H6 bc2 bw2 rs6 l6 up6 => ⟨_, rfl, iteN rfl ?_⟩⟩
          refine ⟨_, rfl, _, rfl, _, rfl, x, m1, a1, C1, us, d1, y, a2, C2, us, d2, hs, _, cs2, ws2, rfl, rs6, by omega, fun H7 s7 => ⟨_, rfl, iteN rfl ?_⟩⟩
          have nbT : ¬ (T = C1 ∨ T = d1 ∨ T = C2 ∨ T = d2) := fun hb => by
            obtain ⟨kd, hdd, _, _⟩ := rsm.dd
            rcases hb with q | q | q | q
            · rw [q, mom.m.m.hc] at nT; cases nT
            · rw [q, mom.d] at nT; cases nT
            · rw [q, rsm.mem.m.hc] at nT; cases nT
            · rw [q, hdd] at nT; cases nT
          have eT7 := s7 _ _ (up6 T _ (fun q => nbT (.inl q)) (fun q => nbT (.inr (.inl q))) (fun q => nbT (.inr (.inr (.inl q)))) (fun q => nbT (.inr (.inr (.inr q)))) eT)
          refine ⟨_, rfl, T, _, _, rfl, eT7, tne, tall, v1, v2, v3, _, rfl, rfl, _, rfl, iteN (by simp) ?_⟩
          exact ⟨cs2, ws2, _, _, _, _, _, rfl, bc2, bw2, by omega, rs6.same s7, (upk.trans (UpS.of (sm.trans s5))).trans (up6.trans (UpS.of s7))⟩
      · rintro σ Hk ⟨cs', ws', o13, o16, o17, o18, o19, rfl, bc', bw', lc', rsk, upk⟩
        obtain ⟨km, mom, sdm, klm⟩ := rsk.men
        obtain ⟨⟨dxm, hom⟩, _, _⟩ := id mom
        have mo3k := (stK upk).men mo3_31 (nb_z na3 mo3.m.m.hl) (nb_z nC3 mo3.m.m.hc) (nb_z nd3 mo3.d)
        obtain ⟨⟨dzk, hozk⟩, _, _⟩ := id mo3k
        have eF3k := up4 upk nbF3 eF331
        have eF1k := up4 upk nbF1 eF131
        have sHk : Same H Hk := fun b u e => up4 upk (nb_old (sH9 _ _ e)) (sH31 _ _ e)
        refine ⟨_, rfl, x, dxm, _, rfl, hom, lk_m, x, m1, a1, C1, us, hs, cs', d1, km, rfl, mom, _, rfl, _, rfl, _, _, rfl, rfl, crl, rfl, _, rfl, iteB (by show decide (V.int ((cs'.length : Nat) : Int) = V.int (r * l)) = true; rw [hn, lc']; simp) ?_⟩
        refine ⟨_, rfl, z, dzk, _, rfl, hozk, lk_m, z, m3, a3, C3, us, hs, _, d3, kv3, _, cs, rfl, mo3k, sd3, len1.symm, by omega, fun T2 H8 s8 nT2 eT2 => ?_⟩
        refine ⟨_, rfl, F3, _, _, _, rfl, rfl, SqL.of (s8 _ _ eF3k), atI_lit 0 rfl, _, _, ints_at eT2, ints_at (s8 _ _ eF1k), ints_lay0 _, ints_lay0 _, ints_depth _, _, rfl, iteB (ints_eqv _) ?_⟩
        refine ⟨_, rfl, z, dzk, _, rfl, s8 _ _ hozk, lk_m, z, m3, a3, C3, us, hs, _, d3, kv3, rfl, mo3k.same s8, _, rfl, _, rfl, _, _, rfl, rfl, crl, rfl, ?_⟩
        show Q (.bl (decide (V.int (((settleM hs cs).length : Nat) : Int) = V.int (r * l)))) _
        rw [hn, len1, decide_eq_true rfl]
        exact k _ (sHk.trans s8)
end
end Mh
set_option Elab.async false
set_option linter.all false
set_option maxRecDepth 100000
set_option maxHeartbeats 4000000
namespace Mh
open PySem L2 PyProof.Rows Mx
theorem cells4 {ns : List Int} {at' : Int} (h : 0 ≤ at') : ∃ ms : List Int, cutV (ns.map V.int) (some at') (some (at' + 4)) = ms.map V.int ∧ ms.length ≤ 4 := by
  rw [show at' = ((at'.toNat : Nat) : Int) by omega, show ((at'.toNat : Nat) : Int) + 4 = ((at'.toNat + 4 : Nat) : Int) by omega, cut_mid, List.length_map]
  refine ⟨(ns.drop (min at'.toNat ns.length)).take (min (at'.toNat + 4) ns.length - min at'.toNat ns.length), by rw [List.map_take, List.map_drop], ?_⟩
  rw [List.length_take]
  omega
theorem three_of {ms : List Int} : ∃ a b c : Int, cutV ((ms ++ [1, 2, 3]).map V.int) none (some 3) = [V.int a, .int b, .int c] := by
  rw [show (3 : Int) = ((3 : Nat) : Int) from rfl, cut_take, ← List.map_take]
  match ms with
  | [] => exact ⟨_, _, _, rfl⟩
  | [a] => exact ⟨_, _, _, rfl⟩
  | [a, b] => exact ⟨_, _, _, rfl⟩
  | a :: b :: c :: _ => exact ⟨_, _, _, rfl⟩
section
variable {P : Program} {w : World} {K : PySem.W.Frag} {mg : Str → Option Value} {base : Heap}
def sp_law (K : PySem.W.Frag) : Sp := fun vs H Q _ => ∃ (a : Addr) (ns : List Int), vs = [.ref a] ∧ SqL K H a (ns.map V.int) ∧ ns.length ≤ 63 ∧ ∀ H', Q (.bl true) H'
abbrev s_law : Stmt := top 62
theorem sc_law : FnScope ["_law_script", "_law_at"] ["_law_script"] (defScope s_law) := ⟨rfl, rfl, rfl, by decide +kernel, rfl, by decide +kernel, by decide +kernel⟩
/- slots: 0 _law_script, 1 _law_at -/
theorem ok_law (B : Bl mg) (h__law_right : Has P w K mg base 13 "_law_right" ["_law_cells_here", "_law_turn"] sp_lright) {f : Addr} {fd : FuncData} (F : Fun K "law" "law" s_law f fd) : FnOk P w K mg base CX0 14 f fd ["_law_script"] (sp_law K) := by
  refine Mx.Fun.okQ F sc_law (fun vs H Q E h => ?_) (fun cdv A outer s H vs Q E hr h => ?_)
  · obtain ⟨a, ns, rfl, _⟩ := h
    rfl
  · obtain ⟨a, ns, rfl, hS, hnl, k⟩ := h
    have sc := sc_law
    refine ⟨_, (qss_litQ rfl (qss_cons (qs_for PassesOwn.never rfl (qi_of (pi_range3 rfl (B.of rfl) (pa_cons pe_int (pa_cons (pe_callB (call_max2 rfl) rfl (B.of rfl) boot_max (pa_cons pe_int (pa_cons (pe_callB (call_min2 rfl) rfl (B.of rfl) boot_min (pa_cons (pe_callB call_len_seq rfl (B.of rfl) boot_len (pa_cons (pv 0) pa_nil)) (pa_cons pe_int pa_nil))) pa_nil))) (pa_cons pe_int pa_nil))))) (pg_name (i := 1) sc.nd rfl (Or.inl rfl))
        (qss_one (qs_ifT (qt_not (qt_valC (qe_callH h__law_right hr (qa_sb (qe_sl sl_list (qe_op op_cat (qe_sl sl_list (qe_of (pv 0)) (po_some (pv 1)) (po_some (pe_op op_add (pv 1) pe_int))) (qe_lst (qa_cs (qe_of pe_int) (qa_cs (qe_of pe_int) (qa_cs (qe_of pe_int) qa_nil))))) po_none (po_some pe_int)) (qa_nm (qe_of (pv 1)) qa_nil)))))
          (qss_one (qs_retE (qe_of pe_bl)))
          qss_nil)))
      (qss_one (qs_retE (qe_of pe_bl))))), ?_⟩
    have z3 : 3 ≤ sizeLine := by decide
    refine ⟨_, rfl, a, _, rfl, .inl hS, _, _, rfl, _, _, rfl, _, _, _, rfl, ?_, ?_⟩
    · simp only [List.length_map]
      refine ⟨by decide, by decide, ?_, ?_, by decide, by decide⟩ <;> split <;> split <;> omega
    refine for_range3 (fun i σ H2 => ∃ q1 : Option V, σ = [some (.ref a), q1] ∧ Same H H2) ⟨none, rfl, Same.refl H⟩ ?_ ?_
    · rintro i σ H2 hi ⟨q1, rfl, s2⟩
      generalize hat : (0 : Int) + (i : Int) * 4 = at'
      have hat0 : 0 ≤ at' := by omega
      have hat1 : at' ≤ 1000 := by
        have h48 : (if (if 48 < ((ns.map V.int).length : Int) then 48 else ((ns.map V.int).length : Int)) > 1 then (if 48 < ((ns.map V.int).length : Int) then 48 else ((ns.map V.int).length : Int)) else 1) ≤ 48 := by split <;> split <;> omega
        unfold rcount at hi
        generalize (if (if 48 < ((ns.map V.int).length : Int) then 48 else ((ns.map V.int).length : Int)) > 1 then (if 48 < ((ns.map V.int).length : Int) then 48 else ((ns.map V.int).length : Int)) else 1) = X at hi h48
        split at hi <;> omega
      obtain ⟨ms, hms, hml⟩ := cells4 (ns := ns) hat0
      refine ⟨_, rfl, _, rfl, _, rfl, _, rfl, _, _, rfl, rfl, _, rfl, a, _, rfl, s2.seq hS, fun c1 h1 => ?_⟩
      rw [hms]
      generalize hG3 : upd H2 c1 _ = H3
      have s3 : Same H2 H3 := by rw [← hG3]; exact (Same.refl H2).upd h1
      have f3 : H3 c1 = some (.lst (ms.map V.int)) := by rw [← hG3]; exact upd_same
      clear hG3
      refine ⟨z3, fun c2 h2 => ?_⟩
      generalize hG4 : upd H3 c2 _ = H4
      have s4 : Same H3 H4 := by rw [← hG4]; exact (Same.refl H3).upd h2
      have f4 : H4 c2 = some (.lst (([1, 2, 3] : List Int).map V.int)) := by rw [← hG4]; exact upd_same
      clear hG4
      refine ⟨c1, c2, _, _, rfl, rfl, s4 _ _ f3, f4, sl_le (by simp; omega), fun c3 h3 => ?_⟩
      generalize hG5 : upd H4 c3 _ = H5
      have s5 : Same H4 H5 := by rw [← hG5]; exact (Same.refl H4).upd h3
      have f5 : H5 c3 = some (.lst ((ms ++ [1, 2, 3]).map V.int)) := by rw [← hG5, List.map_append]; exact upd_same
      clear hG5
      refine ⟨3, rfl, c3, _, rfl, SqL.of f5, fun c4 h4 => ?_⟩
      obtain ⟨x, y, z, e3⟩ := three_of (ms := ms)
      rw [e3]
      generalize hG6 : upd H5 c4 _ = H6
      have s6 : Same H5 H6 := by rw [← hG6]; exact (Same.refl H5).upd h4
      have f6 : H6 c4 = some (.lst [.int x, .int y, .int z]) := by rw [← hG6]; exact upd_same
      clear hG6
      refine ⟨_, rfl, c4, x, y, z, at', rfl, f6, hat0, hat1, fun H7 s7 => ⟨_, rfl, iteN rfl ?_⟩⟩
      exact ⟨_, rfl, ((s2.trans s3).trans (s4.trans s5)).trans (s6.trans s7)⟩
    · rintro σ H2 ⟨q1, rfl, s2⟩
      exact k _
end
end Mh
set_option Elab.async false
set_option linter.all false
set_option maxRecDepth 100000
namespace Mh
open PySem L2 PyProof.Rows
open Mx
theorem sqT_mk {K : PySem.W.Frag} {a : Addr} {xs : List V} {od : Option Addr} {its : Array Value} {n : Nat} {sl : Array (Option Value)} (h2 : K.lookup a = some ⟨.type "tuple", od, .seq its n, sl⟩) (z : its.size ≤ sizeLine) (r : Vals xs its.toList) : ∀ H, SqT K H a xs :=
  fun H => .inr ⟨_, its, n, h2, rfl, rfl, z, r⟩
theorem fnAt_mk {K : PySem.W.Frag} {h : Heap} {mg : Str → Option Value} {x : Str} {st : Stmt} {ps : List Str} {f : Addr} {oc : Value} {od an : Option Addr} {osl : Array (Option Value)} {kV doc pm cdv ct : Value} (X : K.In h) (G : h.Ns mainGlobals mg)
    (a : PySem.W.nsIn K mainGlobals x = some (some (.ref f))) (l : K.lookup f = some ⟨oc, od, .func (PySem.W.fnOf x x (defArgs st) (defBody st) (defScope st) .none kV doc pm an cdv ct), osl⟩) (c : PySem.W.codeIn K cdv x = true) (k : PySem.W.keepIn K (.ref f) = true)
    (hb : ∀ (kV doc pm : Value) (an : Option Addr) (cdv ct : Value) (us : List Value), us.length = ps.length → bindArgs (PySem.W.fnOf x x (defArgs st) (defBody st) (defScope st) .none kV doc pm an cdv ct) ⟨us, []⟩ = pure (ps.zip us)) : FnAt K mg x st ps := by
  have F := fun_mk (st := st) l c k
  exact ⟨f, _, PySem.W.mg_of X G a, F, F.binds hb⟩
set_option maxHeartbeats 0 in
theorem all_mk {l : PySem.W.OpenLaw} {w : World} {K : PySem.W.Frag} {h : Heap} {mg : Str → Option Value} {fa : Addr} (X : K.In h) (G : h.Ns mainGlobals mg) (hfa : mg "law" = some (.ref fa))
    {f0 : Addr} {od0 an0 : Option Addr} {sl0 : Array (Option Value)} {oc0 kV0 dc0 pm0 cd0 ct0 : Value}
    (a0 : PySem.W.nsIn K mainGlobals "is_whole" = some (some (.ref f0)))
    (l0 : K.lookup f0 = some ⟨oc0, od0, .func (PySem.W.fnOf "is_whole" "is_whole" (defArgs s_is_whole) (defBody s_is_whole) (defScope s_is_whole) .none kV0 dc0 pm0 an0 cd0 ct0), sl0⟩)
    (c0 : PySem.W.codeIn K cd0 "is_whole" = true)
    (k0 : PySem.W.keepIn K (.ref f0) = true)
    {f1 : Addr} {od1 an1 : Option Addr} {sl1 : Array (Option Value)} {oc1 kV1 dc1 pm1 cd1 ct1 : Value}
    (a1 : PySem.W.nsIn K mainGlobals "is_bit" = some (some (.ref f1)))
    (l1 : K.lookup f1 = some ⟨oc1, od1, .func (PySem.W.fnOf "is_bit" "is_bit" (defArgs s_is_bit) (defBody s_is_bit) (defScope s_is_bit) .none kV1 dc1 pm1 an1 cd1 ct1), sl1⟩)
    (c1 : PySem.W.codeIn K cd1 "is_bit" = true)
    (k1 : PySem.W.keepIn K (.ref f1) = true)
    {f2 : Addr} {od2 an2 : Option Addr} {sl2 : Array (Option Value)} {oc2 kV2 dc2 pm2 cd2 ct2 : Value}
    (a2 : PySem.W.nsIn K mainGlobals "is_one_of" = some (some (.ref f2)))
    (l2 : K.lookup f2 = some ⟨oc2, od2, .func (PySem.W.fnOf "is_one_of" "is_one_of" (defArgs s_is_one_of) (defBody s_is_one_of) (defScope s_is_one_of) .none kV2 dc2 pm2 an2 cd2 ct2), sl2⟩)
    (c2 : PySem.W.codeIn K cd2 "is_one_of" = true)
    (k2 : PySem.W.keepIn K (.ref f2) = true)
    {f3 : Addr} {od3 an3 : Option Addr} {sl3 : Array (Option Value)} {oc3 kV3 dc3 pm3 cd3 ct3 : Value}
    (a3 : PySem.W.nsIn K mainGlobals "is_cell" = some (some (.ref f3)))
    (l3 : K.lookup f3 = some ⟨oc3, od3, .func (PySem.W.fnOf "is_cell" "is_cell" (defArgs s_is_cell) (defBody s_is_cell) (defScope s_is_cell) .none kV3 dc3 pm3 an3 cd3 ct3), sl3⟩)
    (c3 : PySem.W.codeIn K cd3 "is_cell" = true)
    (k3 : PySem.W.keepIn K (.ref f3) = true)
    {f4 : Addr} {od4 an4 : Option Addr} {sl4 : Array (Option Value)} {oc4 kV4 dc4 pm4 cd4 ct4 : Value}
    (a4 : PySem.W.nsIn K mainGlobals "is_part" = some (some (.ref f4)))
    (l4 : K.lookup f4 = some ⟨oc4, od4, .func (PySem.W.fnOf "is_part" "is_part" (defArgs s_is_part) (defBody s_is_part) (defScope s_is_part) .none kV4 dc4 pm4 an4 cd4 ct4), sl4⟩)
    (c4 : PySem.W.codeIn K cd4 "is_part" = true)
    (k4 : PySem.W.keepIn K (.ref f4) = true)
    {f5 : Addr} {od5 an5 : Option Addr} {sl5 : Array (Option Value)} {oc5 kV5 dc5 pm5 cd5 ct5 : Value}
    (a5 : PySem.W.nsIn K mainGlobals "has_word" = some (some (.ref f5)))
    (l5 : K.lookup f5 = some ⟨oc5, od5, .func (PySem.W.fnOf "has_word" "has_word" (defArgs s_has_word) (defBody s_has_word) (defScope s_has_word) .none kV5 dc5 pm5 an5 cd5 ct5), sl5⟩)
    (c5 : PySem.W.codeIn K cd5 "has_word" = true)
    (k5 : PySem.W.keepIn K (.ref f5) = true)
    {f6 : Addr} {od6 an6 : Option Addr} {sl6 : Array (Option Value)} {oc6 kV6 dc6 pm6 cd6 ct6 : Value}
    (a6 : PySem.W.nsIn K mainGlobals "cells_in" = some (some (.ref f6)))
    (l6 : K.lookup f6 = some ⟨oc6, od6, .func (PySem.W.fnOf "cells_in" "cells_in" (defArgs s_cells_in) (defBody s_cells_in) (defScope s_cells_in) .none kV6 dc6 pm6 an6 cd6 ct6), sl6⟩)
    (c6 : PySem.W.codeIn K cd6 "cells_in" = true)
    (k6 : PySem.W.keepIn K (.ref f6) = true)
    {f7 : Addr} {od7 an7 : Option Addr} {sl7 : Array (Option Value)} {oc7 kV7 dc7 pm7 cd7 ct7 : Value}
    (a7 : PySem.W.nsIn K mainGlobals "has_parts" = some (some (.ref f7)))
    (l7 : K.lookup f7 = some ⟨oc7, od7, .func (PySem.W.fnOf "has_parts" "has_parts" (defArgs s_has_parts) (defBody s_has_parts) (defScope s_has_parts) .none kV7 dc7 pm7 an7 cd7 ct7), sl7⟩)
    (c7 : PySem.W.codeIn K cd7 "has_parts" = true)
    (k7 : PySem.W.keepIn K (.ref f7) = true)
    {f8 : Addr} {od8 an8 : Option Addr} {sl8 : Array (Option Value)} {oc8 kV8 dc8 pm8 cd8 ct8 : Value}
    (a8 : PySem.W.nsIn K mainGlobals "is_harm" = some (some (.ref f8)))
    (l8 : K.lookup f8 = some ⟨oc8, od8, .func (PySem.W.fnOf "is_harm" "is_harm" (defArgs s_is_harm) (defBody s_is_harm) (defScope s_is_harm) .none kV8 dc8 pm8 an8 cd8 ct8), sl8⟩)
    (c8 : PySem.W.codeIn K cd8 "is_harm" = true)
    (k8 : PySem.W.keepIn K (.ref f8) = true)
    {f9 : Addr} {od9 an9 : Option Addr} {sl9 : Array (Option Value)} {oc9 kV9 dc9 pm9 cd9 ct9 : Value}
    (a9 : PySem.W.nsIn K mainGlobals "look_at_harms" = some (some (.ref f9)))
    (l9 : K.lookup f9 = some ⟨oc9, od9, .func (PySem.W.fnOf "look_at_harms" "look_at_harms" (defArgs s_look_at_harms) (defBody s_look_at_harms) (defScope s_look_at_harms) .none kV9 dc9 pm9 an9 cd9 ct9), sl9⟩)
    (c9 : PySem.W.codeIn K cd9 "look_at_harms" = true)
    (k9 : PySem.W.keepIn K (.ref f9) = true)
    {f10 : Addr} {od10 an10 : Option Addr} {sl10 : Array (Option Value)} {oc10 kV10 dc10 pm10 cd10 ct10 : Value}
    (a10 : PySem.W.nsIn K mainGlobals "cells_of" = some (some (.ref f10)))
    (l10 : K.lookup f10 = some ⟨oc10, od10, .func (PySem.W.fnOf "cells_of" "cells_of" (defArgs s_cells_of) (defBody s_cells_of) (defScope s_cells_of) .none kV10 dc10 pm10 an10 cd10 ct10), sl10⟩)
    (c10 : PySem.W.codeIn K cd10 "cells_of" = true)
    (k10 : PySem.W.keepIn K (.ref f10) = true)
    {f11 : Addr} {od11 an11 : Option Addr} {sl11 : Array (Option Value)} {oc11 kV11 dc11 pm11 cd11 ct11 : Value}
    (a11 : PySem.W.nsIn K mainGlobals "stuck_bit" = some (some (.ref f11)))
    (l11 : K.lookup f11 = some ⟨oc11, od11, .func (PySem.W.fnOf "stuck_bit" "stuck_bit" (defArgs s_stuck_bit) (defBody s_stuck_bit) (defScope s_stuck_bit) .none kV11 dc11 pm11 an11 cd11 ct11), sl11⟩)
    (c11 : PySem.W.codeIn K cd11 "stuck_bit" = true)
    (k11 : PySem.W.keepIn K (.ref f11) = true)
    {f12 : Addr} {od12 an12 : Option Addr} {sl12 : Array (Option Value)} {oc12 kV12 dc12 pm12 cd12 ct12 : Value}
    (a12 : PySem.W.nsIn K mainGlobals "put" = some (some (.ref f12)))
    (l12 : K.lookup f12 = some ⟨oc12, od12, .func (PySem.W.fnOf "put" "put" (defArgs s_put) (defBody s_put) (defScope s_put) .none kV12 dc12 pm12 an12 cd12 ct12), sl12⟩)
    (c12 : PySem.W.codeIn K cd12 "put" = true)
    (k12 : PySem.W.keepIn K (.ref f12) = true)
    {f13 : Addr} {od13 an13 : Option Addr} {sl13 : Array (Option Value)} {oc13 kV13 dc13 pm13 cd13 ct13 : Value}
    (a13 : PySem.W.nsIn K mainGlobals "settle" = some (some (.ref f13)))
    (l13 : K.lookup f13 = some ⟨oc13, od13, .func (PySem.W.fnOf "settle" "settle" (defArgs s_settle) (defBody s_settle) (defScope s_settle) .none kV13 dc13 pm13 an13 cd13 ct13), sl13⟩)
    (c13 : PySem.W.codeIn K cd13 "settle" = true)
    (k13 : PySem.W.keepIn K (.ref f13) = true)
    {f14 : Addr} {od14 an14 : Option Addr} {sl14 : Array (Option Value)} {oc14 kV14 dc14 pm14 cd14 ct14 : Value}
    (a14 : PySem.W.nsIn K mainGlobals "harm_of_address" = some (some (.ref f14)))
    (l14 : K.lookup f14 = some ⟨oc14, od14, .func (PySem.W.fnOf "harm_of_address" "harm_of_address" (defArgs s_harm_of_address) (defBody s_harm_of_address) (defScope s_harm_of_address) .none kV14 dc14 pm14 an14 cd14 ct14), sl14⟩)
    (c14 : PySem.W.codeIn K cd14 "harm_of_address" = true)
    (k14 : PySem.W.keepIn K (.ref f14) = true)
    {f15 : Addr} {od15 an15 : Option Addr} {sl15 : Array (Option Value)} {oc15 kV15 dc15 pm15 cd15 ct15 : Value}
    (a15 : PySem.W.nsIn K mainGlobals "reached_cells" = some (some (.ref f15)))
    (l15 : K.lookup f15 = some ⟨oc15, od15, .func (PySem.W.fnOf "reached_cells" "reached_cells" (defArgs s_reached_cells) (defBody s_reached_cells) (defScope s_reached_cells) .none kV15 dc15 pm15 an15 cd15 ct15), sl15⟩)
    (c15 : PySem.W.codeIn K cd15 "reached_cells" = true)
    (k15 : PySem.W.keepIn K (.ref f15) = true)
    {f16 : Addr} {od16 an16 : Option Addr} {sl16 : Array (Option Value)} {oc16 kV16 dc16 pm16 cd16 ct16 : Value}
    (a16 : PySem.W.nsIn K mainGlobals "read_cell" = some (some (.ref f16)))
    (l16 : K.lookup f16 = some ⟨oc16, od16, .func (PySem.W.fnOf "read_cell" "read_cell" (defArgs s_read_cell) (defBody s_read_cell) (defScope s_read_cell) .none kV16 dc16 pm16 an16 cd16 ct16), sl16⟩)
    (c16 : PySem.W.codeIn K cd16 "read_cell" = true)
    (k16 : PySem.W.keepIn K (.ref f16) = true)
    {f17 : Addr} {od17 an17 : Option Addr} {sl17 : Array (Option Value)} {oc17 kV17 dc17 pm17 cd17 ct17 : Value}
    (a17 : PySem.W.nsIn K mainGlobals "read_at" = some (some (.ref f17)))
    (l17 : K.lookup f17 = some ⟨oc17, od17, .func (PySem.W.fnOf "read_at" "read_at" (defArgs s_read_at) (defBody s_read_at) (defScope s_read_at) .none kV17 dc17 pm17 an17 cd17 ct17), sl17⟩)
    (c17 : PySem.W.codeIn K cd17 "read_at" = true)
    (k17 : PySem.W.keepIn K (.ref f17) = true)
    {f18 : Addr} {od18 an18 : Option Addr} {sl18 : Array (Option Value)} {oc18 kV18 dc18 pm18 cd18 ct18 : Value}
    (a18 : PySem.W.nsIn K mainGlobals "is_slow" = some (some (.ref f18)))
    (l18 : K.lookup f18 = some ⟨oc18, od18, .func (PySem.W.fnOf "is_slow" "is_slow" (defArgs s_is_slow) (defBody s_is_slow) (defScope s_is_slow) .none kV18 dc18 pm18 an18 cd18 ct18), sl18⟩)
    (c18 : PySem.W.codeIn K cd18 "is_slow" = true)
    (k18 : PySem.W.keepIn K (.ref f18) = true)
    {f19 : Addr} {od19 an19 : Option Addr} {sl19 : Array (Option Value)} {oc19 kV19 dc19 pm19 cd19 ct19 : Value}
    (a19 : PySem.W.nsIn K mainGlobals "kept_bit" = some (some (.ref f19)))
    (l19 : K.lookup f19 = some ⟨oc19, od19, .func (PySem.W.fnOf "kept_bit" "kept_bit" (defArgs s_kept_bit) (defBody s_kept_bit) (defScope s_kept_bit) .none kV19 dc19 pm19 an19 cd19 ct19), sl19⟩)
    (c19 : PySem.W.codeIn K cd19 "kept_bit" = true)
    (k19 : PySem.W.keepIn K (.ref f19) = true)
    {f20 : Addr} {od20 an20 : Option Addr} {sl20 : Array (Option Value)} {oc20 kV20 dc20 pm20 cd20 ct20 : Value}
    (a20 : PySem.W.nsIn K mainGlobals "act_on_others" = some (some (.ref f20)))
    (l20 : K.lookup f20 = some ⟨oc20, od20, .func (PySem.W.fnOf "act_on_others" "act_on_others" (defArgs s_act_on_others) (defBody s_act_on_others) (defScope s_act_on_others) .none kV20 dc20 pm20 an20 cd20 ct20), sl20⟩)
    (c20 : PySem.W.codeIn K cd20 "act_on_others" = true)
    (k20 : PySem.W.keepIn K (.ref f20) = true)
    {f21 : Addr} {od21 an21 : Option Addr} {sl21 : Array (Option Value)} {oc21 kV21 dc21 pm21 cd21 ct21 : Value}
    (a21 : PySem.W.nsIn K mainGlobals "write_cell" = some (some (.ref f21)))
    (l21 : K.lookup f21 = some ⟨oc21, od21, .func (PySem.W.fnOf "write_cell" "write_cell" (defArgs s_write_cell) (defBody s_write_cell) (defScope s_write_cell) .none kV21 dc21 pm21 an21 cd21 ct21), sl21⟩)
    (c21 : PySem.W.codeIn K cd21 "write_cell" = true)
    (k21 : PySem.W.keepIn K (.ref f21) = true)
    {f22 : Addr} {od22 an22 : Option Addr} {sl22 : Array (Option Value)} {oc22 kV22 dc22 pm22 cd22 ct22 : Value}
    (a22 : PySem.W.nsIn K mainGlobals "write_at" = some (some (.ref f22)))
    (l22 : K.lookup f22 = some ⟨oc22, od22, .func (PySem.W.fnOf "write_at" "write_at" (defArgs s_write_at) (defBody s_write_at) (defScope s_write_at) .none kV22 dc22 pm22 an22 cd22 ct22), sl22⟩)
    (c22 : PySem.W.codeIn K cd22 "write_at" = true)
    (k22 : PySem.W.keepIn K (.ref f22) = true)
    {f23 : Addr} {od23 an23 : Option Addr} {sl23 : Array (Option Value)} {oc23 kV23 dc23 pm23 cd23 ct23 : Value}
    (a23 : PySem.W.nsIn K mainGlobals "is_size" = some (some (.ref f23)))
    (l23 : K.lookup f23 = some ⟨oc23, od23, .func (PySem.W.fnOf "is_size" "is_size" (defArgs s_is_size) (defBody s_is_size) (defScope s_is_size) .none kV23 dc23 pm23 an23 cd23 ct23), sl23⟩)
    (c23 : PySem.W.codeIn K cd23 "is_size" = true)
    (k23 : PySem.W.keepIn K (.ref f23) = true)
    {f24 : Addr} {od24 an24 : Option Addr} {sl24 : Array (Option Value)} {oc24 kV24 dc24 pm24 cd24 ct24 : Value}
    (a24 : PySem.W.nsIn K mainGlobals "are_contents" = some (some (.ref f24)))
    (l24 : K.lookup f24 = some ⟨oc24, od24, .func (PySem.W.fnOf "are_contents" "are_contents" (defArgs s_are_contents) (defBody s_are_contents) (defScope s_are_contents) .none kV24 dc24 pm24 an24 cd24 ct24), sl24⟩)
    (c24 : PySem.W.codeIn K cd24 "are_contents" = true)
    (k24 : PySem.W.keepIn K (.ref f24) = true)
    {f25 : Addr} {od25 an25 : Option Addr} {sl25 : Array (Option Value)} {oc25 kV25 dc25 pm25 cd25 ct25 : Value}
    (a25 : PySem.W.nsIn K mainGlobals "look_at_memory" = some (some (.ref f25)))
    (l25 : K.lookup f25 = some ⟨oc25, od25, .func (PySem.W.fnOf "look_at_memory" "look_at_memory" (defArgs s_look_at_memory) (defBody s_look_at_memory) (defScope s_look_at_memory) .none kV25 dc25 pm25 an25 cd25 ct25), sl25⟩)
    (c25 : PySem.W.codeIn K cd25 "look_at_memory" = true)
    (k25 : PySem.W.keepIn K (.ref f25) = true)
    {f26 : Addr} {od26 an26 : Option Addr} {sl26 : Array (Option Value)} {oc26 kV26 dc26 pm26 cd26 ct26 : Value}
    (a26 : PySem.W.nsIn K mainGlobals "look_at_bit" = some (some (.ref f26)))
    (l26 : K.lookup f26 = some ⟨oc26, od26, .func (PySem.W.fnOf "look_at_bit" "look_at_bit" (defArgs s_look_at_bit) (defBody s_look_at_bit) (defScope s_look_at_bit) .none kV26 dc26 pm26 an26 cd26 ct26), sl26⟩)
    (c26 : PySem.W.codeIn K cd26 "look_at_bit" = true)
    (k26 : PySem.W.keepIn K (.ref f26) = true)
    {f27 : Addr} {od27 an27 : Option Addr} {sl27 : Array (Option Value)} {oc27 kV27 dc27 pm27 cd27 ct27 : Value}
    (a27 : PySem.W.nsIn K mainGlobals "is_count" = some (some (.ref f27)))
    (l27 : K.lookup f27 = some ⟨oc27, od27, .func (PySem.W.fnOf "is_count" "is_count" (defArgs s_is_count) (defBody s_is_count) (defScope s_is_count) .none kV27 dc27 pm27 an27 cd27 ct27), sl27⟩)
    (c27 : PySem.W.codeIn K cd27 "is_count" = true)
    (k27 : PySem.W.keepIn K (.ref f27) = true)
    {f28 : Addr} {od28 an28 : Option Addr} {sl28 : Array (Option Value)} {oc28 kV28 dc28 pm28 cd28 ct28 : Value}
    (a28 : PySem.W.nsIn K mainGlobals "are_spares" = some (some (.ref f28)))
    (l28 : K.lookup f28 = some ⟨oc28, od28, .func (PySem.W.fnOf "are_spares" "are_spares" (defArgs s_are_spares) (defBody s_are_spares) (defScope s_are_spares) .none kV28 dc28 pm28 an28 cd28 ct28), sl28⟩)
    (c28 : PySem.W.codeIn K cd28 "are_spares" = true)
    (k28 : PySem.W.keepIn K (.ref f28) = true)
    {f29 : Addr} {od29 an29 : Option Addr} {sl29 : Array (Option Value)} {oc29 kV29 dc29 pm29 cd29 ct29 : Value}
    (a29 : PySem.W.nsIn K mainGlobals "look_at_counts" = some (some (.ref f29)))
    (l29 : K.lookup f29 = some ⟨oc29, od29, .func (PySem.W.fnOf "look_at_counts" "look_at_counts" (defArgs s_look_at_counts) (defBody s_look_at_counts) (defScope s_look_at_counts) .none kV29 dc29 pm29 an29 cd29 ct29), sl29⟩)
    (c29 : PySem.W.codeIn K cd29 "look_at_counts" = true)
    (k29 : PySem.W.keepIn K (.ref f29) = true)
    {f30 : Addr} {od30 an30 : Option Addr} {sl30 : Array (Option Value)} {oc30 kV30 dc30 pm30 cd30 ct30 : Value}
    (a30 : PySem.W.nsIn K mainGlobals "look_at_spares" = some (some (.ref f30)))
    (l30 : K.lookup f30 = some ⟨oc30, od30, .func (PySem.W.fnOf "look_at_spares" "look_at_spares" (defArgs s_look_at_spares) (defBody s_look_at_spares) (defScope s_look_at_spares) .none kV30 dc30 pm30 an30 cd30 ct30), sl30⟩)
    (c30 : PySem.W.codeIn K cd30 "look_at_spares" = true)
    (k30 : PySem.W.keepIn K (.ref f30) = true)
    {f31 : Addr} {od31 an31 : Option Addr} {sl31 : Array (Option Value)} {oc31 kV31 dc31 pm31 cd31 ct31 : Value}
    (a31 : PySem.W.nsIn K mainGlobals "_law_digits" = some (some (.ref f31)))
    (l31 : K.lookup f31 = some ⟨oc31, od31, .func (PySem.W.fnOf "_law_digits" "_law_digits" (defArgs s__law_digits) (defBody s__law_digits) (defScope s__law_digits) .none kV31 dc31 pm31 an31 cd31 ct31), sl31⟩)
    (c31 : PySem.W.codeIn K cd31 "_law_digits" = true)
    (k31 : PySem.W.keepIn K (.ref f31) = true)
    {f32 : Addr} {od32 an32 : Option Addr} {sl32 : Array (Option Value)} {oc32 kV32 dc32 pm32 cd32 ct32 : Value}
    (a32 : PySem.W.nsIn K mainGlobals "_law_harm" = some (some (.ref f32)))
    (l32 : K.lookup f32 = some ⟨oc32, od32, .func (PySem.W.fnOf "_law_harm" "_law_harm" (defArgs s__law_harm) (defBody s__law_harm) (defScope s__law_harm) .none kV32 dc32 pm32 an32 cd32 ct32), sl32⟩)
    (c32 : PySem.W.codeIn K cd32 "_law_harm" = true)
    (k32 : PySem.W.keepIn K (.ref f32) = true)
    {f33 : Addr} {od33 an33 : Option Addr} {sl33 : Array (Option Value)} {oc33 kV33 dc33 pm33 cd33 ct33 : Value}
    (a33 : PySem.W.nsIn K mainGlobals "_law_cells" = some (some (.ref f33)))
    (l33 : K.lookup f33 = some ⟨oc33, od33, .func (PySem.W.fnOf "_law_cells" "_law_cells" (defArgs s__law_cells) (defBody s__law_cells) (defScope s__law_cells) .none kV33 dc33 pm33 an33 cd33 ct33), sl33⟩)
    (c33 : PySem.W.codeIn K cd33 "_law_cells" = true)
    (k33 : PySem.W.keepIn K (.ref f33) = true)
    {f34 : Addr} {od34 an34 : Option Addr} {sl34 : Array (Option Value)} {oc34 kV34 dc34 pm34 cd34 ct34 : Value}
    (a34 : PySem.W.nsIn K mainGlobals "_law_harms" = some (some (.ref f34)))
    (l34 : K.lookup f34 = some ⟨oc34, od34, .func (PySem.W.fnOf "_law_harms" "_law_harms" (defArgs s__law_harms) (defBody s__law_harms) (defScope s__law_harms) .none kV34 dc34 pm34 an34 cd34 ct34), sl34⟩)
    (c34 : PySem.W.codeIn K cd34 "_law_harms" = true)
    (k34 : PySem.W.keepIn K (.ref f34) = true)
    {f35 : Addr} {od35 an35 : Option Addr} {sl35 : Array (Option Value)} {oc35 kV35 dc35 pm35 cd35 ct35 : Value}
    (a35 : PySem.W.nsIn K mainGlobals "_law_bits" = some (some (.ref f35)))
    (l35 : K.lookup f35 = some ⟨oc35, od35, .func (PySem.W.fnOf "_law_bits" "_law_bits" (defArgs s__law_bits) (defBody s__law_bits) (defScope s__law_bits) .none kV35 dc35 pm35 an35 cd35 ct35), sl35⟩)
    (c35 : PySem.W.codeIn K cd35 "_law_bits" = true)
    (k35 : PySem.W.keepIn K (.ref f35) = true)
    {f36 : Addr} {od36 an36 : Option Addr} {sl36 : Array (Option Value)} {oc36 kV36 dc36 pm36 cd36 ct36 : Value}
    (a36 : PySem.W.nsIn K mainGlobals "_law_spared" = some (some (.ref f36)))
    (l36 : K.lookup f36 = some ⟨oc36, od36, .func (PySem.W.fnOf "_law_spared" "_law_spared" (defArgs s__law_spared) (defBody s__law_spared) (defScope s__law_spared) .none kV36 dc36 pm36 an36 cd36 ct36), sl36⟩)
    (c36 : PySem.W.codeIn K cd36 "_law_spared" = true)
    (k36 : PySem.W.keepIn K (.ref f36) = true)
    {f37 : Addr} {od37 an37 : Option Addr} {sl37 : Array (Option Value)} {oc37 kV37 dc37 pm37 cd37 ct37 : Value}
    (a37 : PySem.W.nsIn K mainGlobals "_law_is_bit" = some (some (.ref f37)))
    (l37 : K.lookup f37 = some ⟨oc37, od37, .func (PySem.W.fnOf "_law_is_bit" "_law_is_bit" (defArgs s__law_is_bit) (defBody s__law_is_bit) (defScope s__law_is_bit) .none kV37 dc37 pm37 an37 cd37 ct37), sl37⟩)
    (c37 : PySem.W.codeIn K cd37 "_law_is_bit" = true)
    (k37 : PySem.W.keepIn K (.ref f37) = true)
    {f38 : Addr} {od38 an38 : Option Addr} {sl38 : Array (Option Value)} {oc38 kV38 dc38 pm38 cd38 ct38 : Value}
    (a38 : PySem.W.nsIn K mainGlobals "_law_held" = some (some (.ref f38)))
    (l38 : K.lookup f38 = some ⟨oc38, od38, .func (PySem.W.fnOf "_law_held" "_law_held" (defArgs s__law_held) (defBody s__law_held) (defScope s__law_held) .none kV38 dc38 pm38 an38 cd38 ct38), sl38⟩)
    (c38 : PySem.W.codeIn K cd38 "_law_held" = true)
    (k38 : PySem.W.keepIn K (.ref f38) = true)
    {f39 : Addr} {od39 an39 : Option Addr} {sl39 : Array (Option Value)} {oc39 kV39 dc39 pm39 cd39 ct39 : Value}
    (a39 : PySem.W.nsIn K mainGlobals "_law_done" = some (some (.ref f39)))
    (l39 : K.lookup f39 = some ⟨oc39, od39, .func (PySem.W.fnOf "_law_done" "_law_done" (defArgs s__law_done) (defBody s__law_done) (defScope s__law_done) .none kV39 dc39 pm39 an39 cd39 ct39), sl39⟩)
    (c39 : PySem.W.codeIn K cd39 "_law_done" = true)
    (k39 : PySem.W.keepIn K (.ref f39) = true)
    {f40 : Addr} {od40 an40 : Option Addr} {sl40 : Array (Option Value)} {oc40 kV40 dc40 pm40 cd40 ct40 : Value}
    (a40 : PySem.W.nsIn K mainGlobals "_law_right" = some (some (.ref f40)))
    (l40 : K.lookup f40 = some ⟨oc40, od40, .func (PySem.W.fnOf "_law_right" "_law_right" (defArgs s__law_right) (defBody s__law_right) (defScope s__law_right) .none kV40 dc40 pm40 an40 cd40 ct40), sl40⟩)
    (c40 : PySem.W.codeIn K cd40 "_law_right" = true)
    (k40 : PySem.W.keepIn K (.ref f40) = true)
    {f41 : Addr} {od41 an41 : Option Addr} {sl41 : Array (Option Value)} {oc41 kV41 dc41 pm41 cd41 ct41 : Value}
    (a41 : PySem.W.nsIn K mainGlobals "law" = some (some (.ref f41)))
    (l41 : K.lookup f41 = some ⟨oc41, od41, .func (PySem.W.fnOf "law" "law" (defArgs s_law) (defBody s_law) (defScope s_law) .none kV41 dc41 pm41 an41 cd41 ct41), sl41⟩)
    (c41 : PySem.W.codeIn K cd41 "law" = true)
    (k41 : PySem.W.keepIn K (.ref f41) = true)
    (z0 : PySem.W.nsIn K mainGlobals "len" = some none)
    (z1 : PySem.W.nsIn K mainGlobals "abs" = some none)
    (z2 : PySem.W.nsIn K mainGlobals "max" = some none)
    (z3 : PySem.W.nsIn K mainGlobals "min" = some none)
    (z4 : PySem.W.nsIn K mainGlobals "repr" = some none)
    (z5 : PySem.W.nsIn K mainGlobals "isinstance" = some none)
    (z6 : PySem.W.nsIn K mainGlobals "int" = some none)
    (z7 : PySem.W.nsIn K mainGlobals "bool" = some none)
    (z8 : PySem.W.nsIn K mainGlobals "str" = some none)
    (z9 : PySem.W.nsIn K mainGlobals "tuple" = some none)
    (z10 : PySem.W.nsIn K mainGlobals "list" = some none)
    (z11 : PySem.W.nsIn K mainGlobals "dict" = some none)
    (z12 : PySem.W.nsIn K mainGlobals "range" = some none)
    (z13 : PySem.W.nsIn K mainGlobals "enumerate" = some none)
    (z14 : PySem.W.nsIn K mainGlobals "sorted" = some none)
    (z15 : PySem.W.nsIn K mainGlobals "sum" = some none)
    (zset : PySem.W.nsIn K mainGlobals "set" = some none)
    (zzip : PySem.W.nsIn K mainGlobals "zip" = some none)
    (zall : PySem.W.nsIn K mainGlobals "all" = some none)
    {w1 w2 w3 : Tok}
    (aMC : PySem.W.nsIn K mainGlobals "MOST_CELLS" = some (some (.int 64 w1)))
    (aMH : PySem.W.nsIn K mainGlobals "MOST_HARMS" = some (some (.int 3 w2)))
    (aMU : PySem.W.nsIn K mainGlobals "MOST_UNLIKE" = some (some (.int 3 w3)))
    {tJ : Addr} {uj1 uj2 : Tok} {odJ : Option Addr} {nJ : Nat} {slJ : Array (Option Value)}
    (aJ : PySem.W.nsIn K mainGlobals "JOININGS" = some (some (.ref tJ)))
    (lJ : K.lookup tJ = some ⟨.type "tuple", odJ, .seq #[.str "and" uj1, .str "or" uj2] nJ, slJ⟩)
    {tP qp0 qp1 qp2 qp3 qp4 qp5 qp6 qp7 qp8 qp9 : Addr} {xp0 xp1 xp2 xp3 xp4 xp5 xp6 xp7 xp8 xp9 : Int} {kp0 kp1 kp2 kp3 kp4 kp5 kp6 kp7 kp8 kp9 : Tok} {epP : Nat}
    (aP : PySem.W.nsIn K mainGlobals "PARTS" = some (some (.ref tP)))
    (lP : K.lookup tP = some ⟨.type "dict", none, .dict #[⟨xp0, .str "stuck" kp0, .ref qp0⟩, ⟨xp1, .str "slow" kp1, .ref qp1⟩, ⟨xp2, .str "forgets" kp2, .ref qp2⟩, ⟨xp3, .str "misreads" kp3, .ref qp3⟩, ⟨xp4, .str "turns" kp4, .ref qp4⟩, ⟨xp5, .str "sets" kp5, .ref qp5⟩, ⟨xp6, .str "keeps" kp6, .ref qp6⟩, ⟨xp7, .str "nowhere" kp7, .ref qp7⟩, ⟨xp8, .str "other" kp8, .ref qp8⟩, ⟨xp9, .str "both" kp9, .ref qp9⟩] epP, #[]⟩)
    (mP : (tP == sysModules) = false)
    {oqp0 : Option Addr} {yp0_0 yp0_1 : Tok} {mp0 : Nat} {sqp0 : Array (Option Value)}
    (tp0 : K.lookup qp0 = some ⟨.type "tuple", oqp0, .seq #[.str "cell" yp0_0, .str "bit" yp0_1] mp0, sqp0⟩)
    {oqp1 : Option Addr} {yp1_0 yp1_1 : Tok} {mp1 : Nat} {sqp1 : Array (Option Value)}
    (tp1 : K.lookup qp1 = some ⟨.type "tuple", oqp1, .seq #[.str "cell" yp1_0, .str "bit" yp1_1] mp1, sqp1⟩)
    {oqp2 : Option Addr} {yp2_0 yp2_1 : Tok} {mp2 : Nat} {sqp2 : Array (Option Value)}
    (tp2 : K.lookup qp2 = some ⟨.type "tuple", oqp2, .seq #[.str "cell" yp2_0, .str "bit" yp2_1] mp2, sqp2⟩)
    {oqp3 : Option Addr} {yp3_0 yp3_1 : Tok} {mp3 : Nat} {sqp3 : Array (Option Value)}
    (tp3 : K.lookup qp3 = some ⟨.type "tuple", oqp3, .seq #[.str "cell" yp3_0, .str "bit" yp3_1] mp3, sqp3⟩)
    {oqp4 : Option Addr} {yp4_0 yp4_1 yp4_2 : Tok} {mp4 : Nat} {sqp4 : Array (Option Value)}
    (tp4 : K.lookup qp4 = some ⟨.type "tuple", oqp4, .seq #[.str "cell" yp4_0, .str "cell" yp4_1, .str "bit" yp4_2] mp4, sqp4⟩)
    {oqp5 : Option Addr} {yp5_0 yp5_1 yp5_2 yp5_3 : Tok} {mp5 : Nat} {sqp5 : Array (Option Value)}
    (tp5 : K.lookup qp5 = some ⟨.type "tuple", oqp5, .seq #[.str "cell" yp5_0, .str "cell" yp5_1, .str "bit" yp5_2, .str "bit" yp5_3] mp5, sqp5⟩)
    {oqp6 : Option Addr} {yp6_0 yp6_1 yp6_2 yp6_3 : Tok} {mp6 : Nat} {sqp6 : Array (Option Value)}
    (tp6 : K.lookup qp6 = some ⟨.type "tuple", oqp6, .seq #[.str "cell" yp6_0, .str "cell" yp6_1, .str "bit" yp6_2, .str "bit" yp6_3] mp6, sqp6⟩)
    {oqp7 : Option Addr} {yp7_0 yp7_1 : Tok} {mp7 : Nat} {sqp7 : Array (Option Value)}
    (tp7 : K.lookup qp7 = some ⟨.type "tuple", oqp7, .seq #[.str "cell" yp7_0, .str "bit" yp7_1] mp7, sqp7⟩)
    {oqp8 : Option Addr} {yp8_0 yp8_1 : Tok} {mp8 : Nat} {sqp8 : Array (Option Value)}
    (tp8 : K.lookup qp8 = some ⟨.type "tuple", oqp8, .seq #[.str "cell" yp8_0, .str "cell" yp8_1] mp8, sqp8⟩)
    {oqp9 : Option Addr} {yp9_0 yp9_1 yp9_2 : Tok} {mp9 : Nat} {sqp9 : Array (Option Value)}
    (tp9 : K.lookup qp9 = some ⟨.type "tuple", oqp9, .seq #[.str "cell" yp9_0, .str "cell" yp9_1, .str "how" yp9_2] mp9, sqp9⟩)
    {w4 : Tok}
    (aMR : PySem.W.nsIn K mainGlobals "MOST_ROWS" = some (some (.int 8 w4)))
    {C0 : Addr}
    (ca0 : PySem.W.nsIn K mainGlobals "Memory" = some (some (.ref C0)))
    (cp0 : PySem.W.plainGet K C0 Str.empty = true)
    (cd0_ : PySem.W.hasDictIn K C0 = true)
    (co0 : PySem.W.plainOver K C0 = true)
    (cs0 : PySem.W.findIn K (.ref C0) "__setattr__" = some (some (.builtin "object.__setattr__")))
    (cf0_0 : PySem.W.findIn K (.ref C0) "harms" = some none)
    (cf0_1 : PySem.W.findIn K (.ref C0) "cells" = some none)
    (cm0_ : PySem.W.makesIn K C0 = true)
    (ck0 : PySem.W.keepIn K (.ref C0) = true)
    {fm0_0 : Addr} {odm0_0 anm0_0 : Option Addr} {slm0_0 : Array (Option Value)} {ocm0_0 kVm0_0 dcm0_0 pmm0_0 cdm0_0 ctm0_0 : Value}
    (am0_0 : PySem.W.findIn K (.ref C0) "__init__" = some (some (.ref fm0_0)))
    (lm0_0 : K.lookup fm0_0 = some ⟨ocm0_0, odm0_0, .func (PySem.W.fnOf "__init__" "Memory.__init__" (defArgs s_Memory___init__) (defBody s_Memory___init__) (defScope s_Memory___init__) .none kVm0_0 dcm0_0 pmm0_0 anm0_0 cdm0_0 ctm0_0), slm0_0⟩)
    (cm0_0 : PySem.W.codeIn K cdm0_0 "Memory.__init__" = true)
    (im0_0 : PySem.W.isFn K (.ref fm0_0) = true)
    (km0_0 : PySem.W.keepIn K (.ref fm0_0) = true)
    {fm0_1 : Addr} {odm0_1 anm0_1 : Option Addr} {slm0_1 : Array (Option Value)} {ocm0_1 kVm0_1 dcm0_1 pmm0_1 cdm0_1 ctm0_1 : Value}
    (am0_1 : PySem.W.findIn K (.ref C0) "look_at_address" = some (some (.ref fm0_1)))
    (lm0_1 : K.lookup fm0_1 = some ⟨ocm0_1, odm0_1, .func (PySem.W.fnOf "look_at_address" "Memory.look_at_address" (defArgs s_Memory_look_at_address) (defBody s_Memory_look_at_address) (defScope s_Memory_look_at_address) .none kVm0_1 dcm0_1 pmm0_1 anm0_1 cdm0_1 ctm0_1), slm0_1⟩)
    (cm0_1 : PySem.W.codeIn K cdm0_1 "Memory.look_at_address" = true)
    (im0_1 : PySem.W.isFn K (.ref fm0_1) = true)
    (km0_1 : PySem.W.keepIn K (.ref fm0_1) = true)
    {fm0_2 : Addr} {odm0_2 anm0_2 : Option Addr} {slm0_2 : Array (Option Value)} {ocm0_2 kVm0_2 dcm0_2 pmm0_2 cdm0_2 ctm0_2 : Value}
    (am0_2 : PySem.W.findIn K (.ref C0) "read" = some (some (.ref fm0_2)))
    (lm0_2 : K.lookup fm0_2 = some ⟨ocm0_2, odm0_2, .func (PySem.W.fnOf "read" "Memory.read" (defArgs s_Memory_read) (defBody s_Memory_read) (defScope s_Memory_read) .none kVm0_2 dcm0_2 pmm0_2 anm0_2 cdm0_2 ctm0_2), slm0_2⟩)
    (cm0_2 : PySem.W.codeIn K cdm0_2 "Memory.read" = true)
    (im0_2 : PySem.W.isFn K (.ref fm0_2) = true)
    (km0_2 : PySem.W.keepIn K (.ref fm0_2) = true)
    {fm0_3 : Addr} {odm0_3 anm0_3 : Option Addr} {slm0_3 : Array (Option Value)} {ocm0_3 kVm0_3 dcm0_3 pmm0_3 cdm0_3 ctm0_3 : Value}
    (am0_3 : PySem.W.findIn K (.ref C0) "write" = some (some (.ref fm0_3)))
    (lm0_3 : K.lookup fm0_3 = some ⟨ocm0_3, odm0_3, .func (PySem.W.fnOf "write" "Memory.write" (defArgs s_Memory_write) (defBody s_Memory_write) (defScope s_Memory_write) .none kVm0_3 dcm0_3 pmm0_3 anm0_3 cdm0_3 ctm0_3), slm0_3⟩)
    (cm0_3 : PySem.W.codeIn K cdm0_3 "Memory.write" = true)
    (im0_3 : PySem.W.isFn K (.ref fm0_3) = true)
    (km0_3 : PySem.W.keepIn K (.ref fm0_3) = true)
    {fm0_4 : Addr} {odm0_4 anm0_4 : Option Addr} {slm0_4 : Array (Option Value)} {ocm0_4 kVm0_4 dcm0_4 pmm0_4 cdm0_4 ctm0_4 : Value}
    (am0_4 : PySem.W.findIn K (.ref C0) "holds" = some (some (.ref fm0_4)))
    (lm0_4 : K.lookup fm0_4 = some ⟨ocm0_4, odm0_4, .func (PySem.W.fnOf "holds" "Memory.holds" (defArgs s_Memory_holds) (defBody s_Memory_holds) (defScope s_Memory_holds) .none kVm0_4 dcm0_4 pmm0_4 anm0_4 cdm0_4 ctm0_4), slm0_4⟩)
    (cm0_4 : PySem.W.codeIn K cdm0_4 "Memory.holds" = true)
    (im0_4 : PySem.W.isFn K (.ref fm0_4) = true)
    (km0_4 : PySem.W.keepIn K (.ref fm0_4) = true)
    {fm0_5 : Addr} {odm0_5 anm0_5 : Option Addr} {slm0_5 : Array (Option Value)} {ocm0_5 kVm0_5 dcm0_5 pmm0_5 cdm0_5 ctm0_5 : Value}
    (am0_5 : PySem.W.findIn K (.ref C0) "size" = some (some (.ref fm0_5)))
    (lm0_5 : K.lookup fm0_5 = some ⟨ocm0_5, odm0_5, .func (PySem.W.fnOf "size" "Memory.size" (defArgs s_Memory_size) (defBody s_Memory_size) (defScope s_Memory_size) .none kVm0_5 dcm0_5 pmm0_5 anm0_5 cdm0_5 ctm0_5), slm0_5⟩)
    (cm0_5 : PySem.W.codeIn K cdm0_5 "Memory.size" = true)
    (im0_5 : PySem.W.isFn K (.ref fm0_5) = true)
    (km0_5 : PySem.W.keepIn K (.ref fm0_5) = true)
    {C1 : Addr}
    (ca1 : PySem.W.nsIn K mainGlobals "Mended" = some (some (.ref C1)))
    (cp1 : PySem.W.plainGet K C1 Str.empty = true)
    (cd1_ : PySem.W.hasDictIn K C1 = true)
    (co1 : PySem.W.plainOver K C1 = true)
    (cs1 : PySem.W.findIn K (.ref C1) "__setattr__" = some (some (.builtin "object.__setattr__")))
    (cf1_0 : PySem.W.findIn K (.ref C1) "harmed" = some none)
    (cf1_1 : PySem.W.findIn K (.ref C1) "spare" = some none)
    (cm1_ : PySem.W.makesIn K C1 = true)
    (ck1 : PySem.W.keepIn K (.ref C1) = true)
    {fm1_0 : Addr} {odm1_0 anm1_0 : Option Addr} {slm1_0 : Array (Option Value)} {ocm1_0 kVm1_0 dcm1_0 pmm1_0 cdm1_0 ctm1_0 : Value}
    (am1_0 : PySem.W.findIn K (.ref C1) "__init__" = some (some (.ref fm1_0)))
    (lm1_0 : K.lookup fm1_0 = some ⟨ocm1_0, odm1_0, .func (PySem.W.fnOf "__init__" "Mended.__init__" (defArgs s_Mended___init__) (defBody s_Mended___init__) (defScope s_Mended___init__) .none kVm1_0 dcm1_0 pmm1_0 anm1_0 cdm1_0 ctm1_0), slm1_0⟩)
    (cm1_0 : PySem.W.codeIn K cdm1_0 "Mended.__init__" = true)
    (im1_0 : PySem.W.isFn K (.ref fm1_0) = true)
    (km1_0 : PySem.W.keepIn K (.ref fm1_0) = true)
    {fm1_1 : Addr} {odm1_1 anm1_1 : Option Addr} {slm1_1 : Array (Option Value)} {ocm1_1 kVm1_1 dcm1_1 pmm1_1 cdm1_1 ctm1_1 : Value}
    (am1_1 : PySem.W.findIn K (.ref C1) "read" = some (some (.ref fm1_1)))
    (lm1_1 : K.lookup fm1_1 = some ⟨ocm1_1, odm1_1, .func (PySem.W.fnOf "read" "Mended.read" (defArgs s_Mended_read) (defBody s_Mended_read) (defScope s_Mended_read) .none kVm1_1 dcm1_1 pmm1_1 anm1_1 cdm1_1 ctm1_1), slm1_1⟩)
    (cm1_1 : PySem.W.codeIn K cdm1_1 "Mended.read" = true)
    (im1_1 : PySem.W.isFn K (.ref fm1_1) = true)
    (km1_1 : PySem.W.keepIn K (.ref fm1_1) = true)
    {fm1_2 : Addr} {odm1_2 anm1_2 : Option Addr} {slm1_2 : Array (Option Value)} {ocm1_2 kVm1_2 dcm1_2 pmm1_2 cdm1_2 ctm1_2 : Value}
    (am1_2 : PySem.W.findIn K (.ref C1) "write" = some (some (.ref fm1_2)))
    (lm1_2 : K.lookup fm1_2 = some ⟨ocm1_2, odm1_2, .func (PySem.W.fnOf "write" "Mended.write" (defArgs s_Mended_write) (defBody s_Mended_write) (defScope s_Mended_write) .none kVm1_2 dcm1_2 pmm1_2 anm1_2 cdm1_2 ctm1_2), slm1_2⟩)
    (cm1_2 : PySem.W.codeIn K cdm1_2 "Mended.write" = true)
    (im1_2 : PySem.W.isFn K (.ref fm1_2) = true)
    (km1_2 : PySem.W.keepIn K (.ref fm1_2) = true)
    {fm1_3 : Addr} {odm1_3 anm1_3 : Option Addr} {slm1_3 : Array (Option Value)} {ocm1_3 kVm1_3 dcm1_3 pmm1_3 cdm1_3 ctm1_3 : Value}
    (am1_3 : PySem.W.findIn K (.ref C1) "holds" = some (some (.ref fm1_3)))
    (lm1_3 : K.lookup fm1_3 = some ⟨ocm1_3, odm1_3, .func (PySem.W.fnOf "holds" "Mended.holds" (defArgs s_Mended_holds) (defBody s_Mended_holds) (defScope s_Mended_holds) .none kVm1_3 dcm1_3 pmm1_3 anm1_3 cdm1_3 ctm1_3), slm1_3⟩)
    (cm1_3 : PySem.W.codeIn K cdm1_3 "Mended.holds" = true)
    (im1_3 : PySem.W.isFn K (.ref fm1_3) = true)
    (km1_3 : PySem.W.keepIn K (.ref fm1_3) = true)
    {fm1_4 : Addr} {odm1_4 anm1_4 : Option Addr} {slm1_4 : Array (Option Value)} {ocm1_4 kVm1_4 dcm1_4 pmm1_4 cdm1_4 ctm1_4 : Value}
    (am1_4 : PySem.W.findIn K (.ref C1) "size" = some (some (.ref fm1_4)))
    (lm1_4 : K.lookup fm1_4 = some ⟨ocm1_4, odm1_4, .func (PySem.W.fnOf "size" "Mended.size" (defArgs s_Mended_size) (defBody s_Mended_size) (defScope s_Mended_size) .none kVm1_4 dcm1_4 pmm1_4 anm1_4 cdm1_4 ctm1_4), slm1_4⟩)
    (cm1_4 : PySem.W.codeIn K cdm1_4 "Mended.size" = true)
    (im1_4 : PySem.W.isFn K (.ref fm1_4) = true)
    (km1_4 : PySem.W.keepIn K (.ref fm1_4) = true) :
    ∃ fd : FuncData, (∀ (s : Shared) (v : Value), BindsTo s fd ⟨[v], []⟩ [("_law_script", v)]) ∧ ∀ base : Heap, K.In base → base.Ns mainGlobals mg → FnOk l.prog w K mg base CX0 14 fa fd ["_law_script"] (sp_law K) := by
  have e := hfa.symm.trans (PySem.W.mg_of X G a41)
  cases e
  have B : Bl mg := ⟨fun x hx => by
    unfold blNames at hx
    simp only [List.mem_cons, List.not_mem_nil, or_false] at hx
    rcases hx with rfl | rfl | rfl | rfl | rfl | rfl | rfl | rfl | rfl | rfl | rfl | rfl | rfl | rfl | rfl | rfl
    · exact PySem.W.mg_none_of X G z0
    · exact PySem.W.mg_none_of X G z1
    · exact PySem.W.mg_none_of X G z2
    · exact PySem.W.mg_none_of X G z3
    · exact PySem.W.mg_none_of X G z4
    · exact PySem.W.mg_none_of X G z5
    · exact PySem.W.mg_none_of X G z6
    · exact PySem.W.mg_none_of X G z7
    · exact PySem.W.mg_none_of X G z8
    · exact PySem.W.mg_none_of X G z9
    · exact PySem.W.mg_none_of X G z10
    · exact PySem.W.mg_none_of X G z11
    · exact PySem.W.mg_none_of X G z12
    · exact PySem.W.mg_none_of X G z13
    · exact PySem.W.mg_none_of X G z14
    · exact PySem.W.mg_none_of X G z15⟩
  have z_set : mg "set" = none := PySem.W.mg_none_of X G zset
  have z_zip : mg "zip" = none := PySem.W.mg_none_of X G zzip
  have z_all : mg "all" = none := PySem.W.mg_none_of X G zall
  have g_MC : ∃ t, mg "MOST_CELLS" = some (.int 64 t) := ⟨_, PySem.W.mg_of X G aMC⟩
  have g_MH : ∃ t, mg "MOST_HARMS" = some (.int 3 t) := ⟨_, PySem.W.mg_of X G aMH⟩
  have g_MU : ∃ t, mg "MOST_UNLIKE" = some (.int 3 t) := ⟨_, PySem.W.mg_of X G aMU⟩
  have g_J : GTup K mg "JOININGS" [.str "and", .str "or"] := gtup_mk (PySem.W.mg_of X G aJ) lJ (by show 2 ≤ sizeLine; decide) (.cons ⟨_, rfl⟩ (.cons ⟨_, rfl⟩ .nil))
  have gP := PySem.W.mg_of X G aP
  have sp0 : ∀ H, SqT K H qp0 [.str "cell", .str "bit"] := sqT_mk tp0 (by show 2 ≤ sizeLine; decide) (.cons ⟨_, rfl⟩ (.cons ⟨_, rfl⟩ .nil))
  have sp1 : ∀ H, SqT K H qp1 [.str "cell", .str "bit"] := sqT_mk tp1 (by show 2 ≤ sizeLine; decide) (.cons ⟨_, rfl⟩ (.cons ⟨_, rfl⟩ .nil))
  have sp2 : ∀ H, SqT K H qp2 [.str "cell", .str "bit"] := sqT_mk tp2 (by show 2 ≤ sizeLine; decide) (.cons ⟨_, rfl⟩ (.cons ⟨_, rfl⟩ .nil))
  have sp3 : ∀ H, SqT K H qp3 [.str "cell", .str "bit"] := sqT_mk tp3 (by show 2 ≤ sizeLine; decide) (.cons ⟨_, rfl⟩ (.cons ⟨_, rfl⟩ .nil))
  have sp4 : ∀ H, SqT K H qp4 [.str "cell", .str "cell", .str "bit"] := sqT_mk tp4 (by show 3 ≤ sizeLine; decide) (.cons ⟨_, rfl⟩ (.cons ⟨_, rfl⟩ (.cons ⟨_, rfl⟩ .nil)))
  have sp5 : ∀ H, SqT K H qp5 [.str "cell", .str "cell", .str "bit", .str "bit"] := sqT_mk tp5 (by show 4 ≤ sizeLine; decide) (.cons ⟨_, rfl⟩ (.cons ⟨_, rfl⟩ (.cons ⟨_, rfl⟩ (.cons ⟨_, rfl⟩ .nil))))
  have sp6 : ∀ H, SqT K H qp6 [.str "cell", .str "cell", .str "bit", .str "bit"] := sqT_mk tp6 (by show 4 ≤ sizeLine; decide) (.cons ⟨_, rfl⟩ (.cons ⟨_, rfl⟩ (.cons ⟨_, rfl⟩ (.cons ⟨_, rfl⟩ .nil))))
  have sp7 : ∀ H, SqT K H qp7 [.str "cell", .str "bit"] := sqT_mk tp7 (by show 2 ≤ sizeLine; decide) (.cons ⟨_, rfl⟩ (.cons ⟨_, rfl⟩ .nil))
  have sp8 : ∀ H, SqT K H qp8 [.str "cell", .str "cell"] := sqT_mk tp8 (by show 2 ≤ sizeLine; decide) (.cons ⟨_, rfl⟩ (.cons ⟨_, rfl⟩ .nil))
  have sp9 : ∀ H, SqT K H qp9 [.str "cell", .str "cell", .str "how"] := sqT_mk tp9 (by show 3 ≤ sizeLine; decide) (.cons ⟨_, rfl⟩ (.cons ⟨_, rfl⟩ (.cons ⟨_, rfl⟩ .nil)))
  have TP : TabK K tP tabP := ⟨mP, _, _, _, lP, ⟨rfl, rfl, rfl⟩, rfl, (.cons rfl ⟨_, rfl, sp0⟩ (.cons rfl ⟨_, rfl, sp1⟩ (.cons rfl ⟨_, rfl, sp2⟩ (.cons rfl ⟨_, rfl, sp3⟩ (.cons rfl ⟨_, rfl, sp4⟩ (.cons rfl ⟨_, rfl, sp5⟩ (.cons rfl ⟨_, rfl, sp6⟩ (.cons rfl ⟨_, rfl, sp7⟩ (.cons rfl ⟨_, rfl, sp8⟩ (.cons rfl ⟨_, rfl, sp9⟩ .nil))))))))))⟩
  have cm : CM K C0 := ⟨⟨cp0, cd0_, co0, cs0⟩, cf0_0, cf0_1⟩
  have g_MR : ∃ t, mg "MOST_ROWS" = some (.int 8 t) := ⟨_, PySem.W.mg_of X G aMR⟩
  have cn : CN K C1 := ⟨⟨cp1, cd1_, co1, cs1⟩, cf1_0, cf1_1⟩
  have F0 : FnAt K mg "is_whole" s_is_whole ["thing"] := fnAt_mk X G a0 l0 c0 k0 fun _ _ _ _ _ _ us hl => match us, hl with | [_], _ => rfl
  have F1 : FnAt K mg "is_bit" s_is_bit ["thing"] := fnAt_mk X G a1 l1 c1 k1 fun _ _ _ _ _ _ us hl => match us, hl with | [_], _ => rfl
  have F2 : FnAt K mg "is_one_of" s_is_one_of ["thing", "words"] := fnAt_mk X G a2 l2 c2 k2 fun _ _ _ _ _ _ us hl => match us, hl with | [_, _], _ => rfl
  have F3 : FnAt K mg "is_cell" s_is_cell ["thing"] := fnAt_mk X G a3 l3 c3 k3 fun _ _ _ _ _ _ us hl => match us, hl with | [_], _ => rfl
  have F4 : FnAt K mg "is_part" s_is_part ["name", "thing"] := fnAt_mk X G a4 l4 c4 k4 fun _ _ _ _ _ _ us hl => match us, hl with | [_, _], _ => rfl
  have F5 : FnAt K mg "has_word" s_has_word ["thing"] := fnAt_mk X G a5 l5 c5 k5 fun _ _ _ _ _ _ us hl => match us, hl with | [_], _ => rfl
  have F6 : FnAt K mg "cells_in" s_cells_in ["harm"] := fnAt_mk X G a6 l6 c6 k6 fun _ _ _ _ _ _ us hl => match us, hl with | [_], _ => rfl
  have F7 : FnAt K mg "has_parts" s_has_parts ["thing"] := fnAt_mk X G a7 l7 c7 k7 fun _ _ _ _ _ _ us hl => match us, hl with | [_], _ => rfl
  have F8 : FnAt K mg "is_harm" s_is_harm ["thing"] := fnAt_mk X G a8 l8 c8 k8 fun _ _ _ _ _ _ us hl => match us, hl with | [_], _ => rfl
  have F9 : FnAt K mg "look_at_harms" s_look_at_harms ["thing"] := fnAt_mk X G a9 l9 c9 k9 fun _ _ _ _ _ _ us hl => match us, hl with | [_], _ => rfl
  have F10 : FnAt K mg "cells_of" s_cells_of ["harms"] := fnAt_mk X G a10 l10 c10 k10 fun _ _ _ _ _ _ us hl => match us, hl with | [_], _ => rfl
  have F11 : FnAt K mg "stuck_bit" s_stuck_bit ["harms", "cell"] := fnAt_mk X G a11 l11 c11 k11 fun _ _ _ _ _ _ us hl => match us, hl with | [_, _], _ => rfl
  have F12 : FnAt K mg "put" s_put ["harms", "cells", "cell", "bit"] := fnAt_mk X G a12 l12 c12 k12 fun _ _ _ _ _ _ us hl => match us, hl with | [_, _, _, _], _ => rfl
  have F13 : FnAt K mg "settle" s_settle ["harms", "cells"] := fnAt_mk X G a13 l13 c13 k13 fun _ _ _ _ _ _ us hl => match us, hl with | [_, _], _ => rfl
  have F14 : FnAt K mg "harm_of_address" s_harm_of_address ["harms", "address"] := fnAt_mk X G a14 l14 c14 k14 fun _ _ _ _ _ _ us hl => match us, hl with | [_, _], _ => rfl
  have F15 : FnAt K mg "reached_cells" s_reached_cells ["harm", "address"] := fnAt_mk X G a15 l15 c15 k15 fun _ _ _ _ _ _ us hl => match us, hl with | [_, _], _ => rfl
  have F16 : FnAt K mg "read_cell" s_read_cell ["harms", "cells", "cell"] := fnAt_mk X G a16 l16 c16 k16 fun _ _ _ _ _ _ us hl => match us, hl with | [_, _, _], _ => rfl
  have F17 : FnAt K mg "read_at" s_read_at ["harms", "cells", "address"] := fnAt_mk X G a17 l17 c17 k17 fun _ _ _ _ _ _ us hl => match us, hl with | [_, _, _], _ => rfl
  have F18 : FnAt K mg "is_slow" s_is_slow ["harms", "cells", "cell", "bit"] := fnAt_mk X G a18 l18 c18 k18 fun _ _ _ _ _ _ us hl => match us, hl with | [_, _, _, _], _ => rfl
  have F19 : FnAt K mg "kept_bit" s_kept_bit ["harms", "cells", "cell", "bit"] := fnAt_mk X G a19 l19 c19 k19 fun _ _ _ _ _ _ us hl => match us, hl with | [_, _, _, _], _ => rfl
  have F20 : FnAt K mg "act_on_others" s_act_on_others ["harms", "cells", "cell"] := fnAt_mk X G a20 l20 c20 k20 fun _ _ _ _ _ _ us hl => match us, hl with | [_, _, _], _ => rfl
  have F21 : FnAt K mg "write_cell" s_write_cell ["harms", "cells", "cell", "bit"] := fnAt_mk X G a21 l21 c21 k21 fun _ _ _ _ _ _ us hl => match us, hl with | [_, _, _, _], _ => rfl
  have F22 : FnAt K mg "write_at" s_write_at ["harms", "cells", "address", "bit"] := fnAt_mk X G a22 l22 c22 k22 fun _ _ _ _ _ _ us hl => match us, hl with | [_, _, _, _], _ => rfl
  have F23 : FnAt K mg "is_size" s_is_size ["thing"] := fnAt_mk X G a23 l23 c23 k23 fun _ _ _ _ _ _ us hl => match us, hl with | [_], _ => rfl
  have F24 : FnAt K mg "are_contents" s_are_contents ["thing", "size"] := fnAt_mk X G a24 l24 c24 k24 fun _ _ _ _ _ _ us hl => match us, hl with | [_, _], _ => rfl
  have F25 : FnAt K mg "look_at_memory" s_look_at_memory ["size", "harms", "contents"] := fnAt_mk X G a25 l25 c25 k25 fun _ _ _ _ _ _ us hl => match us, hl with | [_, _, _], _ => rfl
  have F26 : FnAt K mg "look_at_bit" s_look_at_bit ["thing"] := fnAt_mk X G a26 l26 c26 k26 fun _ _ _ _ _ _ us hl => match us, hl with | [_], _ => rfl
  have F27 : FnAt K mg "is_count" s_is_count ["thing"] := fnAt_mk X G a27 l27 c27 k27 fun _ _ _ _ _ _ us hl => match us, hl with | [_], _ => rfl
  have F28 : FnAt K mg "are_spares" s_are_spares ["thing", "count"] := fnAt_mk X G a28 l28 c28 k28 fun _ _ _ _ _ _ us hl => match us, hl with | [_, _], _ => rfl
  have F29 : FnAt K mg "look_at_counts" s_look_at_counts ["rows", "lines"] := fnAt_mk X G a29 l29 c29 k29 fun _ _ _ _ _ _ us hl => match us, hl with | [_, _], _ => rfl
  have F30 : FnAt K mg "look_at_spares" s_look_at_spares ["rows", "lines", "spare_rows", "spare_lines"] := fnAt_mk X G a30 l30 c30 k30 fun _ _ _ _ _ _ us hl => match us, hl with | [_, _, _, _], _ => rfl
  have F31 : FnAt K mg "_law_digits" s__law_digits ["_law_cell", "_law_turn", "_law_sizes"] := fnAt_mk X G a31 l31 c31 k31 fun _ _ _ _ _ _ us hl => match us, hl with | [_, _, _], _ => rfl
  have F32 : FnAt K mg "_law_harm" s__law_harm ["_law_d", "_law_size"] := fnAt_mk X G a32 l32 c32 k32 fun _ _ _ _ _ _ us hl => match us, hl with | [_, _], _ => rfl
  have F33 : FnAt K mg "_law_cells" s__law_cells ["_law_harms_here"] := fnAt_mk X G a33 l33 c33 k33 fun _ _ _ _ _ _ us hl => match us, hl with | [_], _ => rfl
  have F34 : FnAt K mg "_law_harms" s__law_harms ["_law_d", "_law_size"] := fnAt_mk X G a34 l34 c34 k34 fun _ _ _ _ _ _ us hl => match us, hl with | [_, _], _ => rfl
  have F35 : FnAt K mg "_law_bits" s__law_bits ["_law_number", "_law_many"] := fnAt_mk X G a35 l35 c35 k35 fun _ _ _ _ _ _ us hl => match us, hl with | [_, _], _ => rfl
  have F36 : FnAt K mg "_law_spared" s__law_spared ["_law_d", "_law_cells_here", "_law_rows", "_law_lines"] := fnAt_mk X G a36 l36 c36 k36 fun _ _ _ _ _ _ us hl => match us, hl with | [_, _, _, _], _ => rfl
  have F37 : FnAt K mg "_law_is_bit" s__law_is_bit ["_law_found", "_law_due"] := fnAt_mk X G a37 l37 c37 k37 fun _ _ _ _ _ _ us hl => match us, hl with | [_, _], _ => rfl
  have F38 : FnAt K mg "_law_held" s__law_held ["_law_one", "_law_memory", "_law_spare"] := fnAt_mk X G a38 l38 c38 k38 fun _ _ _ _ _ _ us hl => match us, hl with | [_, _, _], _ => rfl
  have F39 : FnAt K mg "_law_done" s__law_done ["_law_one", "_law_memory", "_law_spare", "_law_address", "_law_deed"] := fnAt_mk X G a39 l39 c39 k39 fun _ _ _ _ _ _ us hl => match us, hl with | [_, _, _, _, _], _ => rfl
  have F40 : FnAt K mg "_law_right" s__law_right ["_law_cells_here", "_law_turn"] := fnAt_mk X G a40 l40 c40 k40 fun _ _ _ _ _ _ us hl => match us, hl with | [_, _], _ => rfl
  have FL := fun_mk (st := s_law) l41 c41 k41
  refine ⟨PySem.W.fnOf "law" "law" (defArgs s_law) (defBody s_law) (defScope s_law) .none kV41 dc41 pm41 an41 cd41 ct41, fun s v => .of_eq rfl, fun base _ _ => ?_⟩
  have M0___init__ : MethAt K C0 "__init__" "Memory.__init__" s_Memory___init__ ["self", "size", "harms", "contents"] := ⟨fm0_0, _, ⟨am0_0, im0_0, km0_0⟩, fun_mk (st := s_Memory___init__) lm0_0 cm0_0 km0_0, Fun.binds (fun_mk (st := s_Memory___init__) lm0_0 cm0_0 km0_0) fun _ _ _ _ _ _ us hl => match us, hl with | [_, _, _, _], _ => rfl⟩
  have M0_look_at_address : MethAt K C0 "look_at_address" "Memory.look_at_address" s_Memory_look_at_address ["self", "address"] := ⟨fm0_1, _, ⟨am0_1, im0_1, km0_1⟩, fun_mk (st := s_Memory_look_at_address) lm0_1 cm0_1 km0_1, Fun.binds (fun_mk (st := s_Memory_look_at_address) lm0_1 cm0_1 km0_1) fun _ _ _ _ _ _ us hl => match us, hl with | [_, _], _ => rfl⟩
  have M0_read : MethAt K C0 "read" "Memory.read" s_Memory_read ["self", "address"] := ⟨fm0_2, _, ⟨am0_2, im0_2, km0_2⟩, fun_mk (st := s_Memory_read) lm0_2 cm0_2 km0_2, Fun.binds (fun_mk (st := s_Memory_read) lm0_2 cm0_2 km0_2) fun _ _ _ _ _ _ us hl => match us, hl with | [_, _], _ => rfl⟩
  have M0_write : MethAt K C0 "write" "Memory.write" s_Memory_write ["self", "address", "bit"] := ⟨fm0_3, _, ⟨am0_3, im0_3, km0_3⟩, fun_mk (st := s_Memory_write) lm0_3 cm0_3 km0_3, Fun.binds (fun_mk (st := s_Memory_write) lm0_3 cm0_3 km0_3) fun _ _ _ _ _ _ us hl => match us, hl with | [_, _, _], _ => rfl⟩
  have M0_holds : MethAt K C0 "holds" "Memory.holds" s_Memory_holds ["self"] := ⟨fm0_4, _, ⟨am0_4, im0_4, km0_4⟩, fun_mk (st := s_Memory_holds) lm0_4 cm0_4 km0_4, Fun.binds (fun_mk (st := s_Memory_holds) lm0_4 cm0_4 km0_4) fun _ _ _ _ _ _ us hl => match us, hl with | [_], _ => rfl⟩
  have M0_size : MethAt K C0 "size" "Memory.size" s_Memory_size ["self"] := ⟨fm0_5, _, ⟨am0_5, im0_5, km0_5⟩, fun_mk (st := s_Memory_size) lm0_5 cm0_5 km0_5, Fun.binds (fun_mk (st := s_Memory_size) lm0_5 cm0_5 km0_5) fun _ _ _ _ _ _ us hl => match us, hl with | [_], _ => rfl⟩
  have M1___init__ : MethAt K C1 "__init__" "Mended.__init__" s_Mended___init__ ["self", "rows", "lines", "harms", "contents", "spare_rows", "spare_lines"] := ⟨fm1_0, _, ⟨am1_0, im1_0, km1_0⟩, fun_mk (st := s_Mended___init__) lm1_0 cm1_0 km1_0, Fun.binds (fun_mk (st := s_Mended___init__) lm1_0 cm1_0 km1_0) fun _ _ _ _ _ _ us hl => match us, hl with | [_, _, _, _, _, _, _], _ => rfl⟩
  have M1_read : MethAt K C1 "read" "Mended.read" s_Mended_read ["self", "address"] := ⟨fm1_1, _, ⟨am1_1, im1_1, km1_1⟩, fun_mk (st := s_Mended_read) lm1_1 cm1_1 km1_1, Fun.binds (fun_mk (st := s_Mended_read) lm1_1 cm1_1 km1_1) fun _ _ _ _ _ _ us hl => match us, hl with | [_, _], _ => rfl⟩
  have M1_write : MethAt K C1 "write" "Mended.write" s_Mended_write ["self", "address", "bit"] := ⟨fm1_2, _, ⟨am1_2, im1_2, km1_2⟩, fun_mk (st := s_Mended_write) lm1_2 cm1_2 km1_2, Fun.binds (fun_mk (st := s_Mended_write) lm1_2 cm1_2 km1_2) fun _ _ _ _ _ _ us hl => match us, hl with | [_, _, _], _ => rfl⟩
  have M1_holds : MethAt K C1 "holds" "Mended.holds" s_Mended_holds ["self"] := ⟨fm1_3, _, ⟨am1_3, im1_3, km1_3⟩, fun_mk (st := s_Mended_holds) lm1_3 cm1_3 km1_3, Fun.binds (fun_mk (st := s_Mended_holds) lm1_3 cm1_3 km1_3) fun _ _ _ _ _ _ us hl => match us, hl with | [_], _ => rfl⟩
  have M1_size : MethAt K C1 "size" "Mended.size" s_Mended_size ["self"] := ⟨fm1_4, _, ⟨am1_4, im1_4, km1_4⟩, fun_mk (st := s_Mended_size) lm1_4 cm1_4 km1_4, Fun.binds (fun_mk (st := s_Mended_size) lm1_4 cm1_4 km1_4) fun _ _ _ _ _ _ us hl => match us, hl with | [_], _ => rfl⟩
  have h0 := ok_is_whole (P := l.prog) (w := w) (base := base) B F0
  have h1 := ok_is_bit h0 F1
  have h2 := ok_is_one_of (P := l.prog) (w := w) (base := base) B F2
  have h3 := ok_is_cell g_MC h0 F3
  have h4 := ok_is_part g_J h3 h1 h2 F4
  have h5 := ok_has_word (P := l.prog) (w := w) (base := base) B gP TP F5
  have h6 := ok_cells_in (P := l.prog) (w := w) (base := base) B z_zip gP TP F6
  have h7 := ok_has_parts B z_zip z_all gP TP h4 F7
  have h8 := ok_is_harm B z_set h5 h7 h6 F8
  have h9 := ok_look_at_harms B z_set g_MH g_MU h8 h6 F9
  have h10 := ok_cells_of B z_set h9 h6 F10
  have h11 := ok_stuck_bit (P := l.prog) (w := w) (base := base) F11
  have h12 := ok_put h11 F12
  have h13 := ok_settle B h11 h12 F13
  have h14 := ok_harm_of_address (P := l.prog) (w := w) (base := base) F14
  have h15 := ok_reached_cells (P := l.prog) (w := w) (base := base) F15
  have h16 := ok_read_cell h12 F16
  have h17 := ok_read_at B h14 h15 h16 F17
  have h18 := ok_is_slow (P := l.prog) (w := w) (base := base) F18
  have h19 := ok_kept_bit (P := l.prog) (w := w) (base := base) F19
  have h20 := ok_act_on_others h12 F20
  have h21 := ok_write_cell h18 h12 h19 h20 F21
  have h22 := ok_write_at h14 h15 h21 F22
  have h23 := ok_is_size g_MC h0 F23
  have h24 := ok_are_contents B z_all h1 F24
  have h25 := ok_look_at_memory B h10 h23 h24 F25
  have h26 := ok_look_at_bit h1 F26
  have hm_addr := ok_m_addr B cm h0 M0_look_at_address
  have hm_read := ok_m_read cm hm_addr h17 M0_read
  have hm_write := ok_m_write cm hm_addr h26 h22 M0_write
  have hm_holds := ok_m_holds (P := l.prog) (w := w) (base := base) B cm M0_holds
  have hm_size := ok_m_size (P := l.prog) (w := w) (base := base) B cm M0_size
  have hm_init := ok_m_init B cm h25 h13 M0___init__
  have hi_Memory := HasI.of (x := "Memory") (m := "Memory") (PySem.W.mg_of X G ca0) ⟨cm0_, am0_0, im0_0, ck0⟩ (fun g h => meth_un am0_0 h) hm_init
  have h27 := ok_count g_MR h0 F27
  have h28 := ok_are_spares B z_all z_set h0 F28
  have h29 := ok_look_counts h27 F29
  have h30 := ok_look_spares h28 F30
  have hn_read := ok_n_read cm cn hm_addr hm_read M1_read
  have hn_write := ok_n_write cm cn hm_addr h26 hm_write M1_write
  have hn_holds := ok_n_holds B cm cn hm_holds M1_holds
  have hn_size := ok_n_size cm cn hm_size M1_size
  have hn_init := ok_n_init B cm cn h9 h29 h30 hi_Memory M1___init__
  have hi_Mended := HasI.of (x := "Mended") (m := "Mended") (PySem.W.mg_of X G ca1) ⟨cm1_, am1_0, im1_0, ck1⟩ (fun g h => meth_un am1_0 h) hn_init
  have h31 := ok_digits (P := l.prog) (w := w) (base := base) B F31
  have h32 := ok_lharm (P := l.prog) (w := w) (base := base) B F32
  have h33 := ok_lcells (P := l.prog) (w := w) (base := base) B z_set F33
  have h34 := ok_lharms B h32 h33 F34
  have h35 := ok_lbits (P := l.prog) (w := w) (base := base) B F35
  have h36 := ok_lspared (P := l.prog) (w := w) (base := base) B z_set F36
  have h37 := ok_lisbit (P := l.prog) (w := w) (base := base) B F37
  have h38 := ok_lheld B cm cn hm_holds hn_holds F38
  have h39 := ok_ldone cm cn h37 hm_read hm_write hn_read hn_write F39
  have h40 := ok_lright B cm cn h31 h34 h33 h35 h36 h38 h39 hi_Memory hi_Mended hn_holds hn_size F40
  exact ok_law B h40 FL
theorem walk {l : PySem.W.OpenLaw} {q : Program} {loose : List Str} {XP : (Str → Option Value) → Heap → Prop} {YP : World → Heap → Prop} {d : DefRec} {K : Params → PySem.W.Frag} (hn : l.most = some 63) (hdf : d.params.defaults = [])
    (hY : ∀ (w : World) (h : Heap), YP w h → (K w.params).In h)
    (F : ∀ (w : World) (mg : Str → Option Value) (fa : Addr) (h : Heap), (K w.params).In h → h.Ns mainGlobals mg → mg d.name = some (.ref fa) →
      ∃ fd : FuncData, (∀ (s : Shared) (u : Value), BindsTo s fd ⟨[u], []⟩ [("_law_script", u)]) ∧ ∀ base : Heap, (K w.params).In base → base.Ns mainGlobals mg → FnOk l.prog w (K w.params) mg base CX0 14 fa fd ["_law_script"] (sp_law (K w.params))) :
    PySem.W.WalkO q loose XP YP l.row.toRowW d [] (fun f vs => PySem.call f vs) :=
  L2.walk_of (n := 63) (k := 14) (x := "_law_script") (CX := fun _ => CX0) (sp := fun w => sp_law (K w.params)) hn (by decide) hdf ⟨rfl, by decide, by decide, rfl⟩ hY F (fun _ _ a ns hl _ hS => ⟨a, ns, rfl, hS, hl, fun _ => rfl⟩) fun _ _ _ _ _ z => z
end Mh
def PySem.W.Fast.tw8470360108638280962 : Nat := 0
def PySem.W.Fast.tw5541101213644817376 : Nat := 0
def PySem.W.Fast.tw13748798849003513310 : Nat := 0
def PySem.W.Fast.tw17319492681558577740 : Nat := 0
def PySem.W.Fast.tw15365254572570025765 : Nat := 0
def PySem.W.Fast.tw5749330577608057791 : Nat := 0
def PySem.W.Fast.tw13347857356062061089 := PySem.Challenge.pw_marchmend_k52_mended_reads
theorem PySem.W.Fast.te13347857356062061089 : PySem.Challenge.pw_marchmend_k52_mended_reads = PySem.W.Fast.tw13347857356062061089 := rfl
def PySem.W.Fast.tw8059126725010214339 : Nat := 0
def PySem.W.Fast.tw5208426878003527226 : Nat := 0
def PySem.W.Fast.tw1627072950369836506 : Nat := 0
def PySem.W.Fast.tw7260586451334560528 : Nat := 0
def PySem.W.Fast.tw4305656441303896983 : Nat := 0
def PySem.W.Fast.tw8648845967553837151 : Nat := 0
def PySem.W.Fast.tw17008353875140740628 : Nat := 0
def PySem.W.Fast.tw14301309650532989693 : Nat := 0
def PySem.W.Fast.tw6683733595318163328 : Nat := 0
def PySem.W.Fast.tw5936017120500792168 : Nat := 0
def PySem.W.Fast.tw5060537383614827022 : Nat := 0
def PySem.W.Fast.tw10457789662751089046 : Nat := 0
def PySem.W.Fast.tw5685352573034990659 : Nat := 0
def PySem.W.Fast.tw9989355693442729984 : Nat := 0
def PySem.W.Fast.tw1229881830479380358 : Nat := 0
def PySem.W.Fast.tw4769605058356449476 : Nat := 0
def PySem.W.Fast.tw4299639057516913658 : Nat := 0
def PySem.W.Fast.tw14069405433727211248 : Nat := 0
def PySem.W.Fast.tw10756586812497450259 : Nat := 0
def PySem.W.Fast.tw4935827171463678531 : Nat := 0
def PySem.W.Fast.tw3843583673407777264 : Nat := 0
def PySem.W.Fast.tw15119712482982162636 : Nat := 0
def PySem.W.Fast.tw12893190433764194716 : Nat := 0
def PySem.W.Fast.tw6490328000135461121 : Nat := 0
def PySem.W.Fast.tw4291386709183417691 : Nat := 0
def PySem.W.Fast.tw9395338884934208261 : Nat := 0
def PySem.W.Fast.tw6150307911858636996 : Nat := 0
def PySem.W.Fast.tw10539475087010879959 : Nat := 0
def PySem.W.Fast.tw4548365572651217106 : Nat := 0
def PySem.W.Fast.tw15378627376147483810 : Nat := 0
def PySem.W.Fast.tw17650500088496128282 : Nat := 0
def PySem.W.Fast.tw9631085458782484041 : Nat := 0
def PySem.W.Fast.tw4330040793976571376 : Nat := 0
def PySem.W.Fast.tw2049343142063861703 : Nat := 0
def PySem.W.Fast.tw8457742186811794991 : Nat := 0
def PySem.W.Fast.tw16879415004982264419 : Nat := 0
def PySem.W.Fast.tw2301879692021844844 : Nat := 0
def PySem.W.Fast.tw11772667384017751875 : Nat := 0
def PySem.W.Fast.tw8316620264178452620 : Nat := 0
def PySem.W.Fast.tw6743108983146446792 : Nat := 0
def PySem.W.Fast.tw1699298906210098966 : Nat := 0
def PySem.W.Fast.tw11777934809656277600 : Nat := 0
def PySem.W.Fast.tw1878364350897144832 : Nat := 0
def PySem.W.Fast.tw9376901027298569536 : Nat := 0
def PySem.W.Fast.tw11730910362957295657 : Nat := 0
def PySem.W.Fast.tw1775153397875905151 : Nat := 0
def PySem.W.Fast.tw16108323936327017952 : Nat := 0
def PySem.W.Fast.tw3651418671545407072 : Nat := 0
def PySem.W.Fast.tw17417425139872403504 : Nat := 0
def PySem.W.Fast.tw11822910202782260327 : Nat := 0
def PySem.W.Fast.tw9529617640548703681 : Nat := 0
def PySem.W.Fast.tw7100783631286069252 : Nat := 0
def PySem.W.Fast.tw8626356600630600073 : Nat := 0
def PySem.W.Fast.tw2861523165850115519 : Nat := 0
def PySem.W.Fast.tw9929708401026743261 : Nat := 0
def PySem.W.Fast.tw9522854086651364565 : Nat := 0
def PySem.W.Fast.tw17665330416980824462 : Nat := 0
def PySem.W.Fast.tw9475866513198784110 : Nat := 0
def PySem.W.Fast.tw14490235656732064107 : Nat := 0
def PySem.W.Fast.tw9693165360391008537 : Nat := 0
def PySem.W.Fast.tw12979213208232487262 : Nat := 0
def PySem.W.Fast.tw16012872818953090663 : Nat := 0
def PySem.W.Fast.tw7956009523920012376 : Nat := 0
def PySem.W.Fast.tw6966444038431514540 : Nat := 0
def PySem.W.Fast.tw7859798640872828080 : Nat := 0
def PySem.W.Fast.tw11171646711710429224 : Nat := 0
def PySem.W.Fast.tw15560473305910393415 : Nat := 0
def PySem.W.Fast.tw8516264983970354174 : Nat := 0
def PySem.W.Fast.tw7789227058004130871 : Nat := 0
def PySem.W.Fast.tw6962183166468402435 : Nat := 0
def PySem.W.Fast.tw4225832012214192242 : Nat := 0
def PySem.W.Fast.tw509913071515921787 : Nat := 0
def PySem.W.Fast.tw10269781821552130630 : Nat := 0
def PySem.W.Fast.tw16093245964606803883 : Nat := 0
def PySem.W.Fast.tw1888269515371385381 : Nat := 0
def PySem.W.Fast.tw17366007858797215430 : Nat := 0
def PySem.W.Fast.tw9702699216318504798 : Nat := 0
def PySem.W.Fast.tw795175683855428044 : Nat := 0
def PySem.W.Fast.tw12735548492721973312 : Nat := 0
def PySem.W.Fast.tw14216313233248816874 : Nat := 0
def PySem.W.Fast.tw7209457414406350180 : Nat := 0
def PySem.W.Fast.tw11303328431061183421 : Nat := 0
def PySem.W.Fast.tw38801928649579096 : Nat := 0
def PySem.W.Fast.tw3241186449028939124 : Nat := 0
def PySem.W.Fast.tw9190072145533570324 : Nat := 0
def PySem.W.Fast.tw543961538569558866 : Nat := 0
def PySem.W.Fast.tw3336539375331489095 : Nat := 0
def PySem.W.Fast.tw10501906312996587373 : Nat := 0
def PySem.W.Fast.tw15995617412960523976 : Nat := 0
def PySem.W.Fast.tw15021683406117947485 : Nat := 0
def PySem.W.Fast.tw11662524549354012954 : Nat := 0
def PySem.W.Fast.tw12122933460554709261 : Nat := 0
def PySem.W.Fast.tw5840060070236781862 : Nat := 0
def PySem.W.Fast.tw15921001725004550562 : Nat := 0
def PySem.W.Fast.tw17709346548539359390 : Nat := 0
def PySem.W.Fast.tw14037286762605642327 : Nat := 0
def PySem.W.Fast.tw17472677917017653891 : Nat := 0
open PySem PySem.W PyProof.Rows
set_option maxRecDepth 100000 in
set_option maxHeartbeats 0 in
theorem PySem.Challenge.cw_marchmend_k52_mended_reads_holds : PySem.Challenge.rw_marchmend_k52_mended_reads.Holds := by
  w_on; o_law; k_head; (case hw => w_witness2)
  k_fill
  refine Mh.walk (l := PySem.Challenge.rw_marchmend_k52_mended_reads) rfl rfl (fun w h Y => PySem.W.kIn_of Y) ?F
  case F =>
    intro w mg fa h KX G hmg
    refine' Mh.all_mk KX G hmg ?a0 ?l0 ?c0 ?k0 ?a1 ?l1 ?c1 ?k1 ?a2 ?l2 ?c2 ?k2 ?a3 ?l3 ?c3 ?k3 ?a4 ?l4 ?c4 ?k4 ?a5 ?l5 ?c5 ?k5 ?a6 ?l6 ?c6 ?k6 ?a7 ?l7 ?c7 ?k7 ?a8 ?l8 ?c8 ?k8 ?a9 ?l9 ?c9 ?k9 ?a10 ?l10 ?c10 ?k10 ?a11 ?l11 ?c11 ?k11 ?a12 ?l12 ?c12 ?k12 ?a13 ?l13 ?c13 ?k13 ?a14 ?l14 ?c14 ?k14 ?a15 ?l15 ?c15 ?k15 ?a16 ?l16 ?c16 ?k16 ?a17 ?l17 ?c17 ?k17 ?a18 ?l18 ?c18 ?k18 ?a19 ?l19 ?c19 ?k19 ?a20 ?l20 ?c20 ?k20 ?a21 ?l21 ?c21 ?k21 ?a22 ?l22 ?c22 ?k22 ?a23 ?l23 ?c23 ?k23 ?a24 ?l24 ?c24 ?k24 ?a25 ?l25 ?c25 ?k25 ?a26 ?l26 ?c26 ?k26 ?a27 ?l27 ?c27 ?k27 ?a28 ?l28 ?c28 ?k28 ?a29 ?l29 ?c29 ?k29 ?a30 ?l30 ?c30 ?k30 ?a31 ?l31 ?c31 ?k31 ?a32 ?l32 ?c32 ?k32 ?a33 ?l33 ?c33 ?k33 ?a34 ?l34 ?c34 ?k34 ?a35 ?l35 ?c35 ?k35 ?a36 ?l36 ?c36 ?k36 ?a37 ?l37 ?c37 ?k37 ?a38 ?l38 ?c38 ?k38 ?a39 ?l39 ?c39 ?k39 ?a40 ?l40 ?c40 ?k40 ?a41 ?l41 ?c41 ?k41 ?z0 ?z1 ?z2 ?z3 ?z4 ?z5 ?z6 ?z7 ?z8 ?z9 ?z10 ?z11 ?z12 ?z13 ?z14 ?z15 ?zset ?zzip ?zall ?aMC ?aMH ?aMU ?aJ ?lJ ?aP ?lP ?mP ?tp0 ?tp1 ?tp2 ?tp3 ?tp4 ?tp5 ?tp6 ?tp7 ?tp8 ?tp9 ?aMR ?ca0 ?cp0 ?cd0_ ?co0 ?cs0 ?cf0_0 ?cf0_1 ?cm0_ ?ck0 ?am0_0 ?lm0_0 ?cm0_0 ?im0_0 ?km0_0 ?am0_1 ?lm0_1 ?cm0_1 ?im0_1 ?km0_1 ?am0_2 ?lm0_2 ?cm0_2 ?im0_2 ?km0_2 ?am0_3 ?lm0_3 ?cm0_3 ?im0_3 ?km0_3 ?am0_4 ?lm0_4 ?cm0_4 ?im0_4 ?km0_4 ?am0_5 ?lm0_5 ?cm0_5 ?im0_5 ?km0_5 ?ca1 ?cp1 ?cd1_ ?co1 ?cs1 ?cf1_0 ?cf1_1 ?cm1_ ?ck1 ?am1_0 ?lm1_0 ?cm1_0 ?im1_0 ?km1_0 ?am1_1 ?lm1_1 ?cm1_1 ?im1_1 ?km1_1 ?am1_2 ?lm1_2 ?cm1_2 ?im1_2 ?km1_2 ?am1_3 ?lm1_3 ?cm1_3 ?im1_3 ?km1_3 ?am1_4 ?lm1_4 ?cm1_4 ?im1_4 ?km1_4
    (case a0 => k_is)
    (case l0 => k_is)
    (case c0 => k_is)
    (case k0 => k_is)
    (case a1 => k_is)
    (case l1 => k_is)
    (case c1 => k_is)
    (case k1 => k_is)
    (case a2 => k_is)
    (case l2 => k_is)
    (case c2 => k_is)
    (case k2 => k_is)
    (case a3 => k_is)
    (case l3 => k_is)
    (case c3 => k_is)
    (case k3 => k_is)
    (case a4 => k_is)
    (case l4 => k_is)
    (case c4 => k_is)
    (case k4 => k_is)
    (case a5 => k_is)
    (case l5 => k_is)
    (case c5 => k_is)
    (case k5 => k_is)
    (case a6 => k_is)
    (case l6 => k_is)
    (case c6 => k_is)
    (case k6 => k_is)
    (case a7 => k_is)
    (case l7 => k_is)
    (case c7 => k_is)
    (case k7 => k_is)
    (case a8 => k_is)
    (case l8 => k_is)
    (case c8 => k_is)
    (case k8 => k_is)
    (case a9 => k_is)
    (case l9 => k_is)
    (case c9 => k_is)
    (case k9 => k_is)
    (case a10 => k_is)
    (case l10 => k_is)
    (case c10 => k_is)
    (case k10 => k_is)
    (case a11 => k_is)
    (case l11 => k_is)
    (case c11 => k_is)
    (case k11 => k_is)
    (case a12 => k_is)
    (case l12 => k_is)
    (case c12 => k_is)
    (case k12 => k_is)
    (case a13 => k_is)
    (case l13 => k_is)
    (case c13 => k_is)
    (case k13 => k_is)
    (case a14 => k_is)
    (case l14 => k_is)
    (case c14 => k_is)
    (case k14 => k_is)
    (case a15 => k_is)
    (case l15 => k_is)
    (case c15 => k_is)
    (case k15 => k_is)
    (case a16 => k_is)
    (case l16 => k_is)
    (case c16 => k_is)
    (case k16 => k_is)
    (case a17 => k_is)
    (case l17 => k_is)
    (case c17 => k_is)
    (case k17 => k_is)
    (case a18 => k_is)
    (case l18 => k_is)
    (case c18 => k_is)
    (case k18 => k_is)
    (case a19 => k_is)
    (case l19 => k_is)
    (case c19 => k_is)
    (case k19 => k_is)
    (case a20 => k_is)
    (case l20 => k_is)
    (case c20 => k_is)
    (case k20 => k_is)
    (case a21 => k_is)
    (case l21 => k_is)
    (case c21 => k_is)
    (case k21 => k_is)
    (case a22 => k_is)
    (case l22 => k_is)
    (case c22 => k_is)
    (case k22 => k_is)
    (case a23 => k_is)
    (case l23 => k_is)
    (case c23 => k_is)
    (case k23 => k_is)
    (case a24 => k_is)
    (case l24 => k_is)
    (case c24 => k_is)
    (case k24 => k_is)
    (case a25 => k_is)
    (case l25 => k_is)
    (case c25 => k_is)
    (case k25 => k_is)
    (case a26 => k_is)
    (case l26 => k_is)
    (case c26 => k_is)
    (case k26 => k_is)
    (case a27 => k_is)
    (case l27 => k_is)
    (case c27 => k_is)
    (case k27 => k_is)
    (case a28 => k_is)
    (case l28 => k_is)
    (case c28 => k_is)
    (case k28 => k_is)
    (case a29 => k_is)
    (case l29 => k_is)
    (case c29 => k_is)
    (case k29 => k_is)
    (case a30 => k_is)
    (case l30 => k_is)
    (case c30 => k_is)
    (case k30 => k_is)
    (case a31 => k_is)
    (case l31 => k_is)
    (case c31 => k_is)
    (case k31 => k_is)
    (case a32 => k_is)
    (case l32 => k_is)
    (case c32 => k_is)
    (case k32 => k_is)
    (case a33 => k_is)
    (case l33 => k_is)
    (case c33 => k_is)
    (case k33 => k_is)
    (case a34 => k_is)
    (case l34 => k_is)
    (case c34 => k_is)
    (case k34 => k_is)
    (case a35 => k_is)
    (case l35 => k_is)
    (case c35 => k_is)
    (case k35 => k_is)
    (case a36 => k_is)
    (case l36 => k_is)
    (case c36 => k_is)
    (case k36 => k_is)
    (case a37 => k_is)
    (case l37 => k_is)
    (case c37 => k_is)
    (case k37 => k_is)
    (case a38 => k_is)
    (case l38 => k_is)
    (case c38 => k_is)
    (case k38 => k_is)
    (case a39 => k_is)
    (case l39 => k_is)
    (case c39 => k_is)
    (case k39 => k_is)
    (case a40 => k_is)
    (case l40 => k_is)
    (case c40 => k_is)
    (case k40 => k_is)
    (case a41 => k_is)
    (case l41 => k_is)
    (case c41 => k_is)
    (case k41 => k_is)
    (case z0 => k_is)
    (case z1 => k_is)
    (case z2 => k_is)
    (case z3 => k_is)
    (case z4 => k_is)
    (case z5 => k_is)
    (case z6 => k_is)
    (case z7 => k_is)
    (case z8 => k_is)
    (case z9 => k_is)
    (case z10 => k_is)
    (case z11 => k_is)
    (case z12 => k_is)
    (case z13 => k_is)
    (case z14 => k_is)
    (case z15 => k_is)
    (case zset => k_is)
    (case zzip => k_is)
    (case zall => k_is)
    (case aMC => k_is)
    (case aMH => k_is)
    (case aMU => k_is)
    (case aJ => k_is)
    (case lJ => k_is)
    (case aP => k_is)
    (case lP => k_is)
    (case mP => rfl)
    (case tp0 => k_is)
    (case tp1 => k_is)
    (case tp2 => k_is)
    (case tp3 => k_is)
    (case tp4 => k_is)
    (case tp5 => k_is)
    (case tp6 => k_is)
    (case tp7 => k_is)
    (case tp8 => k_is)
    (case tp9 => k_is)
    (case aMR => k_is)
    (case ca0 => k_is)
    (case cp0 => k_is)
    (case cd0_ => k_is)
    (case co0 => k_is)
    (case cs0 => k_is)
    (case cf0_0 => k_is)
    (case cf0_1 => k_is)
    (case cm0_ => k_is)
    (case ck0 => k_is)
    (case am0_0 => k_is)
    (case lm0_0 => k_is)
    (case cm0_0 => k_is)
    (case im0_0 => k_is)
    (case km0_0 => k_is)
    (case am0_1 => k_is)
    (case lm0_1 => k_is)
    (case cm0_1 => k_is)
    (case im0_1 => k_is)
    (case km0_1 => k_is)
    (case am0_2 => k_is)
    (case lm0_2 => k_is)
    (case cm0_2 => k_is)
    (case im0_2 => k_is)
    (case km0_2 => k_is)
    (case am0_3 => k_is)
    (case lm0_3 => k_is)
    (case cm0_3 => k_is)
    (case im0_3 => k_is)
    (case km0_3 => k_is)
    (case am0_4 => k_is)
    (case lm0_4 => k_is)
    (case cm0_4 => k_is)
    (case im0_4 => k_is)
    (case km0_4 => k_is)
    (case am0_5 => k_is)
    (case lm0_5 => k_is)
    (case cm0_5 => k_is)
    (case im0_5 => k_is)
    (case km0_5 => k_is)
    (case ca1 => k_is)
    (case cp1 => k_is)
    (case cd1_ => k_is)
    (case co1 => k_is)
    (case cs1 => k_is)
    (case cf1_0 => k_is)
    (case cf1_1 => k_is)
    (case cm1_ => k_is)
    (case ck1 => k_is)
    (case am1_0 => k_is)
    (case lm1_0 => k_is)
    (case cm1_0 => k_is)
    (case im1_0 => k_is)
    (case km1_0 => k_is)
    (case am1_1 => k_is)
    (case lm1_1 => k_is)
    (case cm1_1 => k_is)
    (case im1_1 => k_is)
    (case km1_1 => k_is)
    (case am1_2 => k_is)
    (case lm1_2 => k_is)
    (case cm1_2 => k_is)
    (case im1_2 => k_is)
    (case km1_2 => k_is)
    (case am1_3 => k_is)
    (case lm1_3 => k_is)
    (case cm1_3 => k_is)
    (case im1_3 => k_is)
    (case km1_3 => k_is)
    (case am1_4 => k_is)
    (case lm1_4 => k_is)
    (case cm1_4 => k_is)
    (case im1_4 => k_is)
    (case km1_4 => k_is)
#print axioms PySem.Challenge.cw_marchmend_k52_mended_reads_holds
