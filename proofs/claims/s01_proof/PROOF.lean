import PyProof.Rows.All
import Wide.All
import OpenK.AllK
import Wide.FinOn
import PyProof.EqAt
import PyProof.EqKinds
import PyProof.TupleCall
import KE.BitLaws
import Open.SpecLaws
import KE.OsHead
import KE.OsGo
import PyProof.ListRange
import PyProof.CollectIter
import PyProof.Rows.ChunkEnd
import PyFlatLaws
import PySem.Challenge.RW_sixciphers_s01_answers
section
set_option Elab.async false
set_option linter.all false
set_option maxRecDepth 100000
namespace L2
open PySem PySem.Spec PyProof.Rows

/-- a key: an int or a str -/
abbrev Key := Sum Int Str
def keyIs : Key → Value → Bool
  | .inl k, v => Value.isInt k v
  | .inr x, v => Value.isStrOf x v
def keyH (w : World) : Key → Int
  | .inl k => hashInt k
  | .inr x => hashStr w x
theorem keyIs_shape : ∀ {k : Key} {v : Value}, keyIs k v = true → (∃ i t, k = Sum.inl i ∧ v = Value.int i t) ∨ (∃ x t, k = Sum.inr x ∧ v = Value.str x t)
  | .inl i, v, h => by
    obtain ⟨t, e⟩ := Value.isInt_shape (k := i) (v := v) h
    exact .inl ⟨i, t, rfl, e⟩
  | .inr x, v, h => by
    obtain ⟨t, e⟩ := Value.isStrOf_shape (x := x) (v := v) h
    exact .inr ⟨x, t, rfl, e⟩
theorem key_ll (a b : Int) : decide ((Sum.inl a : Key) = Sum.inl b) = (a == b) := by
  by_cases e : a = b
  · subst e; simp
  · have h : ¬ (Sum.inl a : Key) = Sum.inl b := fun q => e (Sum.inl.inj q)
    rw [decide_eq_false h]
    exact (beq_eq_false_iff_ne.mpr e).symm
theorem key_rr (a b : Str) : decide ((Sum.inr a : Key) = Sum.inr b) = decide (a = b) := by
  by_cases e : a = b
  · subst e; simp
  · have h : ¬ (Sum.inr a : Key) = Sum.inr b := fun q => e (Sum.inr.inj q)
    rw [decide_eq_false h, decide_eq_false e]
theorem key_lr (a : Int) (b : Str) : decide ((Sum.inl a : Key) = Sum.inr b) = false := decide_eq_false (fun q => nomatch q)
theorem key_rl (a : Str) (b : Int) : decide ((Sum.inr a : Key) = Sum.inl b) = false := decide_eq_false (fun q => nomatch q)

def mixKind (prog : Program) (w : World) : PySem.KeyKind prog w Key where
  is := keyIs
  hash := keyH w
  inj := fun v a b ha hb => by
    rcases keyIs_shape ha with ⟨i, t, rfl, rfl⟩ | ⟨x, t, rfl, rfl⟩
    · rcases keyIs_shape hb with ⟨j, u, rfl, e⟩ | ⟨y, u, rfl, e⟩
      · injection e with e1 _; rw [e1]
      · exact nomatch e
    · rcases keyIs_shape hb with ⟨j, u, rfl, e⟩ | ⟨y, u, rfl, e⟩
      · exact nomatch e
      · injection e with e1 _; rw [e1]
  byValue := fun k v h => by
    rcases keyIs_shape h with ⟨i, t, rfl, rfl⟩ | ⟨x, t, rfl, rfl⟩ <;> rfl
  pyHash := fun hv h => by
    rcases keyIs_shape hv with ⟨i, t, rfl, rfl⟩ | ⟨x, t, rfl, rfl⟩
    · exact wpAny_pyHash_int h
    · exact wpAny_pyHash_str h
  eqBool := fun hu hv h => by
    rcases keyIs_shape hu with ⟨i, t, rfl, rfl⟩ | ⟨x, t, rfl, rfl⟩
    · rcases keyIs_shape hv with ⟨j, u, rfl, rfl⟩ | ⟨y, u, rfl, rfl⟩
      · rw [key_ll] at h; exact wpAny_eqBool_int h
      · rw [key_lr] at h; exact SeqAt.EqAt.int_str i t y u _ _ _ _ h
    · rcases keyIs_shape hv with ⟨j, u, rfl, rfl⟩ | ⟨y, u, rfl, rfl⟩
      · rw [key_rl] at h; exact SeqAt.EqAt.str_int x t j u _ _ _ _ h
      · rw [key_rr] at h; exact wpAny_eqBool_str h
  «strs» := fun k x t v h => by
    rcases keyIs_shape h with ⟨i, u, rfl, e⟩ | ⟨y, u, rfl, e⟩
    · exact nomatch e
    · injection e with e1 _
      subst e1
      cases v <;> rfl

end L2

namespace L2
open PySem PySem.Spec PyProof.Rows

/-- a value, without the heap -/
inductive V where
  | non | bl (b : Bool) | int (i : Int) | str (x : Str) | byt (b : Array UInt8) | flt (b : UInt64) | ref (a : Addr) | ty (n : String)
  deriving DecidableEq

def RelV : V → Value → Prop
  | .non, u => u = Value.none
  | .bl b, u => u = Value.bool b
  | .int i, u => ∃ t, u = Value.int i t
  | .str x, u => ∃ t, u = Value.str x t
  | .byt b, u => ∃ t, u = Value.bytes b t
  | .flt b, u => ∃ t, u = Value.float b t
  | .ref a, u => u = Value.ref a
  | .ty n, u => u = Value.type n

abbrev Vals : List V → List Value → Prop := Paired RelV
theorem Vals.length {xs : List V} {us : List Value} (r : Vals xs us) : xs.length = us.length := Paired.length r
theorem Vals.get : ∀ {xs : List V} {us : List Value} {i : Nat} {x : V}, Vals xs us → xs[i]? = some x → ∃ u, us[i]? = some u ∧ RelV x u
  | _, _, _, _, .nil, e => by simp at e
  | _, _, 0, _, .cons r _, e => by simp at e; subst e; exact ⟨_, rfl, r⟩
  | _, _, i + 1, x, .cons _ t, e => by
    obtain ⟨u, h1, h2⟩ := Vals.get (i := i) (x := x) t (by simpa using e)
    exact ⟨u, by simpa using h1, h2⟩
theorem Vals.set {x : V} {u : Value} (r : RelV x u) : ∀ {xs : List V} {us : List Value} (i : Nat), Vals xs us → Vals (xs.set i x) (us.set i u)
  | _, _, _, .nil => .nil
  | _, _, 0, .cons _ t => .cons r t
  | _, _, i + 1, .cons q t => .cons q (Vals.set r i t)
theorem Vals.append : ∀ {xs ys : List V} {us ws : List Value}, Vals xs us → Vals ys ws → Vals (xs ++ ys) (us ++ ws)
  | _, _, _, _, .nil, s => s
  | _, _, _, _, .cons r t, s => .cons r (Vals.append t s)
theorem Vals.take : ∀ {xs : List V} {us : List Value} (n : Nat), Vals xs us → Vals (xs.take n) (us.take n)
  | _, _, 0, _ => .nil
  | _, _, _ + 1, .nil => .nil
  | _, _, n + 1, .cons r t => .cons r (Vals.take n t)
theorem Vals.drop : ∀ {xs : List V} {us : List Value} (n : Nat), Vals xs us → Vals (xs.drop n) (us.drop n)
  | _, _, 0, r => r
  | _, _, _ + 1, .nil => .nil
  | _, _, n + 1, .cons _ t => Vals.drop n t
def RelO : Option V → Option Value → Prop
  | some v, some u => RelV v u
  | none, none => True
  | _, _ => False
def KV {κ : Type} : List (κ × V) → List (κ × Value) → Prop := Paired fun (p : κ × V) (q : κ × Value) => p.1 = q.1 ∧ RelV p.2 q.2

/-- a key of a dict (00_mix): an int or a text -/
def kV : Key → V
  | .inl i => .int i
  | .inr x => .str x

/-- what stands at a tracked address -/
inductive HO where
  /-- a list -/
  | lst (xs : List V)
  /-- a tuple (never changes) -/
  | tup (xs : List V)
  /-- a dict whose keys are ints and texts; one whose keys are tuples of ints and texts (the empty one is both) -/
  | dK (kvs : List (Key × V)) | dT (kvs : List (List Key × V))
  /-- a set of ints: its members, its size -/
  | set (S : Int → Bool) (n : Nat)
  /-- an instance of the class at C, its dict at dx, its attributes -/
  | ins (C dx : Addr) (fs : List (Str × V))
  /-- the dict of the instance at x -/
  | own (x : Addr)
  /-- the dict of an exception -/
  | xd (fs : List (Str × V))
  /-- a bound method, f of x -/
  | met (f x : Addr)
  /-- a range object lo, lo + 1, .. below hi -/
  | rng (lo hi : Int)
  /-- a thing that is known to the object (the script; a dict while a loop walks it): read, never written while it is so -/
  | frz (o : Obj) (u : HO)
  /-- a code object's table -/
  | tbl (ps : Array Value)
  /-- any other thing, by what is true of its one object (a def of one's own: SetO a S n := HO.ext fun h => ..) -/
  | ext (φ : Heap → Prop)

abbrev Hp := Addr → Option HO
def upd (H : Hp) (a : Addr) (o : HO) : Hp := fun b => if b = a then some o else H b
theorem upd_same {H : Hp} {a : Addr} {o : HO} : upd H a o a = some o := by unfold upd; rw [if_pos rfl]
theorem upd_ne {H : Hp} {a b : Addr} {o : HO} (h : b ≠ a) : upd H a o b = H b := by unfold upd; rw [if_neg h]
/-- two objects of different content stand apart -/
theorem ne_of {H : Hp} {a b : Addr} {o u : HO} (h : H a = some o) (h' : H b = some u) (d : o ≠ u) : a ≠ b := by
  intro e; subst e; rw [h] at h'; exact d (Option.some.inj h')
theorem ne_of_none {H : Hp} {a b : Addr} {o : HO} (h : H a = some o) (h' : H b = none) : a ≠ b := by
  intro e; subst e; rw [h] at h'; cases h'

section
variable (P : Program) (w : World)
def ObjOk (H : Hp) (h : Heap) (a : Addr) : HO → Prop
  | .lst xs => xs.length ≤ sizeLine ∧ ∃ (its : List Value) (n : Nat), Vals xs its ∧ h.get? a = some { cls := .type "list", data := .seq its.toArray n }
  | .tup xs => xs.length ≤ sizeLine ∧ ∃ its : List Value, Vals xs its ∧ IsTup h a its.toArray
  | .dK kvs => kvs.length ≤ sizeLine ∧ (a == sysModules) = false ∧ ∃ vs, KV kvs vs ∧ h.DictOf (mixKind P w) a vs
  | .dT kvs => kvs.length ≤ sizeLine ∧ (a == sysModules) = false ∧ ∃ xs : List (List Key × Addr × Value),
      Paired (fun (p : List Key × V) (q : List Key × Addr × Value) => p.1 = q.1 ∧ H q.2.1 = some (.tup (p.1.map kV)) ∧ RelV p.2 q.2.2) kvs xs ∧
      ∃ o es ep, h.get? a = some o ∧ o.ExactDict ∧ o.data = .dict es ep ∧ es.toList = xs.map (entryOfKey (tupleKind (mixKind P w))) ∧ (xs.map (·.1)).Nodup
  | .set S n => h.SetOf (intKind P w) a S n
  | .ins C dx fs => H dx = some (.own a) ∧ fs.length ≤ 1000 ∧ dx ≠ a ∧ h.get? a = some (PySem.W.instObj C dx) ∧
      ∃ mA, h.Ns1 dx mA ∧ (∀ f, RelO (fs.lookup f) (mA f)) ∧ PySem.Within mA (fs.map (·.1))
  | .own _ => ∃ o, h.get? a = some o
  | .xd fs => ∃ mA, h.Ns1 a mA ∧ ∀ f, RelO (fs.lookup f) (mA f)
  | .rng lo hi => ∃ t u v, h.get? a = some { cls := .type "range", data := .fields #[.int lo t, .int hi u, .int 1 v] }
  | .frz o u => h.get? a = some o ∧ ObjOk H h a u
  | .tbl ps => h.get? a = some { cls := .none, data := .fields ps }
  | .met f x => h.get? a = some (PySem.W.methodObj (.ref f) (.ref x))
  | .ext φ => φ h ∧ (∃ o, h.get? a = some o) ∧ ∀ h1 h2 : Heap, φ h1 → (∀ o, h1.get? a = some o → h2.get? a = some o) → φ h2
/-- the abstract heap is held -/
def HOk (H : Hp) (h : Heap) : Prop := ∀ a o, H a = some o → ObjOk P w H h a o
end

section
variable {P : Program} {w : World} {H H' : Hp} {h h' : Heap} {a : Addr} {o : HO}
theorem ObjOk.lt (x : ObjOk P w H h a o) : a < h.objs.size := by
  cases o with
  | lst xs => obtain ⟨_, _, _, _, e⟩ := x; exact Heap.lt_size e
  | tup xs => obtain ⟨_, _, _, p⟩ := x; exact p.lt
  | dK kvs => obtain ⟨_, _, _, _, o, _, _, e, _⟩ := x; exact Heap.lt_size e
  | dT kvs => obtain ⟨_, _, _, _, o, _, _, e, _⟩ := x; exact Heap.lt_size e
  | set S n => obtain ⟨o, _, _, _, e, _⟩ := x; exact Heap.lt_size e
  | ins C dx fs => obtain ⟨_, _, _, e, _⟩ := x; exact Heap.lt_size e
  | own y => obtain ⟨_, e⟩ := x; exact Heap.lt_size e
  | xd fs => obtain ⟨_, ⟨_, _, _, e, _⟩, _⟩ := x; exact Heap.lt_size e
  | rng lo hi => obtain ⟨_, _, _, e⟩ := x; exact Heap.lt_size e
  | frz ob u => obtain ⟨e, _⟩ := x; exact Heap.lt_size e
  | tbl ps => exact Heap.lt_size (show h.get? a = some _ from x)
  | met f y => exact Heap.lt_size (show h.get? a = some _ from x)
  | ext φ => obtain ⟨_, ⟨_, e⟩, _⟩ := x; exact Heap.lt_size e
theorem Paired.mapP {α β : Type} {F G : α → β → Prop} : ∀ {l₁ : List α} {l₂ : List β}, Paired F l₁ l₂ → (∀ a b, F a b → G a b) → Paired G l₁ l₂
  | _, _, .nil, _ => .nil
  | _, _, .cons r t, f => .cons (f _ _ r) (Paired.mapP t f)
/-- what an object's description leans on: its own object, its own dict, the tuples -/
theorem ObjOk.stay (x : ObjOk P w H h a o) (k : ∀ b u, (b = a ∨ H b = some (.own a)) → h.get? b = some u → h'.get? b = some u)
    (ho : ∀ b, H b = some (.own a) → H' b = some (.own a)) (ht : ∀ b xs, H b = some (.tup xs) → H' b = some (.tup xs)) : ObjOk P w H' h' a o := by
  induction o with
  | lst xs => obtain ⟨z, its, n, r, e⟩ := x; exact ⟨z, its, n, r, k _ _ (.inl rfl) e⟩
  | tup xs => obtain ⟨z, its, r, ob, e, c⟩ := x; exact ⟨z, its, r, ob, k _ _ (.inl rfl) e, c⟩
  | dK kvs => obtain ⟨z, y, vs, r, ob, es, ep, e, c⟩ := x; exact ⟨z, y, vs, r, ob, es, ep, k _ _ (.inl rfl) e, c⟩
  | dT kvs =>
    obtain ⟨z, y, xs, r, ob, es, ep, e, c⟩ := x
    exact ⟨z, y, xs, Paired.mapP r fun p q z => ⟨z.1, ht _ _ z.2.1, z.2.2⟩, ob, es, ep, k _ _ (.inl rfl) e, c⟩
  | set S n => obtain ⟨ob, es, ep, t, e, c⟩ := x; exact ⟨ob, es, ep, t, k _ _ (.inl rfl) e, c⟩
  | ins C dx fs =>
    obtain ⟨d, z, ne, e, mA, ⟨od, es, ep, e2, c⟩, r⟩ := x
    exact ⟨ho _ d, z, ne, k _ _ (.inl rfl) e, mA, ⟨od, es, ep, k _ _ (.inr d) e2, c⟩, r⟩
  | own y => obtain ⟨ob, e⟩ := x; exact ⟨ob, k _ _ (.inl rfl) e⟩
  | xd fs => obtain ⟨mA, ⟨od, es, ep, e, c⟩, r⟩ := x; exact ⟨mA, ⟨od, es, ep, k _ _ (.inl rfl) e, c⟩, r⟩
  | rng lo hi => obtain ⟨t, u, v, e⟩ := x; exact ⟨t, u, v, k _ _ (.inl rfl) e⟩
  | frz ob u ih => obtain ⟨e, q⟩ := x; exact ⟨k _ _ (.inl rfl) e, ih q⟩
  | tbl ps =>
    have e : h.get? a = some { cls := .none, data := .fields ps } := x
    show h'.get? a = some { cls := .none, data := .fields ps }
    exact k a _ (.inl rfl) e
  | met f y =>
    have e : h.get? a = some (PySem.W.methodObj (.ref f) (.ref y)) := x
    show h'.get? a = some (PySem.W.methodObj (.ref f) (.ref y))
    exact k a _ (.inl rfl) e
  | ext φ => obtain ⟨p, ⟨o, e⟩, st⟩ := x; exact ⟨st _ _ p fun o q => k _ _ (.inl rfl) q, ⟨o, k _ _ (.inl rfl) e⟩, st⟩
theorem HOk.lt (x : HOk P w H h) (e : H a = some o) : a < h.objs.size := (x a o e).lt
theorem HOk.fresh (x : HOk P w H h) (e : h.objs.size ≤ a) : H a = none := by
  cases q : H a with
  | none => rfl
  | some u => exact absurd (Nat.lt_of_lt_of_le (x.lt q) e) (Nat.lt_irrefl _)
/-- every object of the heap is kept -/
theorem HOk.kept (x : HOk P w H h) (k : ∀ b u, h.get? b = some u → h'.get? b = some u) : HOk P w H h' := fun a o e =>
  (x a o e).stay (fun b u _ q => k b u q) (fun _ q => q) fun _ _ q => q
/-- a new object is laid and tracked -/
theorem HOk.laid (x : HOk P w H h) (k : ∀ b u, h.get? b = some u → h'.get? b = some u) (hp : h.objs.size ≤ a) (new : ObjOk P w (upd H a o) h' a o) : HOk P w (upd H a o) h' := fun b u e => by
  have hn := x.fresh hp
  by_cases hb : b = a
  · subst hb; rw [upd_same] at e; cases e; exact new
  · rw [upd_ne hb] at e
    exact (x b u e).stay (fun c v _ q => k c v q) (fun c q => by rw [upd_ne (ne_of_none q hn)]; exact q) fun c xs q => by rw [upd_ne (ne_of_none q hn)]; exact q
end

/-- what may be read as u: it is u, or a known u -/
def Rd (H : Hp) (a : Addr) (u : HO) : Prop := H a = some u ∨ ∃ o, H a = some (.frz o u)
theorem Rd.ok {P : Program} {w : World} {H : Hp} {h : Heap} {a : Addr} {u : HO} (r : Rd H a u) (x : HOk P w H h) : ObjOk P w H h a u := by
  rcases r with r | ⟨o, r⟩
  · exact x a u r
  · obtain ⟨_, q⟩ := x a _ r
    exact q
/-- what may be written -/
def Mut : Option HO → Prop
  | some (.lst _) => True
  | some (.dK _) => True
  | some (.dT _) => True
  | some (.set _ _) => True
  | some (.ins _ _ _) => True
  | some (.ext _) => True
  | _ => False
section
variable {P : Program} {w : World} {H : Hp} {h h' : Heap} {x e : Addr} {o' : HO}
/-- the object at e is changed: x itself, or the dict of the instance x -/
theorem HOk.write (ok : HOk P w H h) (mu : Mut (H x)) (he : e = x ∨ H e = some (.own x)) (k : ∀ b u, b ≠ e → h.get? b = some u → h'.get? b = some u) (heo : ∃ u, h'.get? e = some u)
    (new : ObjOk P w (upd H x o') h' x o') : HOk P w (upd H x o') h' := fun b u q => by
  have nown : ∀ c y, H c = some (.own y) → c ≠ x := fun c y r z => by subst z; rw [r] at mu; exact mu
  have ntup : ∀ c xs, H c = some (.tup xs) → c ≠ x := fun c xs r z => by subst z; rw [r] at mu; exact mu
  by_cases hb : b = x
  · subst hb; rw [upd_same] at q; cases q; exact new
  · rw [upd_ne hb] at q
    by_cases hbe : b = e
    · have q' : H b = some (.own x) := by
        rcases he with z | z
        · exact absurd (hbe.trans z) hb
        · rw [hbe]; exact z
      rw [q] at q'; cases q'
      obtain ⟨v, hv⟩ := heo
      exact ⟨v, by rw [hbe]; exact hv⟩
    · refine (ok b u q).stay (fun c v hc r => k c v ?_ r) (fun c r => by rw [upd_ne (nown c b r)]; exact r) fun c xs r => by rw [upd_ne (ntup c xs r)]; exact r
      rcases hc with rfl | hc
      · exact hbe
      · rintro rfl
        rcases he with z | z
        · exact nown c b hc z
        · rw [hc] at z; cases z; exact hb rfl
end

structure Un (fs ex : List Addr) (H H' : Hp) (h h' : Heap) : Prop where
  keep : ∀ b o, h.get? b = some o → H b = none → b ∉ fs → b ∉ ex → h'.get? b = some o
  slot : ∀ b o, h.get? b = some o → H b = none → b ∈ fs → b ∉ ex → ∃ sl, h'.get? b = some { o with slots := sl }
  free : ∀ b o, h.get? b = some o → H b = none → b ∉ ex → H' b = none
  there : ∀ b o, h.get? b = some o → b ∉ ex → ∃ o', h'.get? b = some o'
  tups : ∀ b xs, H b = some (.tup xs) → H' b = some (.tup xs)
  frzs : ∀ b o u, H b = some (.frz o u) → H' b = some (.frz o u)
  tbls : ∀ b ps, H b = some (.tbl ps) → ∃ more, H' b = some (.tbl (ps ++ more))
section
variable {fs fs' ex ex' : List Addr} {H H1 H2 : Hp} {h h1 h2 h' : Heap} {a x e : Addr} {o : HO}
theorem Un.any (u : Un fs ex H H1 h h1) {b : Addr} {ob : Obj} (q : h.get? b = some ob) (n : H b = none) (hx : b ∉ ex) : ∃ sl, h1.get? b = some { ob with slots := sl } := by
  by_cases hb : b ∈ fs
  · exact u.slot b ob q n hb hx
  · exact ⟨ob.slots, u.keep b ob q n hb hx⟩
theorem Un.kept (k : ∀ b u, h.get? b = some u → h'.get? b = some u) : Un fs ex H H h h' :=
  ⟨fun b ob q _ _ _ => k b ob q, fun b ob q _ _ _ => ⟨ob.slots, k b ob q⟩, fun _ _ _ n _ => n, fun b ob q _ => ⟨ob, k b ob q⟩, fun _ _ q => q, fun _ _ _ q => q, fun _ ps q => ⟨#[], by rw [q]; simp⟩⟩
theorem Un.refl : Un fs ex H H h h := Un.kept fun _ _ q => q
theorem Un.laid (k : ∀ b u, h.get? b = some u → h'.get? b = some u) (hp : h.objs.size ≤ a) (hn : H a = none) : Un fs ex H (upd H a o) h h' where
  keep := fun b u q _ _ _ => k b u q
  slot := fun b u q _ _ _ => ⟨u.slots, k b u q⟩
  free := fun b u q n _ => by rw [upd_ne (Nat.ne_of_lt (Nat.lt_of_lt_of_le (Heap.lt_size q) hp))]; exact n
  there := fun b u q _ => ⟨u, k b u q⟩
  tups := fun b xs q => by rw [upd_ne (ne_of_none q hn)]; exact q
  frzs := fun b u xs q => by rw [upd_ne (ne_of_none q hn)]; exact q
  tbls := fun b ps q => ⟨#[], by rw [upd_ne (ne_of_none q hn), q]; simp⟩
theorem Un.write (mu : Mut (H x)) (he : e = x ∨ H e = some (.own x)) (k : ∀ b u, b ≠ e → h.get? b = some u → h'.get? b = some u) (heo : ∃ u, h'.get? e = some u) : Un fs ex H (upd H x o) h h' := by
  have hx : ∀ b, H b = none → b ≠ x := fun b n z => by subst z; rw [n] at mu; exact mu
  have hb : ∀ b, H b = none → b ≠ e := fun b n z => by
    subst z
    rcases he with r | r
    · exact hx b n r
    · rw [n] at r; cases r
  have hm : ∀ b u, H b = some u → ¬ Mut (some u) → b ≠ x := fun b u q nm z => by subst z; rw [q] at mu; exact nm mu
  refine ⟨fun b u q n _ _ => k b u (hb b n) q, fun b u q n _ _ => ⟨u.slots, k b u (hb b n) q⟩, fun b u q n _ => by rw [upd_ne (hx b n)]; exact n, fun b u q _ => ?_,
    fun b xs q => by rw [upd_ne (hm b _ q fun z => z)]; exact q, fun b u xs q => by rw [upd_ne (hm b _ q fun z => z)]; exact q, fun b ps q => ⟨#[], by rw [upd_ne (hm b _ q fun z => z), q]; simp⟩⟩
  by_cases hbe : b = e
  · subst hbe; exact heo
  · exact ⟨u, k b u hbe q⟩
end

def trk (h : Heap) (H : Hp) : List Addr := (List.range h.objs.size).filter fun a => (H a).isSome
def hidT (h : Heap) (H : Hp) : Heap := PySem.W.hideAll h (trk h H)
theorem hidT_size (h : Heap) (H : Hp) : (hidT h H).objs.size = h.objs.size := PySem.W.hideAll_size _ _
theorem hidT_get {h : Heap} {H : Hp} {b : Addr} {o : Obj} (e : h.get? b = some o) (n : H b = none) : (hidT h H).get? b = some o :=
  PySem.W.hideAll_get _ e fun hm => by
    have q : (H b).isSome = true := (List.mem_filter.mp hm).2
    rw [n] at q; simp at q
theorem of_hidT {h : Heap} {H : Hp} {b : Addr} {o : Obj} (e : (hidT h H).get? b = some o) : h.get? b = some o ∧ H b = none := by
  have e' : h.get? b = some o := PySem.W.of_hideAll (trk h H) e
  refine ⟨e', ?_⟩
  cases q : H b with
  | none => rfl
  | some x =>
    have hm : b ∈ trk h H := List.mem_filter.mpr ⟨List.mem_range.mpr (Heap.lt_size e'), by simp [q]⟩
    have z : (hidT h H).get? b = none := PySem.W.hideAll_none (trk h H) hm
    rw [z] at e; cases e

end L2

namespace L2
open PySem PySem.Spec PyProof.Rows

/-- the module's facts, over the base: the heap at the law's entry without what is tracked there -/
structure Mod (K : PySem.W.Frag) (mg : Str → Option Value) (base : Heap) : Prop where
  kin : K.In base
  glob : base.Ns mainGlobals mg
  blt : ∃ mb, base.Ns builtinsNs mb ∧ ∀ x : Str, x ≠ "__name__" → mb x = bootBuiltins x
  nolimit : base.NoLimit

/-- the context: a def's body (or a comprehension's block) running. base: fixed through the whole law; s₀, H₀: the entry; outer: the frames whose slots others may change (a def's callers); stack: all frames that run;
   ex: iterators that were made ahead of the entry and are walked here (a comprehension's); fn: the names whose cells were made at the entry (a def: all; a comprehension's block: its own); calm: not within an except suite; pn: pins that every state bears; xe: what is wanted of an exception that leaves the code -/
structure Cx where
  prog : Program
  w : World
  K : PySem.W.Frag
  mg : Str → Option Value
  base : Heap
  A : Around
  N : List Str
  s_0 : Shared
  H_0 : Hp
  env : Env
  outer : List Env
  stack : List Env
  ex : List Addr
  fn : Str → Bool
  calm : Bool
  pn : List (Addr × Obj)
  xe : Value → Shared → Prop
/-- the callers' frames -/
def frs (l : List Env) : List Addr := l.filterMap (·.frame)
abbrev Cx.fs (X : Cx) : List Addr := frs X.outer

def Vis (sc : Scope) (x : Str) : Prop := sc.names.lookup x = some .local ∨ sc.names.lookup x = some .cell ∨ sc.names.lookup x = some .free
def Loc (sc : Scope) (x : Str) : Prop := sc.names.lookup x = some .local ∨ sc.names.lookup x = some .cell
def Look (env : Env) (h : Heap) (m : Str → Option Value) (x : Str) (u : Value) : Prop :=
  (env.kindOf x = some .local ∧ m x = some u) ∨ ((env.kindOf x = some .cell ∨ env.kindOf x = some .free) ∧ ∃ c, env.cells.lookup x = some c ∧ h.IsCell c (some u))

structure Cx.Ok (X : Cx) : Prop where
  mod : Mod X.K X.mg X.base
  kind : X.env.scope.kind = .function
  glob : X.env.globals = mainGlobals
  blt : X.env.builtins = builtinsNs
  above : X.s_0.heap.objs.size ≤ X.env.locals
  inj : ∀ x y c, X.env.cells.lookup x = some c → X.env.cells.lookup y = some c → x = y
  has : ∀ x, (X.env.kindOf x = some .cell ∨ X.env.kindOf x = some .free) → ∃ c, X.env.cells.lookup x = some c
  cab : ∀ x c, X.fn x = true → X.env.cells.lookup x = some c → X.s_0.heap.objs.size ≤ c
  hd : X.calm = true → X.A.handled = none
  frames : X.A.frames = some X.stack
  stk : X.stack = X.outer ∨ (X.stack = X.env :: X.outer ∧ X.env.frame = some X.env.locals)
  exf : ∀ b ∈ X.ex, b ≠ X.env.locals ∧ ∀ x c, X.env.cells.lookup x = some c → c ≠ b
  bs : ∀ b o, X.base.get? b = some o → X.s_0.heap.get? b = some o ∧ X.H_0 b = none
  bsz : X.base.objs.size ≤ X.s_0.heap.objs.size
  noex : ∀ b o, X.base.get? b = some o → b ∉ X.ex
  exfs : ∀ b ∈ X.ex, b ∉ X.fs
  funs : X.s_0.heap.FunFrames X.base X.outer
  frf : ∀ b ∈ X.fs, X.H_0 b = none

structure Inv (X : Cx) (pins : List (Addr × Obj)) (σ : List (Option V)) (H : Hp) (s : Shared) : Prop where
  ok : X.Ok
  os : s.os = X.s_0.os
  bare : AllBare s.gens
  base : Un X.fs X.ex X.H_0 H X.s_0.heap s.heap
  loc : ∃ m, s.heap.Ns X.env.locals m ∧ ∀ (i : Nat) (x : Str) (v : V), X.N[i]? = some x → σ[i]? = some (some v) → Vis X.env.scope x → ∃ u, RelV v u ∧ Look X.env s.heap m x u
  cell : ∀ x c, X.env.cells.lookup x = some c → ∃ v, s.heap.IsCell c v
  free : H X.env.locals = none
  freeC : ∀ x c, X.env.cells.lookup x = some c → H c = none
  pin : ∀ p ∈ X.pn ++ pins, s.heap.get? p.1 = some p.2 ∧ H p.1 = none ∧ p.1 ≠ X.env.locals ∧ p.1 ∉ X.fs ∧ ∀ v, p.2.data ≠ .cell v
  hok : HOk X.prog X.w H s.heap
  len : σ.length = X.N.length

section
variable {X : Cx} {pins : List (Addr × Obj)} {σ : List (Option V)} {H H' : Hp} {s : Shared} {h' : Heap}

theorem Cx.Ok.nofr (ok : X.Ok) {b : Addr} {o : Obj} (e : X.base.get? b = some o) : b ∉ X.fs := fun hb => by
  have := (ok.funs.mem hb).1
  rw [e] at this; cases this
theorem Inv.bs (I : Inv X pins σ H s) : ∀ b o, X.base.get? b = some o → s.heap.get? b = some o ∧ H b = none := fun b o e =>
  ⟨I.base.keep b o (I.ok.bs b o e).1 (I.ok.bs b o e).2 (I.ok.nofr e) (I.ok.noex b o e), I.base.free b o (I.ok.bs b o e).1 (I.ok.bs b o e).2 (I.ok.noex b o e)⟩
theorem Inv.bk (I : Inv X pins σ H s) : ∀ b o, X.base.get? b = some o → s.heap.get? b = some o := fun b o e => (I.bs b o e).1
theorem Inv.mod (I : Inv X pins σ H s) : Mod X.K X.mg X.base := I.ok.mod
theorem Inv.kIn (I : Inv X pins σ H s) : X.K.In s.heap := I.ok.mod.kin.keeps I.bk
/-- the frame over the base: for OpenK's rules (K.In X.base is I.mod.kin) -/
theorem Inv.fr (I : Inv X pins σ H s) : ∃ m, Fr X.base X.env.locals s.heap m :=
  let ⟨m, hn, _⟩ := I.loc
  ⟨m, hn, I.bk, Nat.le_trans I.ok.bsz I.ok.above⟩
theorem Inv.lt (I : Inv X pins σ H s) : X.env.locals < s.heap.objs.size := let ⟨_, hn, _⟩ := I.loc; hn.lt
theorem Inv.sz (I : Inv X pins σ H s) : X.s_0.heap.objs.size ≤ s.heap.objs.size := Nat.le_trans I.ok.above (Nat.le_of_lt I.lt)
theorem Inv.nofs (I : Inv X pins σ H s) {a : Addr} (h : s.heap.objs.size ≤ a) : a ∉ X.fs := fun hb => by
  obtain ⟨_, o, ho, _⟩ := I.ok.funs.mem hb
  exact absurd (Nat.lt_of_lt_of_le (Heap.lt_size ho) (Nat.le_trans I.sz h)) (Nat.lt_irrefl _)
theorem Inv.cne (I : Inv X pins σ H s) : ∀ x c, X.env.cells.lookup x = some c → c ≠ X.env.locals := fun x c e z => by
  obtain ⟨v, o, ho, hd⟩ := I.cell x c e
  obtain ⟨m, ⟨o', es, ep, ho', hd', _⟩, _⟩ := I.loc
  rw [z, ho'] at ho; cases ho; rw [hd'] at hd; cases hd
theorem Inv.funs (I : Inv X pins σ H s) : s.heap.FunFrames X.base X.outer := by
  have all : ∀ (l : List Env), (∀ b ∈ frs l, b ∈ X.fs) → X.s_0.heap.FunFrames X.base l → s.heap.FunFrames X.base l := by
    intro l
    induction l with
    | nil => intro _ _; trivial
    | cons env r ih =>
      intro hs hl
      obtain ⟨hk, ⟨L, o, hf, hn, ho, hd⟩, hr⟩ := hl
      have hL : L ∈ X.fs := hs L (by unfold frs; rw [List.filterMap_cons, hf]; exact List.mem_cons_self)
      obtain ⟨sl, e⟩ := I.base.slot L o ho (I.ok.frf L hL) hL fun z => I.ok.exfs L z hL
      exact ⟨hk, ⟨L, _, hf, hn, e, hd⟩, ih (fun b hb => hs b (by unfold frs; rw [List.filterMap_cons, hf]; exact List.mem_cons_of_mem _ hb)) hr⟩
  exact all X.outer (fun _ hb => hb) I.ok.funs

/-- the frames that run, for a call -/
theorem Inv.stack (I : Inv X pins σ H s) : s.heap.FunFrames X.base X.stack := by
  rcases I.ok.stk with e | ⟨e, hf⟩
  · rw [e]; exact I.funs
  · rw [e]
    obtain ⟨m, hn, _⟩ := I.loc
    refine .cons (by rw [I.ok.kind]; decide) hf hn ?_ I.funs
    exact Heap.get?_none_of_le (Nat.le_trans I.ok.bsz I.ok.above)
theorem Inv.stkSub (I : Inv X pins σ H s) : ∀ b ∈ frs X.stack, b ∈ X.env.locals :: X.fs := fun b hb => by
  rcases I.ok.stk with e | ⟨e, hf⟩
  · rw [e] at hb; exact List.mem_cons_of_mem _ hb
  · rw [e] at hb
    unfold frs at hb
    rw [List.filterMap_cons, hf] at hb
    exact hb
theorem Inv.stkFree (I : Inv X pins σ H s) : ∀ b ∈ frs X.stack, H b = none := fun b hb => by
  rcases List.mem_cons.mp (I.stkSub b hb) with e | hb
  · rw [e]; exact I.free
  · obtain ⟨_, o, ho, _⟩ := I.ok.funs.mem hb
    exact I.base.free b o ho (I.ok.frf b hb) fun z => I.ok.exfs b z hb

/-- THE STEP: the untracked objects but the frame and the records at ch are kept (the callers' frames up to slots), the frame's map is kept, the new abstract heap is held -/
theorem Inv.step {g' : Array GenState} {t' : Nat} {d' : Drawn} {ch : List Addr} (I : Inv X pins σ H s)
    (hch : ∀ b ∈ ch, (b ∈ X.ex ∨ X.s_0.heap.objs.size ≤ b) ∧ b ≠ X.env.locals ∧ (∀ x c, X.env.cells.lookup x = some c → c ≠ b) ∧ ∀ p ∈ X.pn ++ pins, p.1 ≠ b)
    (keep : ∀ b o, b ≠ X.env.locals → b ∉ X.fs → b ∉ ch → s.heap.get? b = some o → H b = none → h'.get? b = some o)
    (slot : ∀ b o, b ≠ X.env.locals → b ∈ X.fs → b ∉ ch → s.heap.get? b = some o → H b = none → ∃ sl, h'.get? b = some { o with slots := sl }) (free : ∀ b o, b ∉ ch → s.heap.get? b = some o → H b = none → H' b = none)
    (there : ∀ b o, b ∉ ch → s.heap.get? b = some o → ∃ o', h'.get? b = some o')
    (tups : ∀ b xs, H b = some (.tup xs) → H' b = some (.tup xs)) (frzs : ∀ b o u, H b = some (.frz o u) → H' b = some (.frz o u)) (tbls : ∀ b ps, H b = some (.tbl ps) → ∃ more, H' b = some (.tbl (ps ++ more)))
    (ns : ∀ m, s.heap.Ns X.env.locals m → h'.Ns X.env.locals m) (hok : HOk X.prog X.w H' h') (hg : AllBare g') :
    Inv X pins σ H' { s with heap := h', gens := g', drawn := d', toks := t' } := by
  have neL : ∀ b o, X.s_0.heap.get? b = some o → b ≠ X.env.locals := fun b o e => Nat.ne_of_lt (Nat.lt_of_lt_of_le (Heap.lt_size e) I.ok.above)
  have neC : ∀ b o, X.s_0.heap.get? b = some o → b ∉ X.ex → b ∉ ch := fun b o e hx hb => by
    rcases (hch b hb).1 with z | z
    · exact hx z
    · exact absurd (Nat.lt_of_lt_of_le (Heap.lt_size e) z) (Nat.lt_irrefl _)
  have cellK : ∀ x c, X.env.cells.lookup x = some c → ∀ v, s.heap.IsCell c v → h'.IsCell c v := fun x c e v ⟨o, ho, hd⟩ => by
    have nch : c ∉ ch := fun z => (hch c z).2.2.1 x c e rfl
    by_cases hc : c ∈ X.fs
    · obtain ⟨sl, q⟩ := slot c o (I.cne x c e) hc nch ho (I.freeC x c e)
      exact ⟨_, q, hd⟩
    · exact ⟨o, keep c o (I.cne x c e) hc nch ho (I.freeC x c e), hd⟩
  refine ⟨I.ok, I.os, hg, ⟨fun b o e n hb hx => ?_, fun b o e n hb hx => ?_, fun b o e n hx => ?_, fun b o e hx => ?_, fun b xs e => tups b xs (I.base.tups b xs e), fun b o xs e => frzs b o xs (I.base.frzs b o xs e), fun b ps e => ?_⟩, ?_, fun x c e => ?_, ?_, fun x c e => ?_, fun p hp => ?_, hok, I.len⟩
  · exact keep b o (neL b o e) hb (neC b o e hx) (I.base.keep b o e n hb hx) (I.base.free b o e n hx)
  · obtain ⟨sl, e1⟩ := I.base.slot b o e n hb hx
    obtain ⟨sl', e2⟩ := slot b _ (neL b o e) hb (neC b o e hx) e1 (I.base.free b o e n hx)
    exact ⟨sl', e2⟩
  · obtain ⟨o', e1⟩ := I.base.there b o e hx
    exact free b o' (neC b o e hx) e1 (I.base.free b o e n hx)
  · obtain ⟨o', e1⟩ := I.base.there b o e hx
    exact there b o' (neC b o e hx) e1
  · obtain ⟨m1, e1⟩ := I.base.tbls b ps e
    obtain ⟨m2, e2⟩ := tbls b _ e1
    exact ⟨m1 ++ m2, by rw [e2, Array.append_assoc]⟩
  · obtain ⟨m, hn, hl⟩ := I.loc
    refine ⟨m, ns m hn, fun i x v e1 e2 e3 => ?_⟩
    obtain ⟨u, r, l⟩ := hl i x v e1 e2 e3
    refine ⟨u, r, ?_⟩
    rcases l with l | ⟨k, c, e, z⟩
    · exact .inl l
    · exact .inr ⟨k, c, e, cellK x c e _ z⟩
  · obtain ⟨v, z⟩ := I.cell x c e
    exact ⟨v, cellK x c e v z⟩
  · obtain ⟨m, ⟨o, _, _, ho, _⟩, _⟩ := I.loc
    exact free _ o (fun z => (hch _ z).2.1 rfl) ho I.free
  · obtain ⟨v, o, ho, hd⟩ := I.cell x c e
    exact free c o (fun z => (hch c z).2.2.1 x c e rfl) ho (I.freeC x c e)
  · obtain ⟨e, n, ne, nf, d⟩ := I.pin p hp
    have nch : p.1 ∉ ch := fun z => (hch p.1 z).2.2.2 p hp rfl
    exact ⟨keep p.1 p.2 ne nf nch e n, free p.1 p.2 nch e n, ne, nf, d⟩
/-- .. where the frame's own object is kept too -/
theorem Inv.un {t' : Nat} (I : Inv X pins σ H s) (u : Un X.fs [] H H' s.heap h') (hok : HOk X.prog X.w H' h') : Inv X pins σ H' { s with heap := h', toks := t' } := by
  obtain ⟨m, ⟨o, es, ep, ho, r⟩, _⟩ := id I.loc
  obtain ⟨sl, hL⟩ := u.any ho I.free (by simp)
  exact I.step (g' := s.gens) (d' := s.drawn) (ch := []) (fun _ z => nomatch z) (fun b o _ hb _ e n => u.keep b o e n hb (by simp)) (fun b o _ hb _ e n => u.slot b o e n hb (by simp)) (fun b o _ e n => u.free b o e n (by simp)) (fun b o _ e => u.there b o e (by simp)) u.tups u.frzs u.tbls (fun m' hm => by
    obtain ⟨o', es', ep', ho', r'⟩ := hm
    rw [ho] at ho'; cases ho'
    exact ⟨_, es', ep', hL, r'⟩) hok I.bare
/-- behind a call (or a comprehension's block): the slots of this frame may have changed too, the records at ch may have turned -/
theorem Inv.call {g' : Array GenState} {t' : Nat} {d' : Drawn} {ch : List Addr} (I : Inv X pins σ H s) (u : Un (frs X.stack) ch H H' s.heap h') (hok : HOk X.prog X.w H' h') (hg : AllBare g')
    (hch : ∀ b ∈ ch, (b ∈ X.ex ∨ X.s_0.heap.objs.size ≤ b) ∧ b ≠ X.env.locals ∧ (∀ x c, X.env.cells.lookup x = some c → c ≠ b) ∧ ∀ p ∈ X.pn ++ pins, p.1 ≠ b) :
    Inv X pins σ H' { s with heap := h', gens := g', drawn := d', toks := t' } := by
  obtain ⟨m, ⟨o, es, ep, ho, r⟩, _⟩ := id I.loc
  obtain ⟨sl, hL⟩ := u.any ho I.free fun z => (hch _ z).2.1 rfl
  exact I.step (ch := ch) hch (fun b o hL hb hc e n => u.keep b o e n (fun z => (List.mem_cons.mp (I.stkSub b z)).elim hL hb) hc) (fun b o _ _ hc e n => u.any e n hc) (fun b o hc e n => u.free b o e n hc) (fun b o hc e => u.there b o e hc) u.tups u.frzs u.tbls (fun m' hm => by
    obtain ⟨o', es', ep', ho', r'⟩ := hm
    rw [ho] at ho'; cases ho'
    exact ⟨_, es', ep', hL, r'⟩) hok hg
/-- an untracked record of ours (an iterator) has turned -/
theorem Inv.turned {t' : Nat} {it : Addr} (I : Inv X pins σ H s) (k : ∀ b o, b ≠ it → s.heap.get? b = some o → h'.get? b = some o) (hn : H it = none) (hL : it ≠ X.env.locals)
    (h1 : it ∈ X.ex ∨ X.s_0.heap.objs.size ≤ it) (h2 : ∀ x c, X.env.cells.lookup x = some c → c ≠ it) (h3 : ∀ p ∈ X.pn ++ pins, p.1 ≠ it) : Inv X pins σ H { s with heap := h', toks := t' } := by
  have nit : ∀ b u, H b = some u → b ≠ it := fun b u e z => by rw [z, hn] at e; cases e
  refine I.step (g' := s.gens) (d' := s.drawn) (ch := [it]) (fun b hb => ?_) (fun b o _ _ hc e _ => k b o (fun z => hc (by simp [z])) e) (fun b o _ _ hc e _ => ⟨o.slots, k b o (fun z => hc (by simp [z])) e⟩) (fun _ _ _ _ n => n)
    (fun b o hc e => ⟨o, k b o (fun z => hc (by simp [z])) e⟩) (fun _ _ e => e) (fun _ _ _ e => e) (fun b ps e => ⟨#[], by rw [e]; simp⟩) (fun m hm => ?_) (fun b u e => ?_) I.bare
  · have e : b = it := by simpa using hb
    subst e
    exact ⟨h1, hL, h2, h3⟩
  · obtain ⟨o, es, ep, ho, r⟩ := hm
    exact ⟨o, es, ep, k _ o (Ne.symm hL) ho, r⟩
  · refine (I.hok b u e).stay (fun c v hc q => k c v ?_ q) (fun _ q => q) fun _ _ q => q
    rcases hc with z | z
    · rw [z]; exact nit b u e
    · exact nit c _ z
theorem Inv.tok (I : Inv X pins σ H s) (t : Nat) : Inv X pins σ H { s with toks := t } := I.un (h' := s.heap) (t' := t) Un.refl I.hok
/-- all objects kept -/
theorem Inv.kept {t' : Nat} (I : Inv X pins σ H s) (k : ∀ b u, s.heap.get? b = some u → h'.get? b = some u) : Inv X pins σ H { s with heap := h', toks := t' } := I.un (Un.kept k) (I.hok.kept k)
/-- a new object laid and tracked -/
theorem Inv.laid {a : Addr} {o : HO} {t' : Nat} (I : Inv X pins σ H s) (k : ∀ b u, s.heap.get? b = some u → h'.get? b = some u) (hp : s.heap.objs.size ≤ a) (new : ObjOk X.prog X.w (upd H a o) h' a o) :
    Inv X pins σ (upd H a o) { s with heap := h', toks := t' } := I.un (Un.laid k hp (I.hok.fresh hp)) (I.hok.laid k hp new)
/-- an object written -/
theorem Inv.write {x e : Addr} {o : HO} {t' : Nat} (I : Inv X pins σ H s) (mu : Mut (H x)) (he : e = x ∨ H e = some (.own x)) (k : ∀ b u, b ≠ e → s.heap.get? b = some u → h'.get? b = some u) (heo : ∃ u, h'.get? e = some u)
    (new : ObjOk X.prog X.w (upd H x o) h' x o) : Inv X pins σ (upd H x o) { s with heap := h', toks := t' } := I.un (Un.write mu he k heo) (I.hok.write mu he k heo new)
/-- forgetting slots, pins -/
theorem Inv.weak {σ' : List (Option V)} (I : Inv X pins σ H s) (hl : σ'.length = σ.length) (w : ∀ (i : Nat) v, σ'[i]? = some (some v) → σ[i]? = some (some v)) : Inv X pins σ' H s :=
  ⟨I.ok, I.os, I.bare, I.base, let ⟨m, hn, hl'⟩ := I.loc; ⟨m, hn, fun i x v e1 e2 e3 => hl' i x v e1 (w i v e2) e3⟩, I.cell, I.free, I.freeC, I.pin, I.hok, hl.trans I.len⟩
theorem Inv.pins_of {pins' : List (Addr × Obj)} (I : Inv X pins σ H s) (h : ∀ p ∈ pins', s.heap.get? p.1 = some p.2 ∧ H p.1 = none ∧ p.1 ≠ X.env.locals ∧ p.1 ∉ X.fs ∧ ∀ v, p.2.data ≠ .cell v) : Inv X pins' σ H s :=
  ⟨I.ok, I.os, I.bare, I.base, I.loc, I.cell, I.free, I.freeC, fun p hp => (List.mem_append.mp hp).elim (fun z => I.pin p (List.mem_append_left _ z)) (h p), I.hok, I.len⟩

theorem nodup_ix {N : List Str} (hN : N.Nodup) {i j : Nat} {x : Str} (a : N[i]? = some x) (b : N[j]? = some x) : i = j := by
  obtain ⟨h1, e1⟩ := List.getElem?_eq_some_iff.mp a
  obtain ⟨h2, e2⟩ := List.getElem?_eq_some_iff.mp b
  exact (List.getElem_inj hN).mp (e1.trans e2.symm)

/-- a name is stored; what changed -/
theorem store_ok2 {M : Model} {A : Around} {E : Value → Shared → Prop} {i : Nat} {x : Str} {v : V} {u : Value} {Q : Unit → Shared → Prop} (I : Inv X pins σ H s) (hN : X.N.Nodup) (hi : X.N[i]? = some x) (hx : Loc X.env.scope x) (r : RelV v u)
    (h : ∀ s', Inv X pins (σ.set i (some v)) H s' → (∃ a, Heap.SameBut a s.heap s'.heap ∧ (a = X.env.locals ∨ X.env.cells.lookup x = some a)) → Q () s') (hf : X.fn x = true ∨ X.env.scope.names.lookup x = some .local := by first | exact .inl rfl | exact .inr rfl | assumption) : wpAny M A (storeName X.env x u) Q E s := by
  obtain ⟨m, hn, hl⟩ := id I.loc
  have hcls : (X.env.scope.kind == .class || (X.env.scope.kind == .module && X.env.locals != X.env.globals)) = false := by rw [I.ok.kind]; rfl
  have hiσ : i < σ.length := by rw [I.len]; exact (List.getElem?_eq_some_iff.mp hi).1
  have cne := I.cne
  have tracked : ∀ {a : Addr} {h' : Heap}, (∃ o, s.heap.get? a = some o ∧ H a = none) → Heap.SameBut a s.heap h' → HOk X.prog X.w H h' := fun {a h'} ha hs b ob e => by
    obtain ⟨_, _, hfree⟩ := ha
    refine (I.hok b ob e).stay (fun c w' hc q => (hs.2 c ?_).trans q) (fun _ q => q) fun _ _ q => q
    rintro rfl
    rcases hc with rfl | hc
    · rw [hfree] at e; cases e
    · rw [hfree] at hc; cases hc
  rcases hx with hk | hk
  · refine wpAny_storeName_local hk hn (fun h' hn' hs => ?_) hcls
    obtain ⟨oL, _, _, hoL, _⟩ := id hn
    refine h _ ⟨I.ok, I.os, I.bare, ⟨fun b o e n hb hx => ?_, fun b o e n hb hx => ?_, I.base.free, fun b o e hx => ?_, I.base.tups, I.base.frzs, I.base.tbls⟩, ⟨_, hn', fun j y v' e1 e2 e3 => ?_⟩, fun y c e => ?_, I.free, I.freeC, fun p hp => ?_, tracked ⟨oL, hoL, I.free⟩ hs, by simpa using I.len⟩ ⟨_, hs, .inl rfl⟩
    · exact (hs.2 b (Nat.ne_of_lt (Nat.lt_of_lt_of_le (Heap.lt_size e) I.ok.above))).trans (I.base.keep b o e n hb hx)
    · obtain ⟨sl, e1⟩ := I.base.slot b o e n hb hx
      exact ⟨sl, (hs.2 b (Nat.ne_of_lt (Nat.lt_of_lt_of_le (Heap.lt_size e) I.ok.above))).trans e1⟩
    · obtain ⟨o', e1⟩ := I.base.there b o e hx
      exact ⟨o', (hs.2 b (Nat.ne_of_lt (Nat.lt_of_lt_of_le (Heap.lt_size e) I.ok.above))).trans e1⟩
    · by_cases hj : j = i
      · subst hj
        rw [hi] at e1; cases e1
        rw [List.getElem?_set_self hiσ] at e2
        cases e2
        exact ⟨u, r, .inl ⟨hk, by simp⟩⟩
      · rw [List.getElem?_set_ne (Ne.symm hj)] at e2
        obtain ⟨u', r', q⟩ := hl j y v' e1 e2 e3
        refine ⟨u', r', ?_⟩
        rcases q with ⟨k, e⟩ | ⟨k, c, e, z⟩
        · refine .inl ⟨k, ?_⟩
          have : y ≠ x := fun e => hj (nodup_ix hN e1 (e ▸ hi))
          simp [this, e]
        · exact .inr ⟨k, c, e, z.sameBut hs (cne y c e)⟩
    · obtain ⟨w', z⟩ := I.cell y c e
      exact ⟨w', z.sameBut hs (cne y c e)⟩
    · obtain ⟨e, n, ne, nf, d⟩ := I.pin p hp
      exact ⟨(hs.2 p.1 ne).trans e, n, ne, nf, d⟩
  · have hfn : X.fn x = true := by
      rcases hf with z | z
      · exact z
      · rw [z] at hk; cases hk
    obtain ⟨c, hc⟩ := I.ok.has x (.inl hk)
    obtain ⟨w', z⟩ := I.cell x c hc
    refine wpAny_storeName_cell I.ok.kind hk hc z (fun h' hc' hs => ?_)
    obtain ⟨oc, hoc, hocd⟩ := id z
    refine h { s with heap := h' } ⟨I.ok, I.os, I.bare, ⟨fun b o e n hb hx => ?_, fun b o e n hb hx => ?_, I.base.free, fun b o e hx => ?_, I.base.tups, I.base.frzs, I.base.tbls⟩, ⟨m, hn.sameBut hs (Ne.symm (cne x c hc)), fun j y v' e1 e2 e3 => ?_⟩, fun y c' e => ?_, I.free, I.freeC, fun p hp => ?_, tracked ⟨oc, hoc, I.freeC x c hc⟩ hs, by simpa using I.len⟩ ⟨c, hs, .inr hc⟩
    · exact (hs.2 b (Nat.ne_of_lt (Nat.lt_of_lt_of_le (Heap.lt_size e) (I.ok.cab x c hfn hc)))).trans (I.base.keep b o e n hb hx)
    · obtain ⟨sl, e1⟩ := I.base.slot b o e n hb hx
      exact ⟨sl, (hs.2 b (Nat.ne_of_lt (Nat.lt_of_lt_of_le (Heap.lt_size e) (I.ok.cab x c hfn hc)))).trans e1⟩
    · obtain ⟨o', e1⟩ := I.base.there b o e hx
      exact ⟨o', (hs.2 b (Nat.ne_of_lt (Nat.lt_of_lt_of_le (Heap.lt_size e) (I.ok.cab x c hfn hc)))).trans e1⟩
    · by_cases hj : j = i
      · subst hj
        rw [hi] at e1; cases e1
        rw [List.getElem?_set_self hiσ] at e2
        cases e2
        exact ⟨u, r, .inr ⟨.inl hk, c, hc, hc'⟩⟩
      · rw [List.getElem?_set_ne (Ne.symm hj)] at e2
        obtain ⟨u', r', q⟩ := hl j y v' e1 e2 e3
        refine ⟨u', r', ?_⟩
        rcases q with q | ⟨k, c', e, z'⟩
        · exact .inl q
        · refine .inr ⟨k, c', e, z'.sameBut hs ?_⟩
          rintro rfl
          exact hj (nodup_ix hN e1 (I.ok.inj _ _ _ e hc ▸ hi))
    · by_cases hcc : c' = c
      · subst hcc; exact ⟨_, hc'⟩
      · obtain ⟨w2, z2⟩ := I.cell y c' e
        exact ⟨w2, z2.sameBut hs hcc⟩
    · obtain ⟨e, n, ne, nf, d⟩ := I.pin p hp
      refine ⟨(hs.2 p.1 ?_).trans e, n, ne, nf, d⟩
      intro q
      rw [q, hoc] at e
      have q' : oc = p.2 := Option.some.inj e
      exact d w' (by rw [← q']; exact hocd)
theorem store_ok {M : Model} {A : Around} {E : Value → Shared → Prop} {i : Nat} {x : Str} {v : V} {u : Value} {Q : Unit → Shared → Prop} (I : Inv X pins σ H s) (hN : X.N.Nodup) (hi : X.N[i]? = some x) (hx : Loc X.env.scope x) (r : RelV v u)
    (h : ∀ s', Inv X pins (σ.set i (some v)) H s' → Q () s') (hf : X.fn x = true ∨ X.env.scope.names.lookup x = some .local := by first | exact .inl rfl | exact .inr rfl | assumption) : wpAny M A (storeName X.env x u) Q E s :=
  store_ok2 I hN hi hx r (fun s' I' _ => h s' I') hf
/-- behind a call or a block, the state as it is -/
theorem Inv.call' {s' : Shared} {ch : List Addr} (I : Inv X pins σ H s) (ho : s'.os = s.os) (u : Un (frs X.stack) ch H H' s.heap s'.heap) (hok : HOk X.prog X.w H' s'.heap) (hg : AllBare s'.gens)
    (hch : ∀ b ∈ ch, (b ∈ X.ex ∨ X.s_0.heap.objs.size ≤ b) ∧ b ≠ X.env.locals ∧ (∀ x c, X.env.cells.lookup x = some c → c ≠ b) ∧ ∀ p ∈ X.pn ++ pins, p.1 ≠ b) : Inv X pins σ H' s' := by
  obtain ⟨h', g', d', t', o'⟩ := s'
  have e : o' = s.os := ho
  subst e
  exact I.call (g' := g') (t' := t') (d' := d') u hok hg hch
end

/-- an exception: its class, its own dict's address (where it has one), the abstract heap behind it -/
abbrev XK := Value → Option Addr → Hp → Prop
abbrev St := List (Option V)
abbrev VK := V → Hp → Prop
/-- an expression's reading; a test's; an argument list's -/
abbrev TE := St → Hp → VK → Prop
abbrev TT := St → Hp → (Bool → Hp → Prop) → Prop
abbrev TA := St → Hp → (List V → Hp → Prop) → Prop
/-- what is wanted behind a statement -/
structure Ends where
  nx : St → Hp → Prop
  rt : VK
  bk : St → Hp → Prop := fun _ _ => False
  ct : St → Hp → Prop := fun _ _ => False
abbrev TS := Ends → St → Hp → Prop

def EP (X : Cx) (pins : List (Addr × Obj)) (σ : St) (Q : VK) (u : Value) (s' : Shared) : Prop := ∃ v H', Inv X pins σ H' s' ∧ RelV v u ∧ Q v H'
def TP (X : Cx) (pins : List (Addr × Obj)) (σ : St) (Q : Bool → Hp → Prop) (b : Bool) (s' : Shared) : Prop := ∃ H', Inv X pins σ H' s' ∧ Q b H'
def AP (X : Cx) (pins : List (Addr × Obj)) (σ : St) (Q : List V → Hp → Prop) (us : List Value) (s' : Shared) : Prop := ∃ vs H', Inv X pins σ H' s' ∧ Vals vs us ∧ Q vs H'
def SP (X : Cx) (pins : List (Addr × Obj)) (D : Ends) (f : Flow) (s' : Shared) : Prop :=
  match f with
  | .next => ∃ σ' H', Inv X pins σ' H' s' ∧ D.nx σ' H'
  | .brk => ∃ σ' H', Inv X pins σ' H' s' ∧ D.bk σ' H'
  | .cont => ∃ σ' H', Inv X pins σ' H' s' ∧ D.ct σ' H'
  | .ret u => ∃ v σ' H', Inv X pins σ' H' s' ∧ RelV v u ∧ D.rt v H'

def PE (X : Cx) (e : Expr) (t : TE) : Prop :=
  ∀ (pins : List (Addr × Obj)) (s : Shared) (σ : St) (H : Hp) (Q : VK), Inv X pins σ H s → t σ H Q → wpAny (model X.prog X.w) X.A (eval e X.env) (EP X pins σ Q) X.xe s
def PT (X : Cx) (e : Expr) (t : TT) : Prop :=
  ∀ (pins : List (Addr × Obj)) (s : Shared) (σ : St) (H : Hp) (Q : Bool → Hp → Prop), Inv X pins σ H s → t σ H Q → wpAny (model X.prog X.w) X.A (isTrue e X.env (eval e X.env)) (TP X pins σ Q) X.xe s
/-- a test whatever its 'whole' is (and, or) -/
def PW (X : Cx) (e : Expr) (t : TT) : Prop :=
  ∀ (whole : Sem Value) (pins : List (Addr × Obj)) (s : Shared) (σ : St) (H : Hp) (Q : Bool → Hp → Prop), Inv X pins σ H s → t σ H Q → wpAny (model X.prog X.w) X.A (isTrue e X.env whole) (TP X pins σ Q) X.xe s
theorem PW.pt {X : Cx} {e : Expr} {t : TT} (h : PW X e t) : PT X e t := h _
/-- an argument list (no star), from the left -/
def PA (X : Cx) (es : List Expr) (t : TA) : Prop :=
  ∀ (pos : Pos) (pins : List (Addr × Obj)) (s : Shared) (σ : St) (H : Hp) (Q : List V → Hp → Prop), Inv X pins σ H s → t σ H Q → wpAny (model X.prog X.w) X.A (spliced (backTo pos (starEach es X.env))) (AP X pins σ Q) X.xe s
def PS (X : Cx) (st : Stmt) (t : TS) : Prop :=
  ∀ (pins : List (Addr × Obj)) (s : Shared) (σ : St) (H : Hp) (D : Ends), Inv X pins σ H s → t D σ H → wpAny (model X.prog X.w) X.A (exec st X.env) (SP X pins D) X.xe s
def PSs (X : Cx) (st : List Stmt) (t : TS) : Prop :=
  ∀ (pins : List (Addr × Obj)) (s : Shared) (σ : St) (H : Hp) (D : Ends), Inv X pins σ H s → t D σ H → wpAny (model X.prog X.w) X.A (execs st X.env) (SP X pins D) X.xe s
/-- weaken the end -/
theorem thn {α : Type} {t : Sem α} {Q Q' : α → Shared → Prop} {M : Model} {A : Around} {E : Value → Shared → Prop} {s : Shared} (h : wpAny M A t Q E s) (hQ : ∀ a s, Q a s → Q' a s) : wpAny M A t Q' E s := wpAny_mono h hQ fun _ _ x => x
end L2

namespace L2
open PySem PySem.Spec PyProof.Rows
section
variable {X : Cx}

/-- two expressions in a row -/
theorem bin {a b : Expr} {ta tb : TE} (ha : PE X a ta) (hb : PE X b tb) {pins : List (Addr × Obj)} {s : Shared} {σ : St} {H : Hp} {R : V → V → Hp → Prop} (I : Inv X pins σ H s) (h : ta σ H fun x H1 => tb σ H1 fun y H2 => R x y H2)
    {α : Type} {Q : α → Shared → Prop} {f : Value → Value → Sem α}
    (hf : ∀ v u s2 x y H2, Inv X pins σ H2 s2 → RelV x v → RelV y u → R x y H2 → wpAny (model X.prog X.w) X.A (f v u) Q X.xe s2) :
    wpAny (model X.prog X.w) X.A (eval a X.env) (fun v s₁ => wpAny (model X.prog X.w) X.A (eval b X.env) (fun u s₂ => wpAny (model X.prog X.w) X.A (f v u) Q X.xe s₂) X.xe s₁) X.xe s := by
  refine thn (ha pins s σ H _ I h) fun v s1 ⟨x, H1, I1, r1, q1⟩ => ?_
  refine thn (hb pins s1 σ H1 _ I1 q1) fun u s2 ⟨y, H2, I2, r2, q2⟩ => ?_
  exact hf v u s2 x y H2 I2 r1 r2 q2

def tVar (i : Nat) : TE := fun σ H Q => ∃ v, σ[i]? = some (some v) ∧ Q v H
def tC (v : V) : TE := fun _ H Q => Q v H
theorem pe_var {i : Nat} {x : Str} {pos : Pos} (hN : X.N[i]? = some x) (hv : Vis X.env.scope x) (hd : (x == ("__debug__" : Str)) = false := by decide) (hcd : (x == ("__classdict__" : Str)) = false := by decide) : PE X (.Name x pos) (tVar i) := by
  intro pins s σ H Q I h
  obtain ⟨v, e, h⟩ := h
  obtain ⟨m, hn, hl⟩ := I.loc
  obtain ⟨u, r, l⟩ := hl i x v hN e hv
  have fin : EP X pins σ Q u s := ⟨v, H, I, r, h⟩
  rcases l with ⟨hk, hm⟩ | ⟨hk, c, hc, hcell⟩
  · exact wpAny_Name (wpAny_loadName_local I.ok.kind hk hn hm fin) hd
  · rcases hk with hk | hk
    · exact wpAny_Name (wpAny_loadName_cell I.ok.kind hk hc hcell fin) hd
    · exact wpAny_Name (wpAny_loadName_free I.ok.kind hk hc hcell fin hcd) hd
theorem pe_int {i j pos} : PE X (.Constant (.int i) j pos) (tC (.int i)) := fun _ _ _ H _ I h => wpAny_Constant_int ⟨.int i, H, I.tok _, ⟨_, rfl⟩, h⟩
theorem pe_non {j pos} : PE X (.Constant .none j pos) (tC .non) := fun _ _ _ H _ I h => Constant_none ⟨.non, H, I, rfl, h⟩
/-- a global name of the def -/
def Gl (X : Cx) (x : Str) : Prop := X.env.kindOf x = some .globalImplicit
theorem ld_glob {E : Value → Shared → Prop} {pins : List (Addr × Obj)} {s : Shared} {σ : St} {H : Hp} {x : Str} {u : Value} {pos : Pos} {Q : Value → Shared → Prop} (I : Inv X pins σ H s) (hg : Gl X x) (hm : X.mg x = some u) (h : Q u s)
    (hd : (x == ("__debug__" : Str)) = false := by decide) : wpAny (model X.prog X.w) X.A (eval (.Name x pos) X.env) Q E s :=
  Calls.Name_function_global I.ok.kind hg (Calls.loadGlobal_global (by rw [I.ok.glob]; exact I.mod.glob.keeps I.bk) hm h) hd
theorem ld_blt {E : Value → Shared → Prop} {pins : List (Addr × Obj)} {s : Shared} {σ : St} {H : Hp} {x : Str} {u : Value} {pos : Pos} {Q : Value → Shared → Prop} (I : Inv X pins σ H s) (hg : Gl X x) (hm : X.mg x = none) (hv : bootBuiltins x = some u) (h : Q u s)
    (hn : x ≠ "__name__" := by decide) (hd : (x == ("__debug__" : Str)) = false := by decide) : wpAny (model X.prog X.w) X.A (eval (.Name x pos) X.env) Q E s := by
  obtain ⟨mb, h1, h2⟩ := I.mod.blt
  exact Calls.Name_function_global I.ok.kind hg (Calls.loadGlobal_builtin (by rw [I.ok.glob]; exact I.mod.glob.keeps I.bk) hm (by rw [I.ok.blt]; exact h1.keeps I.bk) ((h2 x hn).trans hv) h) hd
/-- a module's constant, a class, a function, as a value -/
theorem pe_glob {x : Str} {v : V} {u : Value} {pos : Pos} (hg : Gl X x) (hm : X.mg x = some u) (r : RelV v u) (hd : (x == ("__debug__" : Str)) = false := by decide) : PE X (.Name x pos) (tC v) :=
  fun _ _ _ H _ I h => ld_glob I hg hm ⟨v, H, I, r, h⟩ hd
variable {a b : Expr} {ta tb : TE} {pos : Pos}
variable {tA tB' : TT} {rest : List Expr}
def tAnd (t u : TT) : TT := fun σ H Q => t σ H fun c H1 => if c = true then u σ H1 Q else Q false H1
def tOr (t u : TT) : TT := fun σ H Q => t σ H fun c H1 => if c = true then Q true H1 else u σ H1 Q
theorem pw_and1 (ha : PT X a tA) : PW X (.BoolOp .And [a] pos) tA := by
  intro wh pins s σ H Q I h
  refine isTrue_and (thn (ha pins s σ H Q I h) fun c s1 e => ?_)
  cases c with
  | true => exact isTrue_and_nil e
  | false => exact e
theorem pw_or1 (ha : PT X a tA) : PW X (.BoolOp .Or [a] pos) tA := by
  intro wh pins s σ H Q I h
  refine isTrue_or (thn (ha pins s σ H Q I h) fun c s1 e => ?_)
  cases c with
  | false => exact isTrue_or_nil e
  | true => exact e
theorem pw_and (ha : PT X a tA) (hb : PW X (.BoolOp .And (b :: rest) pos) tB') : PW X (.BoolOp .And (a :: b :: rest) pos) (tAnd tA tB') := by
  intro wh pins s σ H Q I h
  refine isTrue_and (thn (ha pins s σ H _ I h) fun c s1 ⟨H1, I1, q1⟩ => ?_)
  cases c with
  | true => exact hb wh pins s1 σ H1 Q I1 q1
  | false => exact ⟨H1, I1, q1⟩
theorem pw_or (ha : PT X a tA) (hb : PW X (.BoolOp .Or (b :: rest) pos) tB') : PW X (.BoolOp .Or (a :: b :: rest) pos) (tOr tA tB') := by
  intro wh pins s σ H Q I h
  refine isTrue_or (thn (ha pins s σ H _ I h) fun c s1 ⟨H1, I1, q1⟩ => ?_)
  cases c with
  | true => exact ⟨H1, I1, q1⟩
  | false => exact hb wh pins s1 σ H1 Q I1 q1
/-- a if t else b -/
def tIf (t : TT) (ta tb : TE) : TE := fun σ H Q => t σ H fun c H1 => if c = true then ta σ H1 Q else tb σ H1 Q
theorem pe_ifExp {c : Expr} (hc : PT X c tA) (ha : PE X a ta) (hb : PE X b tb) : PE X (.IfExp c a b pos) (tIf tA ta tb) := by
  intro pins s σ H Q I h
  refine wpAny_IfExp (thn (hc pins s σ H _ I h) fun d s1 ⟨H1, I1, q1⟩ => ?_)
  cases d with
  | true => exact ha pins s1 σ H1 Q I1 q1
  | false => exact hb pins s1 σ H1 Q I1 q1
end
end L2

namespace L2
open PySem PySem.Spec PyProof.Rows

def SqL (K : PySem.W.Frag) (H : Hp) (a : Addr) (xs : List V) : Prop :=
  Rd H a (.lst xs) ∨
    ∃ (o : Obj) (its : Array Value) (n : Nat), K.lookup a = some o ∧ o.cls = .type "list" ∧ o.dict = none ∧ o.data = .seq its n ∧ its.size ≤ sizeLine ∧ Vals xs its.toList
def SqT (K : PySem.W.Frag) (H : Hp) (a : Addr) (xs : List V) : Prop :=
  Rd H a (.tup xs) ∨
    ∃ (o : Obj) (its : Array Value) (n : Nat), K.lookup a = some o ∧ o.cls = .type "tuple" ∧ o.data = .seq its n ∧ its.size ≤ sizeLine ∧ Vals xs its.toList
def absV : Value → Option V
  | .none => some .non
  | .bool b => some (.bl b)
  | .int i _ => some (.int i)
  | .str x _ => some (.str x)
  | .bytes b _ => some (.byt b)
  | .float b _ => some (.flt b)
  | .ref a => some (.ref a)
  | .type n => some (.ty n)
  | _ => none
theorem RelV.abs {x : V} {u : Value} (r : RelV x u) : absV u = some x := by
  cases x with
  | non => cases r; rfl
  | bl _ => cases r; rfl
  | int _ => obtain ⟨t, rfl⟩ := r; rfl
  | str _ => obtain ⟨t, rfl⟩ := r; rfl
  | byt _ => obtain ⟨t, rfl⟩ := r; rfl
  | flt _ => obtain ⟨t, rfl⟩ := r; rfl
  | ref _ => cases r; rfl
  | ty _ => cases r; rfl
theorem RelV.inj {x y : V} {u : Value} (r : RelV x u) (q : RelV y u) : x = y := Option.some.inj (r.abs.symm.trans q.abs)
theorem Vals.inj : ∀ {xs ys : List V} {us : List Value}, Vals xs us → Vals ys us → xs = ys
  | _, _, _, .nil, .nil => rfl
  | _, _, _, .cons r t, .cons r' t' => by rw [r.inj r', Vals.inj t t']
section
variable {X : Cx} {pins : List (Addr × Obj)} {σ : St} {H : Hp} {s : Shared} {a : Addr} {xs ys : List V}
theorem SqL.of {K : PySem.W.Frag} (h : H a = some (.lst xs)) : SqL K H a xs := .inl (.inl h)
theorem SqT.of {K : PySem.W.Frag} (h : H a = some (.tup xs)) : SqT K H a xs := .inl (.inl h)
theorem Inv.list (I : Inv X pins σ H s) (h : SqL X.K H a xs) : ∃ its : List Value, Vals xs its ∧ PlainL s.heap a its.toArray ∧ xs.length ≤ sizeLine := by
  rcases h with h | ⟨o, its, n, hk, hc, hd, hs, hz, r⟩
  · obtain ⟨z, its, n, r, e⟩ := h.ok I.hok
    exact ⟨its, r, ⟨_, n, e, rfl, rfl, rfl⟩, z⟩
  · refine ⟨its.toList, r, ⟨o, n, I.kIn a o hk, hc, hd, by simpa using hs⟩, ?_⟩
    have e := r.length
    simp only [Array.length_toList] at e
    omega
theorem Inv.tuple (I : Inv X pins σ H s) (h : SqT X.K H a xs) : ∃ its : List Value, Vals xs its ∧ IsTup s.heap a its.toArray ∧ xs.length ≤ sizeLine := by
  rcases h with h | ⟨o, its, n, hk, hc, hs, hz, r⟩
  · obtain ⟨z, its, r, p⟩ := h.ok I.hok
    exact ⟨its, r, p, z⟩
  · refine ⟨its.toList, r, ⟨o, I.kIn a o hk, hc, n, by simpa using hs⟩, ?_⟩
    have e := r.length
    simp only [Array.length_toList] at e
    omega
theorem Inv.list_inj (I : Inv X pins σ H s) (h : SqL X.K H a xs) (h' : SqL X.K H a ys) : xs = ys := by
  obtain ⟨its, r, ⟨o, n, e, _, _, d⟩, _⟩ := I.list h
  obtain ⟨its', r', ⟨o', n', e', _, _, d'⟩, _⟩ := I.list h'
  rw [e] at e'; cases e'
  rw [d] at d'
  injection d' with d1 _
  have : its = its' := by simpa using congrArg Array.toList d1
  subst this
  exact r.inj r'
end

abbrev Cx.wish (X : Cx) (E : Value → Shared → Prop) : Cx := { X with xe := E }
/-- no exception leaves -/
abbrev Cx.nox (X : Cx) : Cx := X.wish fun _ _ => False
theorem Cx.Ok.wish {X : Cx} (ok : X.Ok) (E : Value → Shared → Prop) : (X.wish E).Ok :=
  ⟨ok.mod, ok.kind, ok.glob, ok.blt, ok.above, ok.inj, ok.has, ok.cab, ok.hd, ok.frames, ok.stk, ok.exf, ok.bs, ok.bsz, ok.noex, ok.exfs, ok.funs, ok.frf⟩
theorem Cx.Ok.unwish {X : Cx} {E : Value → Shared → Prop} (ok : (X.wish E).Ok) : X.Ok :=
  ⟨ok.mod, ok.kind, ok.glob, ok.blt, ok.above, ok.inj, ok.has, ok.cab, ok.hd, ok.frames, ok.stk, ok.exf, ok.bs, ok.bsz, ok.noex, ok.exfs, ok.funs, ok.frf⟩
section
variable {X : Cx} {pins : List (Addr × Obj)} {σ : St} {H : Hp} {s : Shared} {E : Value → Shared → Prop}
theorem Inv.wish (I : Inv X pins σ H s) (E : Value → Shared → Prop) : Inv (X.wish E) pins σ H s := ⟨I.ok.wish E, I.os, I.bare, I.base, I.loc, I.cell, I.free, I.freeC, I.pin, I.hok, I.len⟩
theorem Inv.unwish (I : Inv (X.wish E) pins σ H s) : Inv X pins σ H s := ⟨I.ok.unwish, I.os, I.bare, I.base, I.loc, I.cell, I.free, I.freeC, I.pin, I.hok, I.len⟩
theorem SP.unwish {D : Ends} {f : Flow} {s' : Shared} (h : SP (X.wish E) pins D f s') : SP X pins D f s' := by
  cases f with
  | next => obtain ⟨σ', H', I, q⟩ := h; exact ⟨σ', H', I.unwish, q⟩
  | brk => obtain ⟨σ', H', I, q⟩ := h; exact ⟨σ', H', I.unwish, q⟩
  | cont => obtain ⟨σ', H', I, q⟩ := h; exact ⟨σ', H', I.unwish, q⟩
  | ret u => obtain ⟨v, σ', H', I, r, q⟩ := h; exact ⟨v, σ', H', I.unwish, r, q⟩
theorem PSs.nox {st : List Stmt} {t : TS} (h : PSs X.nox st t) : PSs X st t := fun pins s σ H D I hw =>
  wpAny_mono (h pins s σ H D (I.wish _) hw) (fun _ _ q => q.unwish) fun _ _ z => False.elim z
end

section
variable {X : Cx} {st : Stmt} {rest : List Stmt} {t u : TS} {e : Expr} {te : TE} {pos : Pos}
def tNext : TS := fun D σ H => D.nx σ H
def tSeq (t u : TS) : TS := fun D σ H => t { D with nx := u D } σ H
theorem pss_nil : PSs X [] tNext := fun _ _ σ H _ I h => wpAny_execs_nil ⟨σ, H, I, h⟩
theorem pss_cons (h1 : PS X st t) (h2 : PSs X rest u) : PSs X (st :: rest) (tSeq t u) := by
  intro pins s σ H D I h
  refine wpAny_execs_cons (thn (h1 pins s σ H { D with nx := u D } I h) fun f s1 q => ?_)
  cases f with
  | next =>
    obtain ⟨σ', H', I', q⟩ := q
    exact h2 pins s1 σ' H' D I' q
  | ret v => exact q
  | brk => exact q
  | cont => exact q
theorem pss_one (h1 : PS X st t) : PSs X [st] t := by
  intro pins s σ H D I h
  refine wpAny_execs_cons (thn (h1 pins s σ H D I h) fun f s1 q => ?_)
  cases f with
  | next => exact wpAny_execs_nil q
  | ret v => exact q
  | brk => exact q
  | cont => exact q
/-- in a def's body nothing is shown -/
theorem Inv.quiet {pins : List (Addr × Obj)} {σ : St} {H : Hp} {s : Shared} (I : Inv X pins σ H s) : interactive X.env = false := by simp [interactive, I.ok.kind]
/-- an expression whose value is dropped -/
def tDrop (te : TE) : TS := fun D σ H => te σ H fun _ H1 => D.nx σ H1
theorem ps_expr (he : PE X e te) (hs : swapsWith e none pos.line X.env = pure false := by rfl) : PS X (.Expr e pos) (tDrop te) := by
  intro pins s σ H D I h
  exact wpAny_Expr_any (thn (he pins s σ H _ I h) fun v s1 ⟨x, H1, I1, r1, q1⟩ => ⟨σ, H1, I1, q1⟩) I.quiet hs
def tRet (te : TE) : TS := fun D σ H => te σ H D.rt
theorem ps_ret (he : PE X e te) : PS X (.Return (some e) pos) (tRet te) := by
  intro pins s σ H D I h
  exact wpAny_Return_some (thn (he pins s σ H _ I h) fun v s1 ⟨x, H1, I1, r1, q1⟩ => ⟨x, σ, H1, I1, r1, q1⟩)
def tIfS (c : TT) (t u : TS) : TS := fun D σ H => c σ H fun b H1 => if b = true then t D σ H1 else u D σ H1
theorem ps_if {c : Expr} {a b : List Stmt} {tc : TT} (hc : PT X c tc) (ha : PSs X a t) (hb : PSs X b u) : PS X (.If c a b pos) (tIfS tc t u) := by
  intro pins s σ H D I h
  refine wpAny_If (thn (hc pins s σ H _ I h) fun d s1 ⟨H1, I1, q1⟩ => ?_)
  cases d with
  | true => exact ha pins s1 σ H1 D I1 q1
  | false => exact hb pins s1 σ H1 D I1 q1
end

abbrev TG := V → St → Hp → (St → Hp → Prop) → Prop
abbrev TGs := List V → St → Hp → (St → Hp → Prop) → Prop
def PG (X : Cx) (target : Expr) (t : TG) : Prop :=
  ∀ (pins : List (Addr × Obj)) (s : Shared) (σ : St) (H : Hp) (v : V) (u : Value) (Q : St → Hp → Prop), Inv X pins σ H s → RelV v u → t v σ H Q →
    wpAny (model X.prog X.w) X.A (assign target X.env u) (fun _ s' => ∃ σ' H', Inv X pins σ' H' s' ∧ Q σ' H') X.xe s
/-- several targets, one after another -/
def PGs (X : Cx) (ts : List Expr) (t : TGs) : Prop :=
  ∀ (pins : List (Addr × Obj)) (s : Shared) (σ : St) (H : Hp) (vs : List V) (us : List Value) (Q : St → Hp → Prop), Inv X pins σ H s → Vals vs us → t vs σ H Q →
    wpAny (model X.prog X.w) X.A (assignInOrder ((assignEach ts X.env).map (·.2)) us) (fun _ s' => ∃ σ' H', Inv X pins σ' H' s' ∧ Q σ' H') X.xe s
/-- o[i] = v, by values -/
abbrev TSet := V → V → V → Hp → (Hp → Prop) → Prop
def PSet (X : Cx) (t : TSet) : Prop :=
  ∀ (pins : List (Addr × Obj)) (s : Shared) (σ : St) (H : Hp) (o i v : V) (ov iv u : Value) (Q : Hp → Prop), Inv X pins σ H s → RelV o ov → RelV i iv → RelV v u → t o i v H Q →
    wpAny (model X.prog X.w) X.A (setItem ov iv u) (fun _ s' => ∃ H', Inv X pins σ H' s' ∧ Q H') X.xe s
section
variable {X : Cx} {pos : Pos}
def gName (i : Nat) : TG := fun v σ H Q => Q (σ.set i (some v)) H
theorem pg_name {i : Nat} {x : Str} (hN : X.N.Nodup) (hi : X.N[i]? = some x) (hx : Loc X.env.scope x) (hf : X.fn x = true ∨ X.env.scope.names.lookup x = some .local := by first | exact .inl rfl | exact .inr rfl | assumption) : PG X (.Name x pos) (gName i) := by
  intro pins s σ H v u Q I r h
  exact wpAny_assign_Name (store_ok I hN hi hx r (fun s' I' => ⟨_, H, I', h⟩) hf)
def gNil : TGs := fun vs σ H Q => vs = [] ∧ Q σ H
def gCons (t : TG) (u : TGs) : TGs := fun vs σ H Q => ∃ v r, vs = v :: r ∧ t v σ H fun σ' H' => u r σ' H' Q
theorem pgs_nil : PGs X [] gNil := by
  intro pins s σ H vs us Q I r h
  obtain ⟨e, h⟩ := h
  subst e
  cases r
  exact assignInOrder_nil ⟨σ, H, I, h⟩
theorem pgs_cons {e : Expr} {es : List Expr} {t : TG} {u : TGs} (h1 : PG X e t) (h2 : PGs X es u)
    (hs : (assignEach (e :: es) X.env).map (·.2) = assign e X.env :: (assignEach es X.env).map (·.2) := by rfl) : PGs X (e :: es) (gCons t u) := by
  intro pins s σ H vs us Q I r h
  obtain ⟨v, vr, e1, h⟩ := h
  subst e1
  cases r with
  | cons r rr =>
    rw [hs]
    refine assignInOrder_cons (thn (h1 pins s σ H _ _ _ I r h) fun _ s1 ⟨σ1, H1, I1, q1⟩ => ?_)
    exact h2 pins s1 σ1 H1 _ _ Q I1 rr q1
/-- (a, b, ..) = a tuple of that length -/
def gTup (K : PySem.W.Frag) (n : Nat) (t : TGs) : TG := fun v σ H Q => ∃ a xs, v = .ref a ∧ SqT K H a xs ∧ xs.length = n ∧ t xs σ H Q
theorem pg_tup {es : List Expr} {k : Nat} {t : TGs} {n : Nat} (hc : X.calm = true) (h : PGs X es t)
    (hn : (assignEach es X.env).length = n := by rfl) (hst : (assignEach es X.env).findIdx? (·.1) = none := by rfl) : PG X (.Tuple es k pos) (gTup X.K n t) := by
  intro pins s σ H v u Q I r hw
  obtain ⟨a, xs, e1, hq, hl, hw⟩ := hw
  subst e1
  cases r
  obtain ⟨its, rv, ht, hz⟩ := I.tuple hq
  refine assign_Tuple_tuple (I.ok.hd hc) ht (by simp [hn, ← hl, rv.length]) hst fun h' hx => ?_
  have I1 : Inv X pins σ H { s with heap := h' } := I.kept (t' := s.toks) fun b o e => hx b o (Nat.ne_of_lt (Heap.lt_size e)) e
  exact h pins _ σ H xs _ Q I1 (by simpa using rv) hw
/-- o[i] = .. -/
def gSub (to ti : TE) (t : TSet) : TG := fun v σ H Q => to σ H fun o H1 => ti σ H1 fun i H2 => t o i v H2 fun H3 => Q σ H3
theorem pg_sub {o i : Expr} {to ti : TE} {t : TSet} (ho : PE X o to) (hi : PE X i ti) (hs : PSet X t)
    (ha : ∀ v, assign (.Subscript o i pos) X.env v = (do
      let ov ← holding [v] (eval o X.env)
      let iv ← holding [v, ov] (eval i X.env)
      standAt pos
      holding [v, ov, iv] (setItem ov iv v)
      release [v, ov, iv] []) := by intro _; rfl) : PG X (.Subscript o i pos) (gSub to ti t) := by
  intro pins s σ H v u Q I r h
  rw [ha]
  refine wpAny_bind (wpAny_holding (thn (ho pins s σ H _ I h) fun ov s1 ⟨x, H1, I1, r1, q1⟩ => ?_))
  refine wpAny_bind (wpAny_holding (thn (hi pins s1 σ H1 _ I1 q1) fun iv s2 ⟨y, H2, I2, r2, q2⟩ => ?_))
  refine wpAny_bind (wpAny_standAt (wpAny_bind (wpAny_holding (thn (hs pins s2 σ H2 x y v ov iv u _ I2 r1 r2 r q2) fun _ s3 ⟨H3, I3, q3⟩ => ?_))))
  exact wpAny_release ⟨σ, H3, I3, q3⟩
/-- target = value -/
def tAsg (te : TE) (g : TG) : TS := fun D σ H => te σ H fun x H1 => g x σ H1 D.nx
theorem ps_asg {tg e : Expr} {te : TE} {g : TG} (he : PE X e te) (hg : PG X tg g) (hs : swapsWithSole [tg] e pos.line X.env = pure false := by rfl) (hw : swappedStores [tg] e X.env = pure none := by rfl)
    (h1 : (assignEach [tg] X.env).map (·.2) = [assign tg X.env] := by rfl) : PS X (.Assign [tg] e pos) (tAsg te g) := by
  intro pins s σ H D I h
  refine wpAny_Assign_stores (thn (he pins s σ H _ I h) fun v s1 ⟨x, H1, I1, r1, q1⟩ => ?_) hs hw
  rw [h1]
  exact thn (hg pins s1 σ H1 x v _ I1 r1 q1) fun _ s2 q => q
/-- name = value -/
theorem ps_set {i : Nat} {x : Str} {e : Expr} {te : TE} {pos' : Pos} (hN : X.N.Nodup) (hi : X.N[i]? = some x) (hx : Loc X.env.scope x) (he : PE X e te) (hs : swapsWith e (some (.Name x pos')) pos.line X.env = pure false := by rfl) (hf : X.fn x = true ∨ X.env.scope.names.lookup x = some .local := by first | exact .inl rfl | exact .inr rfl | assumption) :
    PS X (.Assign [.Name x pos'] e pos) (tAsg te (gName i)) := by
  intro pins s σ H D I h
  refine wpAny_Assign_Name (thn (he pins s σ H _ I h) fun v s1 ⟨y, H1, I1, r1, q1⟩ => ?_) hs
  exact store_ok I1 hN hi hx r1 (fun s2 I2 => ⟨_, H1, I2, q1⟩) hf
end

section
variable {X : Cx} {pos : Pos}
/-- the invariant W with its measure -/
def tWhile (c : TT) (tb : TS) : TS := fun D σ H => ∃ W : Nat → St → Hp → Prop, (∃ m, W m σ H) ∧ ∀ m σ H, W m σ H →
  c σ H fun b H1 => if b = true then ∃ N : St → Hp → Prop, (∀ σ' H', N σ' H' → ∃ m', m' < m ∧ W m' σ' H') ∧ tb { D with nx := N, ct := N, bk := D.nx } σ H1 else D.nx σ H1
theorem ps_while {c : Expr} {body : List Stmt} {tc : TT} {tb : TS} (hp : PassesOwn (model X.prog X.w) X.A X.env X.xe) (hc : PT X c tc) (hb : PSs X body tb) : PS X (.While c body [] pos) (tWhile tc tb) := by
  intro pins s σ H D I h
  obtain ⟨W, ⟨m0, w0⟩, turn⟩ := h
  refine wpAny_While (codeAny_whileLoop (fun n s' => ∃ σ' H', Inv X pins σ' H' s' ∧ W n σ' H') ?_ m0 ⟨σ, H, I, w0⟩)
  rintro n s1 ⟨σ1, H1, I1, w1⟩
  refine wpAny_passesOwn hp (thn (hc pins s1 σ1 H1 _ I1 (turn n σ1 H1 w1)) fun b s2 ⟨H2, I2, q2⟩ => ?_)
  cases b with
  | true =>
    obtain ⟨N, hN, q2⟩ := q2
    rw [if_pos rfl]
    refine wpAny_passesOwn hp (thn (hb pins s2 σ1 H2 _ I2 q2) fun f s3 q3 => ?_)
    cases f with
    | next =>
      obtain ⟨σ3, H3, I3, n3⟩ := q3
      obtain ⟨m', hm, w3⟩ := hN σ3 H3 n3
      exact ⟨m', hm, σ3, H3, I3, w3⟩
    | cont =>
      obtain ⟨σ3, H3, I3, n3⟩ := q3
      obtain ⟨m', hm, w3⟩ := hN σ3 H3 n3
      exact ⟨m', hm, σ3, H3, I3, w3⟩
    | brk => exact q3
    | ret v => exact q3
  | false =>
    rw [if_neg Bool.false_ne_true]
    exact wpAny_execs_nil ⟨σ1, H2, I2, q2⟩
end

/-- at turn i: it yields x (the heap may grow), or it stops -/
structure It where
  go : Nat → Hp → Prop
  yld : Nat → Hp → V → Hp → Prop
  stop : Nat → Hp → Prop
/-- the iterator's own objects may turn: they are not the frame's, not pinned, younger than the entry (or a comprehension's own) -/
def FpOk (X : Cx) (pins : List (Addr × Obj)) (H : Hp) (b : Addr) : Prop :=
  H b = none ∧ b ≠ X.env.locals ∧ b ∉ X.fs ∧ (b ∈ X.ex ∨ X.s_0.heap.objs.size ≤ b) ∧ (∀ x c, X.env.cells.lookup x = some c → c ≠ b) ∧ ∀ p ∈ X.pn ++ pins, p.1 ≠ b
theorem Inv.fpOk {X : Cx} {pins : List (Addr × Obj)} {σ : St} {H H' : Hp} {s : Shared} {b : Addr} (I : Inv X pins σ H s) (hb : s.heap.objs.size ≤ b) (hn : H' b = none) : FpOk X pins H' b := by
  refine ⟨hn, Nat.ne_of_gt (Nat.lt_of_lt_of_le I.lt hb), I.nofs hb, .inr (Nat.le_trans I.sz hb), fun x c e z => ?_, fun p hp z => ?_⟩
  · obtain ⟨v, q⟩ := I.cell x c e
    exact absurd (Nat.lt_of_lt_of_le q.lt (by rw [z]; exact hb)) (Nat.lt_irrefl _)
  · exact absurd (Nat.lt_of_lt_of_le (Heap.lt_size (I.pin p hp).1) (by rw [z]; exact hb)) (Nat.lt_irrefl _)
structure Turn (P : Program) (w : World) (K : PySem.W.Frag) (tg : Expr) (J : It) (fp : List Addr) (it : Addr) (tn : Nat → Heap → Prop) : Prop where
  mem : it ∈ fp
  obj : ∀ i h, tn i h → ∀ b ∈ fp, ∃ o, h.get? b = some o ∧ ∀ v, o.data ≠ .cell v
  keep : ∀ i h h', tn i h → (∀ b ∈ fp, ∀ o, h.get? b = some o → h'.get? b = some o) → tn i h'
  item : ∀ (X : Cx), X.prog = P → X.w = w → X.K = K → X.calm = true → ∀ (i : Nat) (pins : List (Addr × Obj)) (s : Shared) (σ : St) (H : Hp) (E : Value → Shared → Prop), Inv X pins σ H s → (∀ b ∈ fp, FpOk X pins H b) → tn i s.heap → J.go i H →
    wpAny (model P w) X.A (pyNext (.ref it)) (fun r s1 => ∃ u, r = some u ∧
      wpAny (model P w) X.A (letOwnedTupleGo tg (.ref it) u) (fun _ s2 => ∃ x H', Inv X pins σ H' s2 ∧ RelV x u ∧ J.yld i H x H' ∧ tn (i + 1) s2.heap ∧ ∀ b ∈ fp, H' b = none) E s1) E s
  done : ∀ (X : Cx), X.prog = P → X.w = w → X.K = K → X.calm = true → ∀ (i : Nat) (pins : List (Addr × Obj)) (s : Shared) (σ : St) (H : Hp) (E : Value → Shared → Prop), Inv X pins σ H s → (∀ b ∈ fp, FpOk X pins H b) → tn i s.heap → J.stop i H →
    wpAny (model P w) X.A (pyNext (.ref it)) (fun r s1 => r = none ∧ Inv X pins σ H s1) E s
  self : ∀ (A : Around) (i : Nat) (s : Shared) (Q : Value → Shared → Prop) (E : Value → Shared → Prop), tn i s.heap → Q (.ref it) s → wpAny (model P w) A (pyIter (.ref it)) Q E s
abbrev TI := St → Hp → (It → Hp → Prop) → Prop
/-- an iterator has come -/
def PIE (X : Cx) (pins : List (Addr × Obj)) (σ : St) (tg : Expr) (R : It → Hp → Prop) (itv : Value) (s2 : Shared) : Prop :=
  ∃ (it : Addr) (fp : List Addr) (tn : Nat → Heap → Prop) (J : It) (H' : Hp), itv = .ref it ∧ Inv X pins σ H' s2 ∧ Turn X.prog X.w X.K tg J fp it tn ∧ tn 0 s2.heap ∧ (∀ b ∈ fp, FpOk X pins H' b) ∧ R J H'
def PI (X : Cx) (tg iter : Expr) (wi : TI) : Prop :=
  ∀ (pins : List (Addr × Obj)) (s : Shared) (σ : St) (H : Hp) (R : It → Hp → Prop), Inv X pins σ H s → wi σ H R →
    wpAny (model X.prog X.w) X.A (eval iter X.env) (fun v s1 => wpAny (model X.prog X.w) X.A (pyIter v) (PIE X pins σ tg R) X.xe s1) X.xe s

/-- the step ahead of the store is nothing for an iterator that keeps no tuple -/
theorem go_of {M : Model} {A : Around} {E : Value → Shared → Prop} {s : Shared} {tg : Expr} {it : Addr} {u : Value} {o : Obj} {n : String} {vs : Array Value} {Q : Unit → Shared → Prop} (ho : s.heap.get? it = some o) (hc : o.cls = .type n) (hd : o.data = .fields vs)
    (hn : ["enumerate", "zip", "dict_itemiterator", "dict_reverseitemiterator", "odict_iterator", "itertools.zip_longest", "itertools.pairwise"].contains n = false) (hQ : Q () s) : wpAny M A (letOwnedTupleGo tg (.ref it) u) Q E s := by
  unfold letOwnedTupleGo
  cases tg <;> first
    | exact wpAny_pure hQ
    | (cases u <;> first
        | exact wpAny_pure hQ
        | (refine wpAny_bind (wpAny_load ho ?_)
           rw [hc, hd]
           show wpAny M A (if (["enumerate", "zip", "dict_itemiterator", "dict_reverseitemiterator", "odict_iterator", "itertools.zip_longest", "itertools.pairwise"].contains n && vs[0]? == some (rawInt _)) = true then _ else _) Q E s
           rw [if_neg (by intro h; rw [hn, Bool.false_and] at h; cases h)]
           exact wpAny_pure hQ))

/-- the list at a, as it stands at each turn (a loop may append to it) -/
def Itl (K : PySem.W.Frag) (a : Addr) : It :=
  ⟨fun i H => ∃ xs x, SqL K H a xs ∧ xs[i]? = some x, fun i H x H' => H' = H ∧ ∀ xs, SqL K H a xs → xs[i]? = some x, fun i H => ∃ xs, SqL K H a xs ∧ xs.length ≤ i⟩
/-- lo, lo + 1, .. (n of them) -/
def Itr (lo : Int) (n : Nat) : It := ⟨fun i _ => i < n, fun i H x H' => H' = H ∧ x = .int (lo + i), fun i _ => n ≤ i⟩
theorem turn_list {P : Program} {w : World} {K : PySem.W.Frag} {tg : Expr} (a it : Addr) : Turn P w K tg (Itl K a) [it] it (fun i h => h.IsListIter it a i) where
  mem := by simp
  obj := fun i h st b hb => by
    have e : b = it := by simpa using hb
    subst e
    obtain ⟨o, e, c, d⟩ := st
    exact ⟨o, e, fun v z => by rw [d] at z; cases z⟩
  keep := fun i h h' st k => st.at fun o e => k it (by simp) o e
  item := by
    intro X hP hw hK hc i pins s σ H E I hf st hg
    subst hP hw hK
    obtain ⟨xs, x, hq, hx⟩ := hg
    obtain ⟨its, rv, p, hz⟩ := I.list hq
    obtain ⟨u, hu, ru⟩ := rv.get hx
    obtain ⟨f0, f1, f2, f3, f4, f5⟩ := hf it (by simp)
    refine wpAny_pyNext_list_item st p.isList (x := u) (by simpa using hu) fun h' st' sb => ?_
    have I1 : Inv X pins σ H { s with heap := h' } := I.turned (t' := s.toks) (fun b o hb e => (sb.2 b hb).trans e) f0 f1 f3 f4 f5
    obtain ⟨o, e, c, d⟩ := id st'
    exact ⟨u, rfl, go_of (s := { s with heap := h' }) e c d (by decide) ⟨x, H, I1, ru, ⟨rfl, fun ys hy => by rw [I.list_inj hy hq]; exact hx⟩, st', fun b hb => (hf b hb).1⟩⟩
  done := by
    intro X hP hw hK hc i pins s σ H E I hf st hg
    subst hP hw hK
    obtain ⟨xs, hq, hx⟩ := hg
    obtain ⟨its, rv, p, hz⟩ := I.list hq
    obtain ⟨f0, f1, f2, f3, f4, f5⟩ := hf it (by simp)
    have hl := rv.length
    exact wpAny_pyNext_list_end (I.ok.hd hc) st p.isList (by simp; omega) fun h' eb => ⟨rfl, I.turned (t' := s.toks) (fun b o hb e => eb b o hb e) f0 f1 f3 f4 f5⟩
  self := fun _ _ _ _ _ st h => wpAny_pyIter_listiter st h
theorem turn_range {P : Program} {w : World} {K : PySem.W.Frag} {tg : Expr} (it : Addr) (lo : Int) (n : Nat) : Turn P w K tg (Itr lo n) [it] it (fun i h => IsRangeIter h it (lo + (i : Nat) * 1) ((n : Int) - (i : Nat)) 1) where
  mem := by simp
  obj := fun i h st b hb => by
    have e : b = it := by simpa using hb
    subst e
    exact ⟨_, st, fun v z => by
      have z' : Data.fields _ = Data.cell v := z
      cases z'⟩
  keep := fun i h h' st k => k it (by simp) _ st
  item := by
    intro X hP hw hK hc i pins s σ H E I hf st hg
    subst hP hw hK
    obtain ⟨f0, f1, f2, f3, f4, f5⟩ := hf it (by simp)
    have W := Walks.range (prog := X.prog) (w := X.w) (I.ok.hd hc) it lo 1 n
    refine W.item i s _ _ hg st fun v h' tk hv st' kk => ?_
    obtain ⟨t, rfl⟩ := hv
    have I1 : Inv X pins σ H { s with heap := h', toks := tk } := I.turned (fun b o hb e => kk b o (by simpa using hb) e) f0 f1 f3 f4 f5
    refine ⟨_, rfl, go_of (s := { s with heap := h', toks := tk }) (n := "range_iterator") st' rfl rfl (by decide) ⟨.int (lo + i), H, I1, ⟨t, ?_⟩, ⟨rfl, rfl⟩, st', fun b hb => (hf b hb).1⟩⟩
    rw [Int.mul_one]
  done := by
    intro X hP hw hK hc i pins s σ H E I hf st hg
    subst hP hw hK
    obtain ⟨f0, f1, f2, f3, f4, f5⟩ := hf it (by simp)
    exact wpAny_pyNext_range_end (I.ok.hd hc) st (by have : n ≤ i := hg; omega) fun h' eb => ⟨rfl, I.turned (t' := s.toks) (fun b o hb e => eb b o hb e) f0 f1 f3 f4 f5⟩
  self := fun _ _ _ _ _ st h => wpAny_pyIter_rangeiter st h
end L2

namespace L2
open PySem PySem.Spec PyProof.Rows
section
variable {X : Cx} {tg : Expr}
def iList (K : PySem.W.Frag) (tl : TE) : TI := fun σ H R => tl σ H fun x H1 => ∃ a, x = .ref a ∧ (∃ xs, SqL K H1 a xs) ∧ R (Itl K a) H1
theorem pi_list {l : Expr} {tl : TE} (hl : PE X l tl) : PI X tg l (iList X.K tl) := by
  intro pins s σ H R I h
  refine thn (hl pins s σ H _ I h) fun v s1 ⟨x, H1, I1, r1, q1⟩ => ?_
  obtain ⟨a, e, ⟨xs, hq⟩, q⟩ := q1
  subst e
  cases r1
  obtain ⟨its, rv, p, hz⟩ := I1.list hq
  refine wpAny_pyIter_list p.isList ?_
  refine ⟨s1.heap.objs.size, [s1.heap.objs.size], _, _, H1, rfl, I1.kept (t' := s1.toks) fun b o e => Heap.get?_push_of_some _ e, turn_list a _, ⟨_, Heap.get?_push_size _ rfl, rfl, rfl⟩, fun b hb => ?_, q⟩
  have e : b = s1.heap.objs.size := by simpa using hb
  subst e
  exact I1.fpOk (Nat.le_refl _) (I1.hok.fresh (Nat.le_refl _))
/-- a range object just made, walked -/
theorem range_it {pins : List (Addr × Obj)} {σ : St} {H : Hp} {s : Shared} {R : It → Hp → Prop} {E : Value → Shared → Prop} {lo hi : Int} {t u v : Tok} {tk : Nat} (I : Inv X pins σ H s) (h1 : -(2 ^ 62) ≤ lo) (h2 : lo < 2 ^ 62) (h3 : -(2 ^ 62) ≤ hi) (h4 : hi < 2 ^ 62)
    (q : R (Itr lo (hi - lo).toNat) H) : wpAny (model X.prog X.w) X.A (pyIter (.ref s.heap.objs.size)) (PIE X pins σ tg R) E { s with heap := s.heap.push { cls := .type "range", data := .fields #[.int lo t, .int hi u, .int 1 v] }, toks := tk } := by
  refine wpAny_pyIter_range (IsRange.new ..) (small_one h1 h2 h3 h4) ?_
  have I1 : Inv X pins σ H { s with heap := s.heap.push { cls := .type "range", data := .fields #[.int lo t, .int hi u, .int 1 v] }, toks := tk } := I.kept fun b o e => Heap.get?_push_of_some _ e
  refine ⟨(s.heap.push { cls := .type "range", data := .fields #[.int lo t, .int hi u, .int 1 v] }).objs.size, [(s.heap.push { cls := .type "range", data := .fields #[.int lo t, .int hi u, .int 1 v] }).objs.size], _, _, H, rfl,
    I1.kept (t' := tk) fun b o e => Heap.get?_push_of_some _ e, turn_range _ lo (hi - lo).toNat, ?_, fun b hb => ?_, q⟩
  · have e1 : lo + ((0 : Nat) : Int) * 1 = lo := by simp
    have e2 : (((hi - lo).toNat : Nat) : Int) - ((0 : Nat) : Int) = Builtin.Range.rangeSize lo hi 1 := by rw [rangeSize_one]; split <;> omega
    show IsRangeIter _ _ (lo + ((0 : Nat) : Int) * 1) ((((hi - lo).toNat : Nat) : Int) - ((0 : Nat) : Int)) 1
    rw [e1, e2]
    exact Heap.get?_push_size _ rfl
  · have e : b = (s.heap.push { cls := .type "range", data := .fields #[.int lo t, .int hi u, .int 1 v] }).objs.size := by simpa using hb
    subst e
    exact I1.fpOk (Nat.le_refl _) (I1.hok.fresh (Nat.le_refl _))
def iRng1 (ta : TA) : TI := fun σ H R => ta σ H fun vs H1 => ∃ j : Int, vs = [.int j] ∧ -(2 ^ 62) ≤ j ∧ j < 2 ^ 62 ∧ R (Itr 0 j.toNat) H1
def iRng2 (ta : TA) : TI := fun σ H R => ta σ H fun vs H1 => ∃ i j : Int, vs = [.int i, .int j] ∧ (-(2 ^ 62) ≤ i ∧ i < 2 ^ 62 ∧ -(2 ^ 62) ≤ j ∧ j < 2 ^ 62) ∧ R (Itr i (j - i).toNat) H1
theorem pi_range1 {a : Expr} {ta : TA} {p pos : Pos} (hg : Gl X "range") (hm : X.mg "range" = none) (ha : PA X [a] ta) (hs : starEach [a] X.env = [(false, eval a X.env)] := by rfl) : PI X tg (.Call (.Name "range" p) [a] [] pos) (iRng1 ta) := by
  intro pins s σ H R I h
  refine Call_ (ld_blt I hg hm boot_range (PyProof.Rows.callWith_type1 (thn (ha pos pins s σ H _ I h) fun us s1 ⟨vs, H1, I1, r1, q1⟩ => ?_) hs rfl))
  obtain ⟨j, e, q1, q2, q⟩ := q1
  subst e
  cases r1 with
  | cons r rr =>
    cases rr
    obtain ⟨t, rfl⟩ := r
    exact call_range_1 (range_it I1 (by omega) (by omega) q1 q2 (by simpa using q))
theorem pi_range2 {a b : Expr} {ta : TA} {p pos : Pos} (hg : Gl X "range") (hm : X.mg "range" = none) (ha : PA X [a, b] ta) (hs : starEach [a, b] X.env = [(false, eval a X.env), (false, eval b X.env)] := by rfl) (hs2 : starEach [b] X.env = [(false, eval b X.env)] := by rfl) :
    PI X tg (.Call (.Name "range" p) [a, b] [] pos) (iRng2 ta) := by
  intro pins s σ H R I h
  refine Call_ (ld_blt I hg hm boot_range (PyProof.Rows.callWith_type1 (thn (ha pos pins s σ H _ I h) fun us s1 ⟨vs, H1, I1, r1, q1⟩ => ?_) (by rw [hs, hs2]) (by rw [hs2]; rfl)))
  obtain ⟨i, j, e, ⟨q1, q2, q3, q4⟩, q⟩ := q1
  subst e
  cases r1 with
  | cons r rr =>
    cases rr with
    | cons r' rr =>
      cases rr
      obtain ⟨t, rfl⟩ := r
      obtain ⟨t', rfl⟩ := r'
      exact call_range_2 (range_it I1 q1 q2 q3 q4 q)

/-- W: the invariant by the turn and a measure; N: what the body is to reach -/
def tFor (wi : TI) (g : TG) (tb : TS) : TS := fun D σ H => wi σ H fun J H1 => ∃ W : Nat → Nat → St → Hp → Prop, (∃ m, W 0 m σ H1) ∧ ∀ i m σ H, W i m σ H →
  (J.stop i H ∧ D.nx σ H) ∨ (J.go i H ∧ ∃ N : St → Hp → Prop, (∀ σ' H', N σ' H' → ∃ m', m' < m ∧ W (i + 1) m' σ' H') ∧ ∀ x H', J.yld i H x H' → g x σ H' fun σ2 H2 => tb { D with nx := N, ct := N, bk := D.nx } σ2 H2)
/-- the records at fp as they stand -/
def pinsAt (fp : List Addr) (h : Heap) : List (Addr × Obj) := fp.filterMap fun b => (h.get? b).map fun o => (b, o)
theorem mem_pinsAt {fp : List Addr} {h : Heap} {b : Addr} {o : Obj} (hb : b ∈ fp) (e : h.get? b = some o) : (b, o) ∈ pinsAt fp h := List.mem_filterMap.mpr ⟨b, hb, by rw [e]; rfl⟩
theorem of_pinsAt {fp : List Addr} {h : Heap} {p : Addr × Obj} (hp : p ∈ pinsAt fp h) : p.1 ∈ fp ∧ h.get? p.1 = some p.2 := by
  obtain ⟨b, hb, e⟩ := List.mem_filterMap.mp hp
  cases q : h.get? b with
  | none => rw [q] at e; cases e
  | some o =>
    rw [q] at e
    have e' : (b, o) = p := Option.some.inj e
    subst e'
    exact ⟨hb, q⟩
theorem Inv.pinned {pins : List (Addr × Obj)} {σ : St} {H : Hp} {s : Shared} {fp : List Addr} (I : Inv X pins σ H s) (hf : ∀ b ∈ fp, FpOk X pins H b) (ho : ∀ b ∈ fp, ∃ o, s.heap.get? b = some o ∧ ∀ v, o.data ≠ .cell v) : Inv X (pins ++ pinsAt fp s.heap) σ H s :=
  I.pins_of fun p hp => (List.mem_append.mp hp).elim (fun z => I.pin p (List.mem_append_right _ z)) fun z => by
    obtain ⟨hb, e⟩ := of_pinsAt z
    obtain ⟨f0, f1, f2, _⟩ := hf p.1 hb
    obtain ⟨o, e', d⟩ := ho p.1 hb
    rw [e] at e'; cases e'
    exact ⟨e, f0, f1, f2, d⟩
theorem Inv.unpinned {pins pl : List (Addr × Obj)} {σ : St} {H : Hp} {s : Shared} (I : Inv X (pins ++ pl) σ H s) : Inv X pins σ H s := I.pins_of fun p hp => I.pin p (List.mem_append_right _ (List.mem_append_left _ hp))
theorem ps_for {iter : Expr} {body : List Stmt} {wi : TI} {g : TG} {tb : TS} {pos : Pos} (hp : PassesOwn (model X.prog X.w) X.A X.env X.xe) (hc : X.calm = true) (hi : PI X tg iter wi) (hg : PG X tg g) (hb : PSs X body tb)
    (hs : ∀ x, foldedSetIterable iter X.env x = pure x := by intro _; rfl) : PS X (.For tg iter body [] pos) (tFor wi g tb) := by
  intro pins s σ H D I h
  refine wpAny_For (thn (hi pins s σ H _ I h) fun v s1 h1 => thn h1 fun itv s2 h2 => ?_) hs
  obtain ⟨it, fp, tn, J, H2, e, I2, T, st2, f2, W, ⟨m0, w0⟩, turn⟩ := h2
  subst e
  -- what stays true of the iterator's objects through the loop
  have stat : ∀ {H' : Hp}, (∀ b ∈ fp, H' b = none) → ∀ b ∈ fp, FpOk X pins H' b := fun hn b hb => ⟨hn b hb, (f2 b hb).2⟩
  refine codeAny_forLoop_any (fun n s' => ∃ i σ' H', Inv X pins σ' H' s' ∧ tn i s'.heap ∧ (∀ b ∈ fp, H' b = none) ∧ W i n σ' H') ?_ m0 ⟨0, σ, H2, I2, st2, fun b hb => (f2 b hb).1, w0⟩
  rintro n s3 ⟨i, σ3, H3, I3, st3, fr3, w3⟩
  rcases turn i n σ3 H3 w3 with ⟨stop, qn⟩ | ⟨go, N, hN, step⟩
  · refine wpAny_passesOwn hp (thn (T.done X rfl rfl rfl hc i pins s3 σ3 H3 X.xe I3 (stat fr3) st3 stop) fun r s4 ⟨hr, I4⟩ => ?_)
    subst hr
    exact wpAny_execs_nil ⟨σ3, H3, I4, qn⟩
  · refine wpAny_passesOwn hp (thn (T.item X rfl rfl rfl hc i pins s3 σ3 H3 X.xe I3 (stat fr3) st3 go) fun r s4 ⟨u, hr, h4⟩ => ?_)
    subst hr
    refine wpAny_passesOwn hp (thn h4 fun _ s5 ⟨x, H5, I5, r5, y5, st5, fr5⟩ => ?_)
    have I5' := I5.pinned (stat fr5) (T.obj _ _ st5)
    refine wpAny_passesOwn hp (thn (hg _ s5 σ3 H5 x u _ I5' r5 (step x H5 y5)) fun _ s6 ⟨σ6, H6, I6, q6⟩ => ?_)
    refine wpAny_passesOwn hp (thn (hb _ s6 σ6 H6 _ I6 q6) fun f s7 q7 => ?_)
    have again : ∀ {σ7 : St} {H7 : Hp}, Inv X (pins ++ pinsAt fp s5.heap) σ7 H7 s7 → N σ7 H7 → ∃ m, m < n ∧ ∃ i σ' H', Inv X pins σ' H' s7 ∧ tn i s7.heap ∧ (∀ b ∈ fp, H' b = none) ∧ W i m σ' H' := fun {σ7 H7} I7 n7 => by
      obtain ⟨m', hm, w7⟩ := hN σ7 H7 n7
      refine ⟨m', hm, i + 1, σ7, H7, I7.unpinned, T.keep _ _ _ st5 fun b hb o e => (I7.pin (b, o) (List.mem_append_right _ (List.mem_append_right _ (mem_pinsAt hb e)))).1, fun b hb => ?_, w7⟩
      obtain ⟨o, e, d⟩ := T.obj _ _ st5 b hb
      exact (I7.pin (b, o) (List.mem_append_right _ (List.mem_append_right _ (mem_pinsAt hb e)))).2.1
    cases f with
    | next => obtain ⟨σ7, H7, I7, n7⟩ := q7; exact again I7 n7
    | cont => obtain ⟨σ7, H7, I7, n7⟩ := q7; exact again I7 n7
    | brk => obtain ⟨σ7, H7, I7, q7⟩ := q7; exact ⟨σ7, H7, I7.unpinned, q7⟩
    | ret v => obtain ⟨x7, σ7, H7, I7, r7, q7⟩ := q7; exact ⟨x7, σ7, H7, I7.unpinned, r7, q7⟩
end

/-- over a list that the body leaves as it is -/
theorem for_list {K : PySem.W.Frag} {a : Addr} {xs : List V} {g : TG} {tb : TS} {D : Ends} {σ : St} {H : Hp} (Pv : Nat → St → Hp → Prop) (h0 : Pv 0 σ H) (hl : ∀ i σ H, i ≤ xs.length → Pv i σ H → SqL K H a xs)
    (hs : ∀ i x σ H, xs[i]? = some x → Pv i σ H → g x σ H fun σ2 H2 => tb { D with nx := Pv (i + 1), ct := Pv (i + 1), bk := D.nx } σ2 H2) (hd : ∀ σ H, Pv xs.length σ H → D.nx σ H) :
    ∃ W : Nat → Nat → St → Hp → Prop, (∃ m, W 0 m σ H) ∧ ∀ i m σ H, W i m σ H →
      ((Itl K a).stop i H ∧ D.nx σ H) ∨ ((Itl K a).go i H ∧ ∃ N : St → Hp → Prop, (∀ σ' H', N σ' H' → ∃ m', m' < m ∧ W (i + 1) m' σ' H') ∧ ∀ x H', (Itl K a).yld i H x H' → g x σ H' fun σ2 H2 => tb { D with nx := N, ct := N, bk := D.nx } σ2 H2) := by
  refine ⟨fun i m σ H => m = xs.length - i ∧ i ≤ xs.length ∧ Pv i σ H, ⟨xs.length, by simp, Nat.zero_le _, h0⟩, ?_⟩
  rintro i m σ H ⟨rfl, hi, p⟩
  have q := hl i σ H hi p
  by_cases hlt : i < xs.length
  · refine .inr ⟨⟨xs, xs[i], q, by simp [hlt]⟩, Pv (i + 1), fun σ' H' p' => ⟨xs.length - (i + 1), by omega, rfl, hlt, p'⟩, fun x H' y => ?_⟩
    obtain ⟨e, y⟩ := y
    subst e
    exact hs i x σ _ (y xs q) p
  · have e : i = xs.length := by omega
    subst e
    exact .inl ⟨⟨xs, q, Nat.le_refl _⟩, hd σ H p⟩
theorem for_range {lo : Int} {n : Nat} {g : TG} {tb : TS} {D : Ends} {σ : St} {H : Hp} (Pv : Nat → St → Hp → Prop) (h0 : Pv 0 σ H)
    (hs : ∀ i σ H, i < n → Pv i σ H → g (.int (lo + i)) σ H fun σ2 H2 => tb { D with nx := Pv (i + 1), ct := Pv (i + 1), bk := D.nx } σ2 H2) (hd : ∀ σ H, Pv n σ H → D.nx σ H) :
    ∃ W : Nat → Nat → St → Hp → Prop, (∃ m, W 0 m σ H) ∧ ∀ i m σ H, W i m σ H →
      ((Itr lo n).stop i H ∧ D.nx σ H) ∨ ((Itr lo n).go i H ∧ ∃ N : St → Hp → Prop, (∀ σ' H', N σ' H' → ∃ m', m' < m ∧ W (i + 1) m' σ' H') ∧ ∀ x H', (Itr lo n).yld i H x H' → g x σ H' fun σ2 H2 => tb { D with nx := N, ct := N, bk := D.nx } σ2 H2) := by
  refine ⟨fun i m σ H => m = n - i ∧ i ≤ n ∧ Pv i σ H, ⟨n, by simp, Nat.zero_le _, h0⟩, ?_⟩
  rintro i m σ H ⟨rfl, hi, p⟩
  by_cases hlt : i < n
  · refine .inr ⟨hlt, Pv (i + 1), fun σ' H' p' => ⟨n - (i + 1), by omega, rfl, hlt, p'⟩, fun x H' y => ?_⟩
    obtain ⟨e, y⟩ := y
    subst e y
    exact hs i σ _ hlt p
  · have e : i = n := by omega
    subst e
    exact .inl ⟨Nat.le_refl _, hd σ H p⟩
end L2

namespace L2
open PySem PySem.Spec PyProof.Rows

abbrev R2 := V → V → Hp → VK → Prop
/-- a two-place operation on values: f is binaryOp op, inplaceOp op or compareOp op -/
def OpR (X : Cx) (f : Value → Value → Sem Value) (r : R2) : Prop :=
  ∀ (pins : List (Addr × Obj)) (s : Shared) (σ : St) (H : Hp) (x y : V) (v u : Value) (Q : VK), Inv X pins σ H s → RelV x v → RelV y u → r x y H Q →
    wpAny (model X.prog X.w) X.A (f v u) (EP X pins σ Q) X.xe s
/-- a one-place operation -/
def UnR (X : Cx) (f : Value → Sem Value) (r : V → Hp → VK → Prop) : Prop :=
  ∀ (pins : List (Addr × Obj)) (s : Shared) (σ : St) (H : Hp) (x : V) (v : Value) (Q : VK), Inv X pins σ H s → RelV x v → r x H Q →
    wpAny (model X.prog X.w) X.A (f v) (EP X pins σ Q) X.xe s
/-- a call of a value that is known (a builtin, a type) with values -/
def CallR (X : Cx) (f : Value) (r : List V → Hp → VK → Prop) : Prop :=
  ∀ (pins : List (Addr × Obj)) (s : Shared) (σ : St) (H : Hp) (xs : List V) (us : List Value) (Q : VK), Inv X pins σ H s → Vals xs us → r xs H Q →
    wpAny (model X.prog X.w) X.A (call f us) (EP X pins σ Q) X.xe s
def tOp (r : R2) (ta tb : TE) : TE := fun σ H Q => ta σ H fun x H1 => tb σ H1 fun y H2 => r x y H2 Q
def tUn (r : V → Hp → VK → Prop) (ta : TE) : TE := fun σ H Q => ta σ H fun x H1 => r x H1 Q
/-- ints in, under C, and a value out -/
def rI (C : Int → Int → Prop) (g : Int → Int → V) : R2 := fun x y H Q => ∃ i j, x = .int i ∧ y = .int j ∧ C i j ∧ Q (g i j) H
def rI0 (g : Int → Int → V) : R2 := fun x y H Q => ∃ i j, x = .int i ∧ y = .int j ∧ Q (g i j) H
def rU (g : Int → V) : V → Hp → VK → Prop := fun x H Q => ∃ i, x = .int i ∧ Q (g i) H

section
variable {X : Cx} {a b c : Expr} {ta tb tc : TE} {pos : Pos}

theorem binT (ha : PE X a ta) (hb : PE X b tb) {pins : List (Addr × Obj)} {s : Shared} {σ : St} {H : Hp} {R : V → V → Hp → Prop} (I : Inv X pins σ H s)
    (h : ta σ H fun x H1 => tb σ H1 fun y H2 => R x y H2) {Q : Value → Shared → Prop} {f : Value → Value → Sem Value}
    (hf : ∀ v u s2 x y H2, Inv X pins σ H2 s2 → RelV x v → RelV y u → R x y H2 → wpAny (model X.prog X.w) X.A (f v u) Q X.xe s2) :
    wpAny (model X.prog X.w) X.A (eval a X.env) (fun v s₁ => wpAny (model X.prog X.w) X.A (eval b X.env) (fun u s₂ => wpAny (model X.prog X.w) X.A (f v u) Q X.xe s₂) X.xe s₁) X.xe s := by
  refine thn (ha pins s σ H _ I h) fun v s1 ⟨x, H1, I1, r1, q1⟩ => ?_
  refine thn (hb pins s1 σ H1 _ I1 q1) fun u s2 ⟨y, H2, I2, r2, q2⟩ => ?_
  exact hf v u s2 x y H2 I2 r1 r2 q2

theorem pe_op {op : Operator} {r : R2} (ho : OpR X (binaryOp op) r) (ha : PE X a ta) (hb : PE X b tb) : PE X (.BinOp a op b pos) (tOp r ta tb) := by
  intro pins s σ H Q I h
  exact wpAny_BinOp (binT ha hb I h fun v u s2 x y H2 I2 rx ry q => ho pins s2 σ H2 x y v u Q I2 rx ry q)
theorem pe_un {op : UnaryOp} {r : V → Hp → VK → Prop} (ho : UnR X (unaryOp op) r) (ha : PE X a ta) : PE X (.UnaryOp op a pos) (tUn r ta) := by
  intro pins s σ H Q I h
  exact UnaryOp_ (thn (ha pins s σ H _ I h) fun v s1 ⟨x, H1, I1, r1, q1⟩ => ho pins s1 σ H1 x v Q I1 r1 q1)
theorem opI {f : Value → Value → Sem Value} {C : Int → Int → Prop} {g : Int → Int → Int}
    (rule : ∀ (i j : Int) (t u : Tok) (s : Shared) (Q : Value → Shared → Prop) (E : Value → Shared → Prop), C i j → Q (.int (g i j) s.toks) { s with toks := s.toks + 1 } → wpAny (model X.prog X.w) X.A (f (.int i t) (.int j u)) Q E s) :
    OpR X f (rI C fun i j => .int (g i j)) := by
  intro pins s σ H x y v u Q I rx ry h
  obtain ⟨i, j, rfl, rfl, hc, q⟩ := h
  obtain ⟨t, rfl⟩ := rx
  obtain ⟨t', rfl⟩ := ry
  exact rule i j t t' s _ _ hc ⟨.int (g i j), H, I.tok _, ⟨_, rfl⟩, q⟩
theorem opI0 {f : Value → Value → Sem Value} {g : Int → Int → Int}
    (rule : ∀ (i j : Int) (t u : Tok) (s : Shared) (Q : Value → Shared → Prop) (E : Value → Shared → Prop), Q (.int (g i j) s.toks) { s with toks := s.toks + 1 } → wpAny (model X.prog X.w) X.A (f (.int i t) (.int j u)) Q E s) :
    OpR X f (rI0 fun i j => .int (g i j)) := by
  intro pins s σ H x y v u Q I rx ry h
  obtain ⟨i, j, rfl, rfl, q⟩ := h
  obtain ⟨t, rfl⟩ := rx
  obtain ⟨t', rfl⟩ := ry
  exact rule i j t t' s _ _ ⟨.int (g i j), H, I.tok _, ⟨_, rfl⟩, q⟩
theorem opB0 {f : Value → Value → Sem Value} {g : Int → Int → Bool}
    (rule : ∀ (i j : Int) (t u : Tok) (s : Shared) (Q : Value → Shared → Prop) (E : Value → Shared → Prop), Q (.bool (g i j)) s → wpAny (model X.prog X.w) X.A (f (.int i t) (.int j u)) Q E s) :
    OpR X f (rI0 fun i j => .bl (g i j)) := by
  intro pins s σ H x y v u Q I rx ry h
  obtain ⟨i, j, rfl, rfl, q⟩ := h
  obtain ⟨t, rfl⟩ := rx
  obtain ⟨t', rfl⟩ := ry
  exact rule i j t t' s _ _ ⟨.bl (g i j), H, I, rfl, q⟩

def CDiv (i j : Int) : Prop := 0 < j ∧ j < 1073741824
def CMul (i j : Int) : Prop := (-(2 ^ 64) < i ∧ i < 2 ^ 64) ∨ (-(2 ^ 64) < j ∧ j < 2 ^ 64)
theorem CMul.ok {i j : Int} (h : CMul i j) : IntMulOk i j := by
  rcases h with ⟨h1, h2⟩ | ⟨h1, h2⟩
  · exact .of_left (intBits_le_64 h1 h2)
  · exact .of_right (intBits_le_64 h1 h2)
theorem two_pow_nn (k : Nat) : (0 : Int) ≤ 2 ^ k := by
  rw [two_pow_cast]
  exact Int.natCast_nonneg _

theorem op_add : OpR X (binaryOp .Add) (rI0 fun i j => .int (i + j)) := opI0 fun _ _ _ _ _ _ _ q => add_int q
theorem op_sub : OpR X (binaryOp .Sub) (rI0 fun i j => .int (i - j)) := opI0 fun _ _ _ _ _ _ _ q => sub_int q
theorem op_mul : OpR X (binaryOp .Mult) (rI CMul fun i j => .int (i * j)) := opI fun _ _ _ _ _ _ _ hc q => mul_int q hc.ok
/-- // by a positive divisor -/
theorem op_fdiv : OpR X (binaryOp .FloorDiv) (rI CDiv fun i j => .int (i / j)) := opI fun i j _ _ _ _ _ hc q => by
  have h1 : (0 : Int) < j := hc.1
  have h2 : j < 1073741824 := hc.2
  exact floordiv_int (by omega) (by rw [Int.fdiv_eq_ediv_of_nonneg i (by omega)]; exact q) (.inl (PyProof.noPylong_small (by omega)))
/-- % by a positive divisor of any size -/
theorem op_mod : OpR X (binaryOp .Mod) (rI (fun _ j => 0 < j) fun i j => .int (i % j)) := opI fun i j _ _ _ _ _ hc q => by
  have h1 : (0 : Int) < j := hc
  exact mod_int' (by omega) (by rw [Int.fmod_eq_emod_of_nonneg i (by omega)]; exact q)
theorem op_shr : OpR X (binaryOp .RShift) (rI (fun _ j => 0 ≤ j) fun i j => .int (i / 2 ^ j.toNat)) := opI fun i j _ _ _ _ _ hc q =>
  rshift_int hc (by rw [Int.fdiv_eq_ediv_of_nonneg i (two_pow_nn _)]; exact q)
theorem op_or : OpR X (binaryOp .BitOr) (rI0 fun i j => .int (Builtin.bitOr i j)) := opI0 fun _ _ _ _ _ _ _ q => or_int q
theorem op_xor : OpR X (binaryOp .BitXor) (rI0 fun i j => .int (Builtin.bitXor i j)) := opI0 fun _ _ _ _ _ _ _ q => xor_int q

theorem unI {f : Value → Sem Value} {g : Int → Int}
    (rule : ∀ (i : Int) (t : Tok) (s : Shared) (Q : Value → Shared → Prop) (E : Value → Shared → Prop), Q (.int (g i) s.toks) { s with toks := s.toks + 1 } → wpAny (model X.prog X.w) X.A (f (.int i t)) Q E s) :
    UnR X f (rU fun i => .int (g i)) := by
  intro pins s σ H x v Q I rx h
  obtain ⟨i, rfl, q⟩ := h
  obtain ⟨t, rfl⟩ := rx
  exact rule i t s _ _ ⟨.int (g i), H, I.tok _, ⟨_, rfl⟩, q⟩
theorem un_neg : UnR X (unaryOp .USub) (rU fun i => .int (-i)) := unI fun _ _ _ _ _ q => neg_int q
end

section
variable {X : Cx} {a b c : Expr} {ta tb tc : TE} {pos : Pos}
theorem nomark (b : Expr) {op : CmpOp} (h : op ≠ .In := by decide) (h2 : op ≠ .NotIn := by decide) : behindInMarks op b = false := by
  have e1 : (op == CmpOp.In) = false := by cases op <;> first | rfl | exact absurd rfl h
  have e2 : (op == CmpOp.NotIn) = false := by cases op <;> first | rfl | exact absurd rfl h2
  cases b <;> simp [behindInMarks, e1, e2]
/-- a reading of a value as a test -/
def tTest (t : TE) : TT := fun σ H Q => t σ H fun x H' => ∃ k, x = .bl k ∧ Q k H'
theorem pt_cmpR {op : CmpOp} {r : R2} (ho : OpR X (compareOp op) r) (ha : PE X a ta) (hb : PE X b tb) (hm : behindInMarks op b = false) : PT X (.Compare a [op] [b] pos) (tTest (tOp r ta tb)) := by
  intro pins s σ H Q I h
  refine wpAny_isTrue_Compare1 (thn (ha pins s σ H _ I h) fun v s1 ⟨x, H1, I1, r1, q1⟩ => thn (hb pins s1 σ H1 _ I1 q1) fun u s2 ⟨y, H2, I2, r2, q2⟩ =>
    thn (ho pins s2 σ H2 x y v u _ I2 r1 r2 q2) fun c s3 ⟨z, H3, I3, r3, k, e, q3⟩ => ?_) hm
  subst e
  cases r3
  exact wpAny_truthy_bool ⟨H3, I3, q3⟩
theorem line63 : (sizeLine : Nat) < 2 ^ 63 := by rw [sizeLine_eq]; decide
theorem vals1 {x : V} {us : List Value} (r : Vals [x] us) : ∃ u, us = [u] ∧ RelV x u := by
  cases r with
  | cons r1 r2 => cases r2; exact ⟨_, rfl, r1⟩
end
end L2

namespace L2
open PySem PySem.Spec PyProof.Rows

structure ObjM (h : Heap) (x dx C : Addr) (mA : Str → Option Value) : Prop where
  obj : h.get? x = some (PySem.W.instObj C dx)
  ns : h.Ns1 dx mA
  ne : dx ≠ x

theorem lookIn_ns {h : Heap} {dx : Addr} {mA : Str → Option Value} (n : h.Ns1 dx mA) : ∃ od, h.get? dx = some od ∧ ∀ name, PySem.W.lookIn name od = some (mA name) := by
  obtain ⟨o, es, ep, ho, hd, hk, _, hm⟩ := n
  refine ⟨o, ho, fun name => ?_⟩
  have e := hm name
  unfold nsFind findBy at e
  rw [← Array.find?_toList] at e
  unfold PySem.W.lookIn
  rw [hd]
  dsimp only
  split
  · rename_i y q
    rw [q] at e
    exact congrArg some e
  · rename_i q
    rw [q] at e
    have a : es.toList.any (·.refKey) = false := by
      rw [List.any_eq_false]
      intro y hy
      obtain ⟨z, t, hkey⟩ := hk y (Array.mem_toList_iff.mp hy)
      simp [DictEntry.refKey, hkey]
    have a' : ¬ es.toList.any (·.refKey) = true := by rw [a]; exact Bool.false_ne_true
    rw [if_neg a']
    exact congrArg some e

theorem ObjM.look {h : Heap} {x dx C : Addr} {mA : Str → Option Value} (I : ObjM h x dx C mA) : ∃ od, PySem.W.InstAt h x (PySem.W.instObj C dx) C (some od) ∧ ∀ name, PySem.W.lookIn name od = some (mA name) :=
  let ⟨od, ho, hl⟩ := lookIn_ns I.ns
  ⟨od, ⟨I.obj, rfl, rfl, ho⟩, hl⟩

section
variable {prog : Program} {w : World} {A : Around} {E : Value → Shared → Prop} {s : Shared} {K : PySem.W.Frag} {x dx C f : Addr} {mA : Str → Option Value} {name : Str} {v : Value}

theorem get_map {expr : Bool} {Q : Value → Shared → Prop} (X : K.In s.heap) (I : ObjM s.heap x dx C mA) (hg : PySem.W.plainGet K C name = true) (hh : PySem.W.hasDictIn K C = true)
    (ha : PySem.W.findIn K (.ref C) name = some none) (hv : mA name = some v) (hv' : PySem.W.handedIn v = true) (h : Q v { s with toks := s.toks + 1 }) :
    wpAny (model prog w) A (getAttr (.ref x) name expr) Q E s := by
  obtain ⟨od, J, hl⟩ := I.look
  exact PySem.W.get_value X J (PySem.W.plainGet_of hg).1 (PySem.W.findObj_own hh ha rfl (by rw [hl, hv])) hv' h

theorem get_meth {pl : Sem Bool} {Q : Value × List Value → Shared → Prop} (X : K.In s.heap) (I : ObjM s.heap x dx C mA) (hg : PySem.W.plainGet K C name = true)
    (hf : PySem.W.findIn K (.ref C) name = some (some (.ref f))) (ht : PySem.W.isFn K (.ref f) = true) (hv : mA name = none) (h : Q (.ref f, [.ref x]) s) :
    wpAny (model prog w) A (getMethod (.ref x) name pl) Q E s := by
  obtain ⟨od, J, hl⟩ := I.look
  exact PySem.W.method_fn X J (PySem.W.plainGet_of hg).1 (PySem.W.plainGet_of hg).2 hf (beq_iff_eq.mp ht) (by show (PySem.W.lookIn name od).map (·.isSome) = some false; rw [hl, hv]; rfl) h

theorem set_map {ns : List Str} {Q : Unit → Shared → Prop} (X : K.In s.heap) (I : ObjM s.heap x dx C mA)
    (hs : PySem.W.findIn K (.ref C) "__setattr__" = some (some (.builtin "object.__setattr__"))) (hp : PySem.W.plainOver K C = true) (ht : PySem.W.takerIn K C name = some none) (hh : PySem.W.hasDictIn K C = true)
    (hw : PySem.Within mA ns) (hsz : ns.length ≤ sizeLine)
    (h : ∀ h', ObjM h' x dx C (fun y => if y = name then some v else mA y) → Heap.SameBut dx s.heap h' → Q () { s with heap := h', toks := s.toks + 2 }) :
    wpAny (model prog w) A (setAttr (.ref x) name v) Q E s := by
  obtain ⟨od, J, hl⟩ := I.look
  refine PySem.W.set_plain X J hs (PySem.W.osa_open (s := { s with toks := s.toks + 1 }) (r := none) X J hp ht fun b => ?_)
  obtain ⟨cd, hc, hd'⟩ := PySem.W.any_some hh
  have hx : s.heap.get? x = some ⟨.ref C, some dx, .plain, #[]⟩ := I.obj
  refine wpAny_bind (wpAny_pure (wpAny_bind (wpAny_bind (wpAny_loadPart hx (wpAny_bind (PySem.W.Looks.here (s := { s with toks := s.toks + 1 }) (PySem.W.looks_clsIn X hc) ?_))))))
  rw [hd']
  refine wpAny_pure (a := some dx) (wpAny_bind (wpAny_pure (wpAny_bind ?_)))
  refine wpAny_nsSet1 (s := { s with toks := s.toks + 1 }) I.ns fun h' hn2 hs2 => ?_
  obtain ⟨oD, esD, epD, hoD, hdD, hcD⟩ := hn2.count (PySem.Within.cons name v hw)
  refine wpAny_bind (wpAny_lookBehind hoD (by rw [hdD]; exact pastItsLine_dict (Nat.le_trans hcD (by rw [List.length_cons]; omega))) ?_)
  exact wpAny_pure (h _ ⟨(hs2.2 _ (Ne.symm I.ne)).trans I.obj, hn2, I.ne⟩ hs2)

/-- C(..): the dict at the heap's end, the instance behind it; then its __init__ -/
theorem make_map {R : Result → Shared → Prop} {vs : List Value} {kw : List (Str × Value)} (X : K.In s.heap) (hm : PySem.W.makesIn K C = true)
    (hi : PySem.W.findIn K (.ref C) "__init__" = some (some (.ref f))) (hf : PySem.W.typeIn K (.ref f) = some (.type "function"))
    (h : codeAny (model prog w) (A.under (.builtin "type.__call__" ⟨.ref C :: vs, kw⟩)) (.call (.ref f) ⟨.ref (s.heap.objs.size + 1) :: vs, kw⟩) (PySem.W.InitBack (s.heap.objs.size + 1) R)
      { s with heap := (s.heap.push PySem.W.emptyDict).push (PySem.W.instObj C s.heap.objs.size) }) :
    codeAny (model prog w) A (.call (.ref C) ⟨vs, kw⟩) R s := by
  obtain ⟨hh, g, d, t, os⟩ := s
  exact PySem.W.make_core (PySem.W.makes_of X hm) (PySem.W.looks_findIn X hi) (fun self => PySem.W.bind_fn X self hf) (.inl rfl) h
end

def putF (f : Str) (v : V) : List (Str × V) → List (Str × V)
  | [] => [(f, v)]
  | (g, x) :: r => if g = f then (g, v) :: r else (g, x) :: putF f v r
theorem lookup_putF (f g : Str) (v : V) : ∀ fs : List (Str × V), (putF f v fs).lookup g = if g = f then some v else fs.lookup g
  | [] => by
    show List.lookup g [(f, v)] = _
    by_cases h : g = f
    · have hb : (g == f) = true := beq_iff_eq.mpr h
      simp only [List.lookup, hb, if_pos h]
    · have hb : (g == f) = false := beq_eq_false_iff_ne.mpr h
      simp only [List.lookup, hb, if_neg h]
  | (k, x) :: r => by
    have ih := lookup_putF f g v r
    rw [show putF f v ((k, x) :: r) = (if k = f then (k, v) :: r else (k, x) :: putF f v r) from rfl]
    by_cases hk : k = f
    · rw [if_pos hk]
      by_cases h : g = k
      · have hb : (g == k) = true := beq_iff_eq.mpr h
        simp only [List.lookup, hb, if_pos (h.trans hk)]
      · have hb : (g == k) = false := beq_eq_false_iff_ne.mpr h
        simp only [List.lookup, hb, if_neg (fun e : g = f => h (e.trans hk.symm))]
    · rw [if_neg hk]
      by_cases h : g = k
      · have hb : (g == k) = true := beq_iff_eq.mpr h
        simp only [List.lookup, hb, if_neg (fun e : g = f => hk (h.symm.trans e))]
      · have hb : (g == k) = false := beq_eq_false_iff_ne.mpr h
        simp only [List.lookup, hb]
        exact ih
theorem keys_putF (f : Str) (v : V) : ∀ fs : List (Str × V), f ∈ (putF f v fs).map (·.1) ∧ ∀ g, g ∈ fs.map (·.1) → g ∈ (putF f v fs).map (·.1)
  | [] => ⟨by simp [putF], fun g h => by simp at h⟩
  | (k, x) :: r => by
    obtain ⟨i1, i2⟩ := keys_putF f v r
    rw [show putF f v ((k, x) :: r) = (if k = f then (k, v) :: r else (k, x) :: putF f v r) from rfl]
    by_cases hk : k = f
    · rw [if_pos hk]
      subst hk
      exact ⟨by simp, fun g h => by simpa using h⟩
    · rw [if_neg hk]
      refine ⟨?_, fun g h => ?_⟩
      · rw [List.map_cons]
        exact List.mem_cons_of_mem _ i1
      · rw [List.map_cons] at h ⊢
        rcases List.mem_cons.mp h with e | e
        · exact List.mem_cons.mpr (.inl e)
        · exact List.mem_cons_of_mem _ (i2 g e)
theorem length_putF (f : Str) (v : V) : ∀ fs : List (Str × V), (putF f v fs).length ≤ fs.length + 1
  | [] => by simp [putF]
  | (k, x) :: r => by
    have ih := length_putF f v r
    rw [show putF f v ((k, x) :: r) = (if k = f then (k, v) :: r else (k, x) :: putF f v r) from rfl]
    by_cases hk : k = f
    · rw [if_pos hk, List.length_cons, List.length_cons]; omega
    · rw [if_neg hk, List.length_cons, List.length_cons]; omega

theorem RelO.some_of {v : V} {o : Option Value} (r : RelO (some v) o) : ∃ u, o = some u ∧ RelV v u := by
  cases o with
  | none => exact (show False from r).elim
  | some u => exact ⟨u, rfl, r⟩
theorem RelO.none_of {o : Option Value} (r : RelO none o) : o = none := by
  cases o with
  | none => rfl
  | some u => exact (show False from r).elim
theorem handed_of {v : V} {u : Value} (r : RelV v u) : PySem.W.handedIn u = true := by
  cases v with
  | non => cases (show u = Value.none from r); rfl
  | bl b => cases (show u = Value.bool b from r); rfl
  | int i => obtain ⟨t, e⟩ := (show ∃ t, u = Value.int i t from r); cases e; rfl
  | str x => obtain ⟨t, e⟩ := (show ∃ t, u = Value.str x t from r); cases e; rfl
  | byt b => obtain ⟨t, e⟩ := (show ∃ t, u = Value.bytes b t from r); cases e; rfl
  | flt b => obtain ⟨t, e⟩ := (show ∃ t, u = Value.float b t from r); cases e; rfl
  | ref a => cases (show u = Value.ref a from r); rfl
  | ty n => cases (show u = Value.type n from r); rfl

section
variable {P : Program} {w : World} {H H' : Hp} {h h' : Heap} {a C dx : Addr} {fs fs' : List (Str × V)}
theorem ins_get (hok : HOk P w H h) (e : H a = some (.ins C dx fs)) : ∃ mA, ObjM h a dx C mA ∧ (∀ f, RelO (fs.lookup f) (mA f)) ∧ PySem.Within mA (fs.map (·.1)) ∧ fs.length ≤ 1000 ∧ H dx = some (.own a) := by
  obtain ⟨d, z, ne, ob, mA, n, r, q⟩ := (show ObjOk P w H h a (.ins C dx fs) from hok a _ e)
  exact ⟨mA, ⟨ob, n, ne⟩, r, q, z, d⟩
end

structure Cls (K : PySem.W.Frag) (C : Addr) : Prop where
  pg : PySem.W.plainGet K C Str.empty = true
  hd : PySem.W.hasDictIn K C = true
  po : PySem.W.plainOver K C = true
  sa : PySem.W.findIn K (.ref C) "__setattr__" = some (some (.builtin "object.__setattr__"))
theorem Cls.get {K : PySem.W.Frag} {C : Addr} (c : Cls K C) (f : Str) : PySem.W.plainGet K C f = true := c.pg
/-- no class of it has the name -/
def NoAttr (K : PySem.W.Frag) (C : Addr) (f : Str) : Prop := PySem.W.findIn K (.ref C) f = some none
theorem NoAttr.taker {K : PySem.W.Frag} {C : Addr} {f : Str} (n : NoAttr K C f) : PySem.W.takerIn K C f = some none := by
  unfold PySem.W.takerIn
  rw [show PySem.W.findIn K (.ref C) f = some none from n]
  rfl
/-- a method: a plain def of the class or of one above it -/
structure Meth (K : PySem.W.Frag) (C : Addr) (m : Str) (f : Addr) : Prop where
  at_ : PySem.W.findIn K (.ref C) m = some (some (.ref f))
  fn : PySem.W.isFn K (.ref f) = true
  kp : PySem.W.keepIn K (.ref f) = true

section
variable {X : Cx} {pins : List (Addr × Obj)} {σ : St} {H : Hp} {s : Shared} {a C dx : Addr} {fs : List (Str × V)} {f : Str} {v : V} {A : Around} {E : Value → Shared → Prop}

theorem getattr_ok {b : Bool} {Q : Value → Shared → Prop} (I : Inv X pins σ H s) (e : H a = some (.ins C dx fs)) (c : Cls X.K C) (n : NoAttr X.K C f) (l : fs.lookup f = some v)
    (h : ∀ u s', Inv X pins σ H s' → RelV v u → Q u s') : wpAny (model X.prog X.w) A (getAttr (.ref a) f b) Q E s := by
  obtain ⟨mA, O, r, _, _, _⟩ := ins_get I.hok e
  obtain ⟨u, hu, ru⟩ := RelO.some_of (v := v) (o := mA f) (by rw [← l]; exact r f)
  exact get_map I.kIn O (c.get f) c.hd n hu (handed_of ru) (h u _ (I.tok _) ru)

theorem getmeth_ok {m : Str} {g : Addr} {pl : Sem Bool} {Q : Value × List Value → Shared → Prop} (I : Inv X pins σ H s) (e : H a = some (.ins C dx fs)) (c : Cls X.K C) (k : Meth X.K C m g) (l : fs.lookup m = none)
    (h : Q (.ref g, [.ref a]) s) : wpAny (model X.prog X.w) A (getMethod (.ref a) m pl) Q E s := by
  obtain ⟨mA, O, r, _, _, _⟩ := ins_get I.hok e
  have hn : mA m = none := RelO.none_of (by rw [← l]; exact r m)
  exact get_meth I.kIn O (c.get m) k.at_ k.fn hn h

theorem setattr_ok {y : V} {u : Value} {Q : Unit → Shared → Prop} (I : Inv X pins σ H s) (e : H a = some (.ins C dx fs)) (c : Cls X.K C) (n : NoAttr X.K C f) (hl : fs.length < 1000) (ry : RelV y u)
    (h : ∀ s', Inv X pins σ (upd H a (.ins C dx (putF f y fs))) s' → Q () s') : wpAny (model X.prog X.w) A (setAttr (.ref a) f u) Q E s := by
  obtain ⟨mA, O, r, wi, _, ho⟩ := ins_get I.hok e
  have hz : (fs.map (·.1)).length ≤ sizeLine := by rw [List.length_map, sizeLine_eq]; omega
  refine set_map I.kIn O c.sa c.po n.taker c.hd wi hz fun h' O' sb => h _ ?_
  have hd : ∃ o, h'.get? dx = some o := let ⟨o, _, _, e', _⟩ := O'.ns; ⟨o, e'⟩
  refine I.write (x := a) (e := dx) (by rw [e]; exact True.intro) (.inr ho) (fun b q hb z => (sb.2 b hb).trans z) hd ?_
  refine ⟨by rw [upd_ne O.ne]; exact ho, ?_, O.ne, O'.obj, _, O'.ns, fun g => ?_, fun g hg => ?_⟩
  · have := length_putF f y fs; omega
  · show RelO ((putF f y fs).lookup g) (if g = f then some u else mA g)
    rw [lookup_putF]
    by_cases q : g = f
    · rw [if_pos q, if_pos q]; exact ry
    · rw [if_neg q, if_neg q]; exact r g
  · by_cases q : g = f
    · rw [q]; exact (keys_putF f y fs).1
    · refine (keys_putF f y fs).2 g (wi g fun z => hg ?_)
      show (if g = f then some u else mA g) = none
      rw [if_neg q]; exact z

/-- a new instance, tracked, without attributes -/
theorem Inv.made (I : Inv X pins σ H s) : Inv X pins σ (upd (upd H s.heap.objs.size (.own (s.heap.objs.size + 1))) (s.heap.objs.size + 1) (.ins C s.heap.objs.size []))
    { s with heap := (s.heap.push PySem.W.emptyDict).push (PySem.W.instObj C s.heap.objs.size) } := by
  have e1 : (s.heap.push PySem.W.emptyDict).get? s.heap.objs.size = some PySem.W.emptyDict := Heap.get?_push_size s.heap rfl
  have e2 : ((s.heap.push PySem.W.emptyDict).push (PySem.W.instObj C s.heap.objs.size)).get? (s.heap.objs.size + 1) = some (PySem.W.instObj C s.heap.objs.size) := by
    have := Heap.get?_push_size (s.heap.push PySem.W.emptyDict) (o := PySem.W.instObj C s.heap.objs.size) rfl
    rwa [Heap.size_push] at this
  have e3 : (s.heap.push PySem.W.emptyDict).Ns s.heap.objs.size (fun _ => none) := ⟨PySem.W.emptyDict, #[], _, e1, rfl, (fun e he => absurd he (by simp)), fun _ => rfl⟩
  have I1 := I.laid (a := s.heap.objs.size) (o := .own (s.heap.objs.size + 1)) (h' := s.heap.push PySem.W.emptyDict) (t' := s.toks) (fun b u q => Heap.get?_push_of_some _ q) (Nat.le_refl _) ⟨_, e1⟩
  refine I1.laid (a := s.heap.objs.size + 1) (o := .ins C s.heap.objs.size []) (t' := s.toks) (fun b u q => Heap.get?_push_of_some _ q) (Nat.le_of_eq (Heap.size_push _ _)) ?_
  have ne : s.heap.objs.size ≠ s.heap.objs.size + 1 := Nat.ne_of_lt (Nat.lt_succ_self _)
  refine ⟨by rw [upd_ne ne, upd_same], Nat.zero_le _, ne, e2, fun _ => none, (Heap.Ns1.of_empty e3).at fun o q => Heap.get?_push_of_some _ q, fun _ => True.intro, fun y hy => absurd rfl hy⟩

/-- e.f where nothing but the object is asked: through attributeBase (super) and the last hold -/
theorem attr_of {prog : Program} {w : World} {env : Env} {e : Expr} {f : Str} {pos : Pos} {s : Shared} {Q : Value → Shared → Prop} (hb : attributeBase e f env (eval e env) = eval e env)
    (h : wpAny (model prog w) A (eval e env) (fun o s₁ => wpAny (model prog w) A (getAttr o f true) Q E s₁) E s) : wpAny (model prog w) A (eval (.Attribute e f pos) env) Q E s :=
  Attribute_any_ h (by rw [arm_eval_Attribute, hb])
end

/-- e.f, an attribute of the instance -/
def tFld (K : PySem.W.Frag) (ta : TE) (f : Str) : TE := fun σ H Q => ta σ H fun x H1 => ∃ a C dx fs v, x = .ref a ∧ H1 a = some (.ins C dx fs) ∧ Cls K C ∧ NoAttr K C f ∧ fs.lookup f = some v ∧ Q v H1
/-- e.f = value -/
def sFld (K : PySem.W.Frag) (ta tv : TE) (f : Str) : TS := fun D σ H => tv σ H fun y H1 => ta σ H1 fun x H2 => ∃ a C dx fs, x = .ref a ∧ H2 a = some (.ins C dx fs) ∧ Cls K C ∧ NoAttr K C f ∧ fs.length < 1000 ∧
  D.nx σ (upd H2 a (.ins C dx (putF f y fs)))
section
variable {X : Cx} {o e value : Expr} {f : Str} {pos pos' tpos : Pos} {ta tv : TE}
theorem pe_fld (he : PE X e ta) (hb : attributeBase e f X.env (eval e X.env) = eval e X.env) : PE X (.Attribute e f pos) (tFld X.K ta f) := by
  intro pins s σ H Q I h
  refine attr_of hb (thn (he pins s σ H _ I h) fun u s1 ⟨x, H1, I1, rx, a, C, dx, fs, v, ex, ea, c, n, l, q⟩ => ?_)
  subst ex
  obtain rfl : u = Value.ref a := rx
  exact getattr_ok I1 ea c n l fun u' s2 I2 ru => ⟨v, H1, I2, ru, q⟩
theorem ps_fld (ha : PE X o ta) (hv : PE X value tv) (hs : swapsWith value (some (.Attribute o f pos')) pos.line X.env = pure false) : PS X (.Assign [.Attribute o f pos'] value pos) (sFld X.K ta tv f) := by
  intro pins s σ H D I h
  refine plainObj_wpAny_Assign_Attribute (thn (hv pins s σ H _ I h) fun u s1 ⟨y, H1, I1, ry, q⟩ => thn (ha pins s1 σ H1 _ I1 q) fun ov s2 ⟨x, H2, I2, rx, a, C, dx, fs, ex, ea, c, n, l, q2⟩ => ?_) hs
  subst ex
  obtain rfl : ov = Value.ref a := rx
  exact setattr_ok I2 ea c n l ry fun s3 I3 => ⟨σ, _, I3, q2⟩
/-- what is between an instance and its method: the tree of a method call -/
theorem methcall_of {pl : Sem Bool} {m : Str} {apos : Pos} {args : List Expr} {pins : List (Addr × Obj)} {s : Shared} {σ : St} {H : Hp} {Q : Value → Shared → Prop} {te : TE} (he : PE X e te) (I : Inv X pins σ H s)
    (h : te σ H fun x H1 => ∃ a C dx fs g, x = .ref a ∧ H1 a = some (.ins C dx fs) ∧ Cls X.K C ∧ Meth X.K C m g ∧ fs.lookup m = none ∧
      ∀ s1, Inv X pins σ H1 s1 → wpAny (model X.prog X.w) X.A (callWith pos (.ref g) [.ref a] (backTo pos (starEach args X.env)) (backToKw pos (keywordEach [] X.env))) Q X.xe s1)
    (ht : eval (.Call (.Attribute e m apos) args [] pos) X.env = (do
      let ov ← eval e X.env
      standAt apos.atName
      let (f, first) ← holding [ov] (getMethod ov m pl)
      callWith pos f first (backTo pos (starEach args X.env)) (backToKw pos (keywordEach [] X.env)))) :
    wpAny (model X.prog X.w) X.A (eval (.Call (.Attribute e m apos) args [] pos) X.env) Q X.xe s := by
  refine PySem.W.methodCall_KW (pl := pl) (thn (he pins s σ H _ I h) fun u s1 ⟨x, H1, I1, rx, a, C, dx, fs, g, ex, ea, c, k, l, q⟩ => ?_) ht
  subst ex
  obtain rfl : u = Value.ref a := rx
  exact getmeth_ok I1 ea c k l (q s1 I1)
end

section
variable {X : Cx} {pins : List (Addr × Obj)} {σ : St} {H : Hp} {s : Shared} {A : Around} {E : Value → Shared → Prop} {Q : Value → Shared → Prop} {c : Value} {b : Bool}
end
end L2

namespace L2
open PySem PySem.Spec PyProof.Rows

structure Room (k : Nat) (A : Around) : Prop where
  hd : A.handled = none
  dp : A.depth + 3 * k + 5 < recursionLimit
  un : A.units + 16 * k + 200 < cLine
theorem Room.mono {j k : Nat} {A : Around} (r : Room k A) (h : j ≤ k) : Room j A := ⟨r.hd, by have := r.dp; omega, by have := r.un; omega⟩
theorem Room.deeper {k : Nat} {A : Around} (r : Room (k + 1) A) (env : Env) : Room k (A.deeper env) :=
  ⟨r.hd, by have := r.dp; show A.depth + 1 + 3 * k + 5 < _; omega, by have := r.un; show A.units + 3 + 16 * k + 200 < _; omega⟩
theorem make_depth {A : Around} {C : Addr} {us : List Value} {kw : List (Str × Value)} : (A.under (.builtin "type.__call__" ⟨.ref C :: us, kw⟩)).depth = A.depth + 1 := by
  first | rfl | simp [Around.under, Code.weight, Code.isCreation, Code.isGuard, Code.isCaller, Code.frames, Code.isFrame, guardIds]
theorem make_units {A : Around} {C : Addr} {us : List Value} {kw : List (Str × Value)} : (A.under (.builtin "type.__call__" ⟨.ref C :: us, kw⟩)).units = A.units + 1 := by
  first | rfl | simp [Around.under, Code.cUnits, Code.frames, Code.isFrame]
theorem Room.make {k : Nat} {A : Around} (r : Room (k + 1) A) (C : Addr) (us : List Value) (kw : List (Str × Value)) : Room k (A.under (.builtin "type.__call__" ⟨.ref C :: us, kw⟩)) :=
  ⟨r.hd, by have := r.dp; rw [make_depth]; omega, by have := r.un; rw [make_units]; omega⟩
theorem Room.depth {k : Nat} {A : Around} (r : Room k A) : A.depth < recursionLimit := by have := r.dp; omega
def tNil : TA := fun _ H Q => Q [] H
def tCons (ta : TE) (tr : TA) : TA := fun σ H Q => ta σ H fun x H1 => tr σ H1 fun xs H2 => Q (x :: xs) H2
section
variable {X : Cx} {e : Expr} {es : List Expr} {te : TE} {t : TA} {pos : Pos}
theorem pa_nil : PA X [] tNil := fun _ _ _ _ H Q I h => Calls.spliced_nil ⟨[], H, I, .nil, h⟩
theorem pa_cons (ha : PE X e te) (hr : PA X es t) (hs : starEach (e :: es) X.env = (false, eval e X.env) :: starEach es X.env := by rfl) : PA X (e :: es) (tCons te t) := by
  intro pos pins s σ H Q I h
  rw [hs]
  show wpAny _ _ (spliced ((false, eval e X.env) :: backTo pos (starEach es X.env))) _ _ s
  refine Calls.spliced_cons (thn (ha pins s σ H _ I h) fun u s1 ⟨x, H1, I1, r1, q1⟩ => ?_)
  exact thn (hr pos pins s1 σ H1 _ I1 q1) fun us s2 ⟨xs, H2, I2, r2, q2⟩ => ⟨x :: xs, H2, I2, .cons r1 r2, q2⟩

/-- a tuple, a list of written items -/
def tTup (t : TA) : TE := fun σ H Q => t σ H fun xs H1 => xs.length ≤ sizeLine ∧ ∀ p, H1 p = none → Q (.ref p) (upd H1 p (.tup xs))
def tLst (t : TA) : TE := fun σ H Q => t σ H fun xs H1 => xs.length ≤ sizeLine ∧ ∀ p, H1 p = none → Q (.ref p) (upd H1 p (.lst xs))
theorem pe_tup {x1} (h : PA X es t) : PE X (.Tuple es x1 pos) (tTup t) := by
  intro pins s σ H Q I hq
  refine wpAny_Tuple_spliced (thn (h pos pins s σ H _ I hq) fun us s1 ⟨xs, H1, I1, r, z, q⟩ => ⟨by rw [← r.length]; exact z, ?_⟩)
  have hf : H1 s1.heap.objs.size = none := I1.hok.fresh (Nat.le_refl _)
  refine ⟨.ref s1.heap.objs.size, upd H1 s1.heap.objs.size (.tup xs), I1.laid (t' := s1.toks) (fun b u e => Heap.get?_push_of_some _ e) (Nat.le_refl _) ?_, rfl, q _ hf⟩
  exact ⟨z, us, r, ⟨_, Heap.get?_push_size _ rfl, rfl, _, rfl⟩⟩
theorem pe_lst (h : PA X es t) : PE X (.List es pos) (tLst t) := by
  intro pins s σ H Q I hq
  refine wpAny_List_spliced (thn (h pos pins s σ H _ I hq) fun us s1 ⟨xs, H1, I1, r, z, q⟩ => ⟨by rw [← r.length]; exact z, ?_⟩)
  have hf : H1 s1.heap.objs.size = none := I1.hok.fresh (Nat.le_refl _)
  refine ⟨.ref s1.heap.objs.size, upd H1 s1.heap.objs.size (.lst xs), I1.laid (t' := s1.toks) (fun b u e => Heap.get?_push_of_some _ e) (Nat.le_refl _) ?_, rfl, q _ hf⟩
  exact ⟨z, us, 0, r, Heap.get?_push_size _ rfl⟩
end

/-- a def's promise: the bound arguments in the parameters' order, the heap, the wanted end, the wanted exception -/
abbrev Sp := List V → Hp → VK → XK → Prop
/-- how an exception lies behind a call (file 08 gives it): the callers' frames, abstract heap and state ahead of the call, the wish, the exception, the state -/
abbrev CXT := List Env → Hp → Shared → XK → Value → Shared → Prop

/-- the state at a call -/
structure Env0 (P : Program) (w : World) (K : PySem.W.Frag) (mg : Str → Option Value) (base : Heap) (A : Around) (outer : List Env) (s : Shared) (H : Hp) : Prop where
  frames : A.frames = some outer
  mod : Mod K mg base
  bs : ∀ b o, base.get? b = some o → s.heap.get? b = some o ∧ H b = none
  bsz : base.objs.size ≤ s.heap.objs.size
  funs : s.heap.FunFrames base outer
  frf : ∀ b ∈ frs outer, H b = none
  hok : HOk P w H s.heap
  bare : AllBare s.gens
/-- a call's end -/
def CE (outer : List Env) (P : Program) (w : World) (H : Hp) (s : Shared) (Q : VK) (u : Value) (s' : Shared) : Prop :=
  ∃ v H', s'.os = s.os ∧ AllBare s'.gens ∧ Un (frs outer) [] H H' s.heap s'.heap ∧ HOk P w H' s'.heap ∧ RelV v u ∧ Q v H'
def CR (CX : CXT) (outer : List Env) (P : Program) (w : World) (H : Hp) (s : Shared) (Q : VK) (E : XK) (r : Result) (s' : Shared) : Prop :=
  match r with
  | .ok (.ret u) => CE outer P w H s Q u s'
  | .ok _ => False
  | .error e => CX outer H s E e s'
structure FnOk (P : Program) (w : World) (K : PySem.W.Frag) (mg : Str → Option Value) (base : Heap) (CX : CXT) (k : Nat) (f : Addr) (fd : FuncData) (ps : List Str) (sp : Sp) : Prop where
  len : ∀ vs H Q E, sp vs H Q E → vs.length = ps.length
  run : ∀ (A : Around) (outer : List Env) (s : Shared) (H : Hp) (args : Args) (us : List Value) (vs : List V) (Q : VK) (E : XK), Room k A → Env0 P w K mg base A outer s H → BindsTo s fd args (ps.zip us) → Vals vs us → sp vs H Q E →
    codeAny (model P w) A (.call (.ref f) args) (CR CX outer P w H s Q E) s
theorem FnOk.mono {P : Program} {w : World} {K : PySem.W.Frag} {mg : Str → Option Value} {base : Heap} {CX : CXT} {j k : Nat} {f : Addr} {fd : FuncData} {ps : List Str} {sp : Sp} (F : FnOk P w K mg base CX j f fd ps sp) (h : j ≤ k) :
    FnOk P w K mg base CX k f fd ps sp := ⟨F.len, fun A outer s H args us vs Q E hr => F.run A outer s H args us vs Q E (hr.mono h)⟩
/-- a weaker promise -/
theorem FnOk.imp {P : Program} {w : World} {K : PySem.W.Frag} {mg : Str → Option Value} {base : Heap} {CX : CXT} {k : Nat} {f : Addr} {fd : FuncData} {ps : List Str} {sp sp' : Sp} (F : FnOk P w K mg base CX k f fd ps sp)
    (h : ∀ vs H Q E, sp' vs H Q E → sp vs H Q E) : FnOk P w K mg base CX k f fd ps sp' :=
  ⟨fun vs H Q E q => F.len vs H Q E (h _ _ _ _ q), fun A outer s H args us vs Q E hr he hb hv hs => F.run A outer s H args us vs Q E hr he hb hv (h _ _ _ _ hs)⟩

theorem Env0.make {P : Program} {w : World} {K : PySem.W.Frag} {mg : Str → Option Value} {base : Heap} {A : Around} {outer : List Env} {s : Shared} {H : Hp} (e : Env0 P w K mg base A outer s H) (C : Addr) (us : List Value) (kw : List (Str × Value)) :
    Env0 P w K mg base (A.under (.builtin "type.__call__" ⟨.ref C :: us, kw⟩)) outer s H := ⟨by first | exact e.frames | (simpa [Around.under, Code.envs, Code.isFrame, pushEnvs] using e.frames), e.mod, e.bs, e.bsz, e.funs, e.frf, e.hok, e.bare⟩
section
variable {X : Cx} {pins : List (Addr × Obj)} {σ : St} {H : Hp} {s s' : Shared}
/-- from a body: what a callee wants -/
theorem Inv.env0 (I : Inv X pins σ H s) : Env0 X.prog X.w X.K X.mg X.base X.A X.stack s H :=
  ⟨I.ok.frames, I.ok.mod, I.bs, Nat.le_trans I.ok.bsz I.sz, I.stack, I.stkFree, I.hok, I.bare⟩
/-- behind a call -/
theorem Inv.after {Q : VK} {u : Value} (I : Inv X pins σ H s) (h : CE X.stack X.prog X.w H s Q u s') : EP X pins σ Q u s' := by
  obtain ⟨v, H', os, bare, un, hok, r, q⟩ := h
  obtain ⟨hh, g, d, t, os'⟩ := s'
  obtain rfl : os' = s.os := os
  exact ⟨v, H', I.call (h' := hh) (g' := g) (d' := d) (t' := t) (ch := []) un hok bare (fun b z => absurd z (by simp)), r, q⟩
end

/-- f(..): the written arguments, then the defaults dvs; E: what is wanted of an exception -/
def tCall (sp : Sp) (dvs : List V) (E : XK) (t : TA) : TE := fun σ H Q => t σ H fun vs H1 => sp (vs ++ dvs) H1 Q E
/-- o.m(..) of an instance of the class at C -/
def tMeth (C : Addr) (m : Str) (sp : Sp) (dvs : List V) (E : XK) (ta : TE) (t : TA) : TE := fun σ H Q => ta σ H fun x H1 => ∃ a dx fs, x = .ref a ∧ H1 a = some (.ins C dx fs) ∧ fs.lookup m = none ∧
  t σ H1 fun vs H2 => sp (x :: (vs ++ dvs)) H2 Q E
/-- C(..): a new instance and its dict, then __init__ -/
def tMake (C : Addr) (sp : Sp) (dvs : List V) (E : XK) (t : TA) : TE := fun σ H Q => t σ H fun vs H1 => ∀ x dx, H1 x = none → H1 dx = none → dx ≠ x →
  sp (.ref x :: (vs ++ dvs)) (upd (upd H1 dx (.own x)) x (.ins C dx [])) (fun v H2 => v = .non ∧ Q (.ref x) H2) E

/-- how the parameters are bound: us the positional arguments, kw the keywords' values by name, ds the defaults that fill up -/
def Binds (K : PySem.W.Frag) (fd : FuncData) (ps : List Str) (ds : List Value) : Prop :=
  ∀ (s : Shared) (us : List Value), K.In s.heap → (us ++ ds).length = ps.length → BindsTo s fd ⟨us, []⟩ (ps.zip (us ++ ds))
/-- every parameter is given -/
theorem Binds.all {K : PySem.W.Frag} {fd : FuncData} {ps : List Str} (h : ∀ us : List Value, us.length = ps.length → bindArgs fd ⟨us, []⟩ = pure (ps.zip us)) : Binds K fd ps [] := fun s us _ hl => by
  rw [List.append_nil] at hl ⊢
  exact .of_eq (h us hl)

/-- an exception of a callee reaches what this body wants of exceptions -/
def Passes (CX : CXT) (X : Cx) (E : XK) : Prop := ∀ (pins : List (Addr × Obj)) (σ : St) (H : Hp) (s : Shared) (e : Value) (s' : Shared), Inv X pins σ H s → CX X.stack H s E e s' → X.xe e s'

section
variable {X : Cx} {CX : CXT} {k : Nat} {f C : Addr} {fd : FuncData} {ps : List Str} {sp : Sp} {dvs : List V} {ds : List Value} {E : XK} {x m : Str} {p pos apos : Pos} {e o : Expr} {es : List Expr} {ta : TE} {t : TA}

/-- the callee runs -/
theorem run_fn {pins : List (Addr × Obj)} {σ : St} {H : Hp} {s : Shared} {Q : VK} {us : List Value} {vs : List V} (F : FnOk X.prog X.w X.K X.mg X.base CX k f fd ps sp) (hr : Room k X.A) (hb : Binds X.K fd ps ds) (hd : Vals dvs ds) (hx : Passes CX X E)
    (I : Inv X pins σ H s) (r : Vals vs us) (h : sp (vs ++ dvs) H Q E) : wpAny (model X.prog X.w) X.A (call (.ref f) us) (EP X pins σ Q) X.xe s := by
  have r2 : Vals (vs ++ dvs) (us ++ ds) := r.append hd
  have hl : (us ++ ds).length = ps.length := by rw [← r2.length]; exact F.len _ _ _ _ h
  refine wpAny_call (codeAny_mono (F.run X.A X.stack s H ⟨us, []⟩ (us ++ ds) (vs ++ dvs) Q E hr I.env0 (hb s us I.kIn hl) r2 h) fun r s' hq => ?_)
  cases r with
  | error e => exact hx pins σ H s e s' I hq
  | ok fl =>
    cases fl with
    | ret u => exact I.after hq
    | next => exact False.elim hq
    | brk => exact False.elim hq
    | cont => exact False.elim hq

theorem pe_call (F : FnOk X.prog X.w X.K X.mg X.base CX k f fd ps sp) (hr : Room k X.A) (hg : Gl X x) (hm : X.mg x = some (.ref f)) (hk : PySem.W.keepIn X.K (.ref f) = true) (hb : Binds X.K fd ps ds) (hd : Vals dvs ds) (hx : Passes CX X E)
    (ha : PA X (e :: es) t) (hdb : (x == ("__debug__" : Str)) = false := by decide) (he : starEach (e :: es) X.env = (false, eval e X.env) :: starEach es X.env := by rfl) (hpl : (backTo pos (starEach es X.env)).any (·.1) = false := by rfl) :
    PE X (.Call (.Name x p) (e :: es) [] pos) (tCall sp dvs E t) := by
  intro pins s σ H Q I h
  refine wpAny_Call_Name_kw (ld_glob I hg hm ?_ hdb)
  refine PySem.W.callWith_K (h₀ := X.base) I.ok.mod.kin hk (thn (ha pos pins s σ H _ I h) fun us s1 ⟨vs, H1, I1, r, q⟩ => ⟨I1.kIn, ?_⟩) he hpl
  exact run_fn F hr hb hd hx I1 r q
/-- o.m(e, ..) -/
theorem pe_meth {pl : Sem Bool} (he : PE X o ta) (c : Cls X.K C) (hm : Meth X.K C m f) (F : FnOk X.prog X.w X.K X.mg X.base CX k f fd ps sp) (hr : Room k X.A) (hb : Binds X.K fd ps ds) (hd : Vals dvs ds) (hx : Passes CX X E) (ha : PA X (e :: es) t)
    (hst : starEach (e :: es) X.env = (false, eval e X.env) :: starEach es X.env := by rfl) (hpl : (backTo pos (starEach es X.env)).any (·.1) = false := by rfl)
    (ht : eval (.Call (.Attribute o m apos) (e :: es) [] pos) X.env = (do
      let ov ← eval o X.env
      standAt apos.atName
      let (f, first) ← holding [ov] (getMethod ov m pl)
      callWith pos f first (backTo pos (starEach (e :: es) X.env)) (backToKw pos (keywordEach [] X.env))) := by rfl) :
    PE X (.Call (.Attribute o m apos) (e :: es) [] pos) (tMeth C m sp dvs E ta t) := by
  intro pins s σ H Q I h
  refine PySem.W.methodCall_KW (pl := pl) (thn (he pins s σ H _ I h) fun u s1 ⟨x, H1, I1, rx, a, dx, fs, ex, ea, l, q⟩ => ?_) ht
  subst ex
  obtain rfl : u = Value.ref a := rx
  refine getmeth_ok I1 ea c hm l ?_
  refine PySem.W.callWith_K (first := [.ref a]) (h₀ := X.base) I.ok.mod.kin hm.kp (thn (ha pos pins s1 σ H1 _ I1 q) fun us s2 ⟨vs, H2, I2, r, q2⟩ => ⟨I2.kIn, ?_⟩) hst hpl
  exact run_fn (us := .ref a :: us) (vs := .ref a :: vs) F hr hb hd hx I2 (.cons rfl r) q2
/-- o.m() -/
theorem pe_meth0 {pl : Sem Bool} (he : PE X o ta) (c : Cls X.K C) (hm : Meth X.K C m f) (F : FnOk X.prog X.w X.K X.mg X.base CX k f fd ps sp) (hr : Room k X.A) (hb : Binds X.K fd ps ds) (hd : Vals dvs ds) (hx : Passes CX X E)
    (ht : eval (.Call (.Attribute o m apos) [] [] pos) X.env = (do
      let ov ← eval o X.env
      standAt apos.atName
      let (f, first) ← holding [ov] (getMethod ov m pl)
      callWith pos f first (backTo pos (starEach [] X.env)) (backToKw pos (keywordEach [] X.env))) := by rfl) :
    PE X (.Call (.Attribute o m apos) [] [] pos) (tMeth C m sp dvs E ta tNil) := by
  intro pins s σ H Q I h
  refine PySem.W.methodCall_KW (pl := pl) (thn (he pins s σ H _ I h) fun u s1 ⟨x, H1, I1, rx, a, dx, fs, ex, ea, l, q⟩ => ?_) ht
  subst ex
  obtain rfl : u = Value.ref a := rx
  refine getmeth_ok I1 ea c hm l ?_
  exact PySem.W.callWith_K0 (first := [.ref a]) I1.kIn hm.kp (run_fn (us := [.ref a]) (vs := [.ref a]) F hr hb hd hx I1 (.cons rfl .nil) q)

/-- what a class must have to be made -/
structure Mk (K : PySem.W.Frag) (C f : Addr) : Prop where
  makes : PySem.W.makesIn K C = true
  init : PySem.W.findIn K (.ref C) "__init__" = some (some (.ref f))
  fn : PySem.W.isFn K (.ref f) = true
  kp : PySem.W.keepIn K (.ref C) = true

theorem run_make {pins : List (Addr × Obj)} {σ : St} {H : Hp} {s : Shared} {Q : VK} {us : List Value} {vs : List V} (M : Mk X.K C f) (F : FnOk X.prog X.w X.K X.mg X.base CX k f fd ps sp) (hr : Room (k + 1) X.A) (hb : Binds X.K fd ps ds) (hd : Vals dvs ds)
    (hx : Passes CX X E) (I : Inv X pins σ H s) (r : Vals vs us)
    (h : ∀ x dx, H x = none → H dx = none → dx ≠ x → sp (.ref x :: (vs ++ dvs)) (upd (upd H dx (.own x)) x (.ins C dx [])) (fun v H2 => v = .non ∧ Q (.ref x) H2) E) :
    wpAny (model X.prog X.w) X.A (call (.ref C) us) (EP X pins σ Q) X.xe s := by
  have hq := h (s.heap.objs.size + 1) s.heap.objs.size (I.hok.fresh (Nat.le_succ _)) (I.hok.fresh (Nat.le_refl _)) (Nat.ne_of_lt (Nat.lt_succ_self _))
  have I2 := Inv.made (C := C) I
  have r2 : Vals (V.ref (s.heap.objs.size + 1) :: (vs ++ dvs)) (Value.ref (s.heap.objs.size + 1) :: (us ++ ds)) := .cons rfl (r.append hd)
  have hl : (Value.ref (s.heap.objs.size + 1) :: us ++ ds).length = ps.length := by
    have e := r2.length
    rw [F.len _ _ _ _ hq] at e
    exact e.symm
  refine wpAny_call (make_map (f := f) I.kIn M.makes M.init (beq_iff_eq.mp M.fn) (codeAny_mono (F.run _ X.stack _ _ ⟨Value.ref (s.heap.objs.size + 1) :: us, []⟩ (Value.ref (s.heap.objs.size + 1) :: (us ++ ds)) _ _ E (hr.make C us [])
    (I2.env0.make C us []) (hb _ (Value.ref (s.heap.objs.size + 1) :: us) I2.kIn hl) r2 hq) fun r s' hq' => ?_))
  cases r with
  | error e => exact hx pins σ _ _ e s' I2 hq'
  | ok fl =>
    cases fl with
    | ret u =>
      obtain ⟨v, H', I3, rv, ev, q3⟩ := I2.after hq'
      subst ev
      exact ⟨rv, ⟨V.ref (s.heap.objs.size + 1), H', I3, rfl, q3⟩⟩
    | next => exact False.elim hq'
    | brk => exact False.elim hq'
    | cont => exact False.elim hq'
theorem pe_make0 (M : Mk X.K C f) (F : FnOk X.prog X.w X.K X.mg X.base CX k f fd ps sp) (hr : Room (k + 1) X.A) (hg : Gl X x) (hm : X.mg x = some (.ref C)) (hb : Binds X.K fd ps ds) (hd : Vals dvs ds) (hx : Passes CX X E)
    (hdb : (x == ("__debug__" : Str)) = false := by decide) : PE X (.Call (.Name x p) [] [] pos) (tMake C sp dvs E tNil) := by
  intro pins s σ H Q I h
  refine wpAny_Call_Name_kw (ld_glob I hg hm ?_ hdb)
  exact PySem.W.callWith_K0 I.kIn M.kp (run_make (us := []) M F hr hb hd hx I .nil h)
end

section
variable {X : Cx} {CX : CXT} {k : Nat} {f C : Addr} {fd : FuncData} {ps ks : List Str} {sp : Sp} {E : XK} {x m : Str} {p pos apos kpos : Pos} {e o : Expr} {es : List Expr} {kws : List Keyword} {te ta : TE} {t tk : TA} {nm : Option Str}
variable {g : List Value → List Value → List Value} {gV : List V → List V → List V}
end

/-- names: the parameters first -/
structure FnScope (N P : List Str) (sc : Scope) : Prop where
  kind : sc.kind = .function
  co : sc.isCoroutine = false
  gen : sc.isGenerator = false
  nd : N.Nodup
  pre : N.take P.length = P
  par : ∀ x ∈ P, sc.names.lookup x = some .local ∨ sc.names.lookup x = some .cell
  nofree : ∀ y ∈ sc.names, y.2 ≠ .free

theorem bindL_out {kindOf : Str → Option NameKind} {x : Str} : ∀ {binds : List (Str × Value)} {m : Str → Option Value}, (∀ v, (x, v) ∉ binds) → bindL kindOf binds m x = m x
  | [], _, _ => rfl
  | (n, v) :: r, m, h => by
    unfold bindL
    rw [bindL_out fun w hw => h w (List.mem_cons_of_mem _ hw)]
    split
    · have : x ≠ n := by rintro rfl; exact h v List.mem_cons_self
      simp [this]
    · rfl
theorem bindC_out {kindOf : Str → Option NameKind} {x : Str} : ∀ {binds : List (Str × Value)} {m : Str → Option Value}, (∀ v, (x, v) ∉ binds) → bindC kindOf binds m x = m x
  | [], _, _ => rfl
  | (n, v) :: r, m, h => by
    unfold bindC
    rw [bindC_out fun w hw => h w (List.mem_cons_of_mem _ hw)]
    split
    · rfl
    · have : x ≠ n := by rintro rfl; exact h v List.mem_cons_self
      simp [this]
theorem bindL_get {kindOf : Str → Option NameKind} {x : Str} {v : Value} : ∀ {P : List Str} {vs : List Value} {i : Nat} {m : Str → Option Value}, P.Nodup → P[i]? = some x → vs[i]? = some v → kindOf x = some .local →
    bindL kindOf (P.zip vs) m x = some v
  | [], _, _, _, _, h, _, _ => by simp at h
  | _ :: _, [], _, _, _, _, h, _ => by simp at h
  | p :: P, w :: vs, 0, m, nd, h1, h2, hk => by
    simp at h1 h2; subst h1; subst h2
    show bindL kindOf ((p, w) :: P.zip vs) m p = _
    unfold bindL
    rw [bindL_out fun v hv => (List.nodup_cons.mp nd).1 (List.of_mem_zip hv).1, if_pos hk]
    simp
  | p :: P, w :: vs, i + 1, m, nd, h1, h2, hk => by
    show bindL kindOf ((p, w) :: P.zip vs) m x = _
    unfold bindL
    exact bindL_get (i := i) (List.nodup_cons.mp nd).2 (by simpa using h1) (by simpa using h2) hk
theorem bindC_get {kindOf : Str → Option NameKind} {x : Str} {v : Value} : ∀ {P : List Str} {vs : List Value} {i : Nat} {m : Str → Option Value}, P.Nodup → P[i]? = some x → vs[i]? = some v → kindOf x ≠ some .local →
    bindC kindOf (P.zip vs) m x = some v
  | [], _, _, _, _, h, _, _ => by simp at h
  | _ :: _, [], _, _, _, _, h, _ => by simp at h
  | p :: P, w :: vs, 0, m, nd, h1, h2, hk => by
    simp at h1 h2; subst h1; subst h2
    show bindC kindOf ((p, w) :: P.zip vs) m p = _
    unfold bindC
    rw [bindC_out fun v hv => (List.nodup_cons.mp nd).1 (List.of_mem_zip hv).1, if_neg hk]
    simp
  | p :: P, w :: vs, i + 1, m, nd, h1, h2, hk => by
    show bindC kindOf ((p, w) :: P.zip vs) m x = _
    unfold bindC
    exact bindC_get (i := i) (List.nodup_cons.mp nd).2 (by simpa using h1) (by simpa using h2) hk

/-- the names' values at the entry -/
def start (N : List Str) (vs : List V) : St := vs.map some ++ List.replicate (N.length - vs.length) none

/-- the context of a def's body, at its entry; an exception leaves the frame, then lies as CX says -/
def cxOf (CX : CXT) (P : Program) (w : World) (K : PySem.W.Frag) (mg : Str → Option Value) (base : Heap) (N : List Str) (qual : Str) (scope : Scope) (f : Addr) (cd : Value) (A : Around) (outer : List Env) (s : Shared) (H : Hp) (E : XK) : Cx where
  prog := P
  w := w
  K := K
  mg := mg
  base := base
  A := A.deeper (envOfC qual scope s.heap.objs.size f cd)
  N := N
  s_0 := s
  H_0 := H
  env := envOfC qual scope s.heap.objs.size f cd
  outer := outer
  stack := envOfC qual scope s.heap.objs.size f cd :: outer
  ex := []
  calm := true
  fn := fun _ => true
  pn := []
  xe := fun e s' => wpAny (model P w) (A.deeper (envOfC qual scope s.heap.objs.size f cd)) (leaving (envOfC qual scope s.heap.objs.size f cd) e) (fun _ s'' => CX outer H s E e s'') (fun e' s'' => CX outer H s E e' s'') s'

theorem cell_has {sc : Scope} {n : Nat} {x : Str} (h : sc.names.lookup x = some .cell) : ∃ c, (cellsFrom n sc.names []).lookup x = some c := by
  have q := PySem.W.cellsFrom_some sc.names n [] (.inl h)
  exact Option.isSome_iff_exists.mp q

theorem inv_start {CX : CXT} {P : Program} {w : World} {K : PySem.W.Frag} {mg : Str → Option Value} {base : Heap} {N ps : List Str} {qual : Str} {scope : Scope} {f : Addr} {cd : Value} {A : Around} {outer : List Env} {s s1 : Shared} {H : Hp} {E : XK} {us : List Value} {vs : List V}
    (S : FnScope N ps scope) (hd : A.handled = none) (e0 : Env0 P w K mg base A outer s H) (hl : vs.length = ps.length) (r : Vals vs us)
    (x : InCallC s s.heap.objs.size (bindL (envOfC qual scope s.heap.objs.size f cd).kindOf (ps.zip us) fun _ => none) (cellsFrom (s.heap.objs.size + 1) scope.names []) (bindC (envOfC qual scope s.heap.objs.size f cd).kindOf (ps.zip us) fun _ => none) s1) :
    Inv (cxOf CX P w K mg base N qual scope f cd A outer s H E) [] (start N vs) H s1 := by
  have hpl : ps.length ≤ N.length := by have := congrArg List.length S.pre; rw [List.length_take] at this; omega
  obtain ⟨h1, tk, rfl, hk⟩ := x.done
  have noA : ∀ b : Addr, b ∉ (cxOf CX P w K mg base N qual scope f cd A outer s H E).ex := fun b z => absurd (show b ∈ ([] : List Addr) from z) (by simp)
  refine ⟨⟨e0.mod, S.kind, rfl, rfl, Nat.le_refl _, fun y z c h1 h2 => ?_, fun y hy => ?_, fun y c _ h => ?_, fun _ => hd, Around.frames_deeper e0.frames, .inr ⟨rfl, rfl⟩, fun b z => absurd z (noA b), e0.bs, e0.bsz, fun b _ _ => noA b, fun b z => absurd z (noA b), e0.funs, e0.frf⟩,
    rfl, e0.bare, Un.kept hk, ⟨_, x.toInCall.ns, fun i y v h1 h2 h3 => ?_⟩, fun y c h => ⟨_, x.cell y c h⟩, e0.hok.fresh (Nat.le_refl _), fun y c h => ?_, fun p hp => absurd (show p ∈ ([] : List (Addr × Obj)) from hp) (by simp), e0.hok.kept hk, ?_⟩
  · exact name_of_addr x.apart (PySem.mem_of_lookup h1) (PySem.mem_of_lookup h2)
  · have hy : scope.names.lookup y = some .cell ∨ scope.names.lookup y = some .free := hy
    rcases hy with hy | hy
    · exact cell_has hy
    · exact absurd rfl (S.nofree _ (PySem.mem_of_lookup hy))
  · exact Nat.le_of_lt (x.above y c (PySem.mem_of_lookup h))
  · have hi : i < vs.length := by
      unfold start at h2
      by_cases hi : i < vs.length
      · exact hi
      · rw [List.getElem?_append_right (by simpa using hi)] at h2
        rw [List.getElem?_replicate] at h2
        split at h2 <;> cases h2
    have ha : vs[i]? = some v := by
      unfold start at h2
      rw [List.getElem?_append_left (by simpa using hi), List.getElem?_map] at h2
      cases e : vs[i]? with
      | none => rw [e] at h2; cases h2
      | some a => rw [e] at h2; cases h2; rfl
    obtain ⟨u, hu, rv⟩ := r.get ha
    have hp : ps[i]? = some y := by
      rw [← S.pre, List.getElem?_take_of_lt (by omega)]; exact h1
    have ndP : ps.Nodup := by rw [← S.pre]; exact S.nd.sublist (List.take_sublist _ _)
    refine ⟨u, rv, ?_⟩
    rcases S.par y (List.mem_of_getElem? hp) with k | k
    · exact .inl ⟨k, bindL_get ndP hp hu k⟩
    · obtain ⟨c, e⟩ := cell_has (n := s.heap.objs.size + 1) k
      refine .inr ⟨.inl k, c, e, ?_⟩
      have q := x.cell y c e
      rw [bindC_get ndP hp hu (by show scope.names.lookup y ≠ _; rw [k]; decide)] at q
      exact q
  · exact e0.hok.fresh (Nat.le_of_lt (x.above y c (PySem.mem_of_lookup h)))
  · unfold start
    show _ = N.length
    rw [List.length_append, List.length_map, List.length_replicate]
    omega

/-- THE RULE: a def (or a method) of the text, by its body. The body's reading t is chosen for each entry; it is run at the parameters' values -/
theorem fn_of {CX : CXT} {P : Program} {w : World} {K : PySem.W.Frag} {mg : Str → Option Value} {base : Heap} {k : Nat} {f : Addr} {name qual : Str} {params : Arguments} {body : List Stmt} {scope : Scope} {dV kV doc pm cdv ct oc : Value} {an od : Option Addr}
    {osl : Array (Option Value)} {N ps : List Str} {sp : Sp} (lk : K.lookup f = some ⟨oc, od, .func (PySem.W.fnOf name qual params body scope dV kV doc pm an cdv ct), osl⟩) (hcd : PySem.W.codeIn K cdv qual = true) (S : FnScope N ps scope)
    (len : ∀ vs H Q E, sp vs H Q E → vs.length = ps.length)
    (hbody : ∀ (A : Around) (outer : List Env) (s : Shared) (H : Hp) (vs : List V) (Q : VK) (E : XK), Room k (A.deeper (envOfC qual scope s.heap.objs.size f cdv)) → sp vs H Q E →
      ∃ t, PSs (cxOf CX P w K mg base N qual scope f cdv A outer s H E) body t ∧ t { nx := fun _ H' => Q .non H', rt := Q } (start N vs) H) :
    FnOk P w K mg base CX (k + 1) f (PySem.W.fnOf name qual params body scope dV kV doc pm an cdv ct) ps sp := by
  refine ⟨len, fun A outer s H args us vs Q E hr e0 hb r hsp => ?_⟩
  have hl := len _ _ _ _ hsp
  have KX : K.In s.heap := e0.mod.kin.keeps fun b o e => (e0.bs b o e).1
  have lim : s.heap.NoLimit := e0.mod.nolimit.keeps fun b o e => (e0.bs b o e).1
  have hkind : ∀ y ∈ ps.zip us, scope.names.lookup y.1 = some .local ∨ (scope.names.lookup y.1 = some .cell ∧ ((cellsFrom (s.heap.objs.size + 1) scope.names []).lookup y.1).isSome = true) := fun ⟨n, v⟩ hy => by
    rcases S.par n (List.of_mem_zip hy).1 with q | q
    · exact .inl q
    · exact .inr ⟨q, PySem.W.cellsFrom_some _ _ _ (.inl q)⟩
  refine codeAny_call_function hr.depth (KX _ _ lk) rfl S.co S.gen rfl (PySem.W.codeRec_of KX hcd) (hb _ _ _ _ ?_)
  refine wpAny_newFunctionEnv_cells S.kind hkind fun env he s1 x => ?_
  subst he
  refine ⟨lim.keeps x.toInCall.keep, codeAny_func ?_⟩
  obtain ⟨t, ht, hq⟩ := hbody A outer s H vs Q E (hr.deeper _) hsp
  have I : Inv (cxOf CX P w K mg base N qual scope f cdv A outer s H E) [] (start N vs) H s1 := inv_start S hr.hd e0 hl r x
  refine wpAny_mono (ht [] s1 (start N vs) H _ I hq) (fun fl s' hs => ?_) fun e s' hs => hs
  have fin : ∀ {σ' : St} {H' : Hp} {v : V} {u : Value}, Inv (cxOf CX P w K mg base N qual scope f cdv A outer s H E) [] σ' H' s' → RelV v u → Q v H' → CE outer P w H s Q u s' :=
    fun {σ' H' v u} J rv q => ⟨v, H', J.os, J.bare, J.base, J.hok, rv, q⟩
  cases fl with
  | ret u =>
    obtain ⟨v, σ', H', J, rv, q⟩ := hs
    exact fin J rv q
  | next =>
    obtain ⟨σ', H', J, q⟩ := hs
    exact fin (v := V.non) (u := Value.none) J rfl q
  | brk =>
    obtain ⟨_, _, _, q⟩ := hs
    exact False.elim q
  | cont =>
    obtain ⟨_, _, _, q⟩ := hs
    exact False.elim q
end L2

namespace L2
open PySem PySem.Spec PyProof.Rows
section
variable {X : Cx} {x : Str} {p pos : Pos} {e : Expr} {es : List Expr} {t : TA} {id T : String} {r : List V → Hp → VK → Prop}

def tCB (r : List V → Hp → VK → Prop) (t : TA) : TE := fun σ H Q => t σ H fun vs H1 => r vs H1 Q
/-- f(e, ..), f a built-in function -/
theorem pe_callB (hc : CallR X (.builtin id) r) (hg : Gl X x) (hm : X.mg x = none) (hv : bootBuiltins x = some (.builtin id)) (ha : PA X (e :: es) t) (hn : x ≠ "__name__" := by decide) (hdb : (x == ("__debug__" : Str)) = false := by decide)
    (he : starEach (e :: es) X.env = (false, eval e X.env) :: starEach es X.env := by rfl) (hpl : (backTo pos (starEach es X.env)).any (·.1) = false := by rfl) : PE X (.Call (.Name x p) (e :: es) [] pos) (tCB r t) := by
  intro pins s σ H Q I h
  refine wpAny_Call_Name_kw (ld_blt I hg hm hv ?_ hn hdb)
  exact PyProof.Rows.callWith_builtin1 (thn (ha pos pins s σ H _ I h) fun us s1 ⟨vs, H1, I1, r1, q1⟩ => hc pins s1 σ H1 vs us Q I1 r1 q1) he hpl
/-- T(e, ..), T a built-in type -/
theorem pe_callTy (hc : CallR X (.type T) r) (hg : Gl X x) (hm : X.mg x = none) (hv : bootBuiltins x = some (.type T)) (ha : PA X (e :: es) t) (hn : x ≠ "__name__" := by decide) (hdb : (x == ("__debug__" : Str)) = false := by decide)
    (he : starEach (e :: es) X.env = (false, eval e X.env) :: starEach es X.env := by rfl) (hpl : (backTo pos (starEach es X.env)).any (·.1) = false := by rfl) : PE X (.Call (.Name x p) (e :: es) [] pos) (tCB r t) := by
  intro pins s σ H Q I h
  refine wpAny_Call_Name_kw (ld_blt I hg hm hv ?_ hn hdb)
  exact PyProof.Rows.callWith_type1 (thn (ha pos pins s σ H _ I h) fun us s1 ⟨vs, H1, I1, r1, q1⟩ => hc pins s1 σ H1 vs us Q I1 r1 q1) he hpl
end
end L2

namespace HT
open PySem PyProof.Rows

section
open PySem.SeqAt
open PySem.AutoSeq1 (wpAny_loadPart')
open PySem.MeetsSeq PySem.MeetsSeq2 PySem.MeetsSeq3

end

section
variable {prog : Program} {w : World} {A : Around} {E : Value → Shared → Prop} {s : Shared}

/-- a slice's bound as a place among n (d where it is left out) -/
def sIx (n d : Nat) : Option Int → Nat
  | none => d
  | some v => if v < 0 then (v + (n : Int)).toNat else min v.toNat n
end
end HT

namespace L2
open PySem PySem.Spec PyProof.Rows

abbrev TO := St → Hp → (Option Int → Hp → Prop) → Prop
/-- a slice's part (left out, or an int) -/
def PO (X : Cx) (e : Option Expr) (t : TO) : Prop :=
  ∀ (pins : List (Addr × Obj)) (s : Shared) (σ : St) (H : Hp) (Q : Option Int → Hp → Prop), Inv X pins σ H s → t σ H Q →
    wpAny (model X.prog X.w) X.A (evalPart e X.env) (fun u s' => ∃ o H', Inv X pins σ H' s' ∧ IsPart u o ∧ Q o H') X.xe s
def tNoPart : TO := fun _ H Q => Q none H
def tPart (t : TE) : TO := fun σ H Q => t σ H fun x H1 => ∃ i, x = .int i ∧ Q (some i) H1

section
variable {X : Cx} {e : Expr} {te : TE} {lo hi : Option Expr} {tl th : TO} {pos p2 : Pos}

theorem po_none : PO X none tNoPart := by
  intro pins s σ H Q I h
  rw [evalPart_none]
  exact wpAny_pure ⟨none, H, I, .none, h⟩
theorem po_some (h : PE X e te) : PO X (some e) (tPart te) := by
  intro pins s σ H Q I hw
  rw [evalPart_some]
  refine thn (h pins s σ H _ I hw) fun u s1 ⟨x, H1, I1, r1, q1⟩ => ?_
  obtain ⟨i, rfl, q⟩ := q1
  obtain ⟨t, rfl⟩ := r1
  exact ⟨some i, H1, I1, .int i t, q⟩

/-- what a slice of a value is, by values: the slice object stands at sl -/
def SlR (X : Cx) (r : V → Option Int → Option Int → Hp → VK → Prop) : Prop :=
  ∀ (pins : List (Addr × Obj)) (s : Shared) (σ : St) (H : Hp) (x : V) (v vl vu : Value) (lo hi : Option Int) (sl : Addr) (Q : VK), Inv X pins σ H s → RelV x v → s.heap.IsSliceOf sl vl vu .none → IsPart vl lo → IsPart vu hi → r x lo hi H Q →
    ∃ T id, typeLookup (.type T) "__getitem__" = pure (some (.builtin id)) ∧ s.TypeIs v T ∧ wpAny (model X.prog X.w) X.A (getItem v (.ref sl)) (EP X pins σ Q) X.xe s
def tSl (r : V → Option Int → Option Int → Hp → VK → Prop) (te : TE) (tl th : TO) : TE := fun σ H Q => te σ H fun x H1 => tl σ H1 fun l H2 => th σ H2 fun u H3 => r x l u H3 Q
/-- a[lo:hi], any a -/
theorem pe_slice {r : V → Option Int → Option Int → Hp → VK → Prop} (hr : SlR X r) (he : PE X e te) (hl : PO X lo tl) (hu : PO X hi th) : PE X (.Subscript e (.Slice lo hi none p2) pos) (tSl r te tl th) := by
  intro pins s σ H Q I h
  refine Subscript_ (thn (he pins s σ H _ I h) fun v s1 ⟨x, H1, I1, r1, q1⟩ => ?_)
  refine wpAny_Slice (thn (hl pins s1 σ H1 _ I1 q1) fun vl s2 ⟨l, H2, I2, pl, q2⟩ => thn (hu pins s2 σ H2 _ I2 q2) fun vu s3 ⟨u, H3, I3, pu, q3⟩ => ?_)
  rw [evalPart_none]
  refine wpAny_pure ?_
  have I4 : Inv X pins σ H3 { s3 with heap := s3.heap.push { cls := .type "slice", data := .fields #[vl, vu, .none] } } := I3.kept (t' := s3.toks) fun b ob q => Heap.get?_push_of_some _ q
  obtain ⟨T, id, hT, ht, hg⟩ := hr pins { s3 with heap := s3.heap.push { cls := .type "slice", data := .fields #[vl, vu, .none] } } σ H3 x v vl vu l u s3.heap.objs.size Q I4 r1 (Heap.IsSliceOf.new ..) pl pu q3
  show wpAny (model X.prog X.w) X.A (subscriptTail e (.Slice lo hi none p2) v (.ref s3.heap.objs.size)) (EP X pins σ Q) X.xe { s3 with heap := s3.heap.push { cls := .type "slice", data := .fields #[vl, vu, .none] } }
  exact tail_any (ops := [.ref s3.heap.objs.size, v]) ht hT hg (by with_unfolding_all rfl)

/-- the items of xs[lo:hi] -/
def cutV (xs : List V) (lo hi : Option Int) : List V := (xs.drop (HT.sIx xs.length 0 lo)).take (HT.sIx xs.length xs.length hi - HT.sIx xs.length 0 lo)
theorem cutV_length (xs : List V) (lo hi : Option Int) : (cutV xs lo hi).length ≤ xs.length := by
  unfold cutV
  rw [List.length_take, List.length_drop]
  omega
end
end L2

namespace L2
open PySem PySem.Spec PyProof.Rows

/-- the place that an index of any sign means -/
def ixN (n : Nat) (i : Int) : Option Nat := if 0 ≤ i then (if i < n then some i.toNat else none) else if -(n : Int) ≤ i then some (i + n).toNat else none
def atI {α : Type} (xs : List α) (i : Int) : Option α := (ixN xs.length i).bind fun j => xs[j]?
theorem ixN_seq {n : Nat} {i : Int} {j : Nat} (h : ixN n i = some j) : seqIndex? i n = some j ∧ j < n ∧ -(n : Int) ≤ i ∧ i < n := by
  unfold ixN at h
  by_cases h0 : 0 ≤ i
  · rw [if_pos h0] at h
    by_cases h1 : i < n
    · rw [if_pos h1] at h
      have e : i.toNat = j := Option.some.inj h
      exact ⟨by rw [seqIndex_of h0 h1, e], by omega, by omega, h1⟩
    · rw [if_neg h1] at h; cases h
  · rw [if_neg h0] at h
    by_cases h1 : -(n : Int) ≤ i
    · rw [if_pos h1] at h
      have e : (i + n).toNat = j := Option.some.inj h
      exact ⟨by rw [seqIndex_neg (by omega) h1, e], by omega, h1, by omega⟩
    · rw [if_neg h1] at h; cases h
theorem atI_get {α : Type} {xs : List α} {i : Int} {v : α} (h : atI xs i = some v) : ∃ j, seqIndex? i xs.length = some j ∧ xs[j]? = some v ∧ j < xs.length ∧ -(xs.length : Int) ≤ i ∧ i < xs.length := by
  unfold atI at h
  cases e : ixN xs.length i with
  | none => rw [e] at h; cases h
  | some j =>
    rw [e] at h
    obtain ⟨h1, h2, h3, h4⟩ := ixN_seq e
    exact ⟨j, h1, h, h2, h3, h4⟩
theorem atI_nat {α : Type} {xs : List α} {j : Nat} {v : α} (h : xs[j]? = some v) : atI xs (j : Int) = some v := by
  have hj : j < xs.length := (List.getElem?_eq_some_iff.mp h).1
  have e : ixN xs.length (j : Int) = some j := by
    unfold ixN
    rw [if_pos (by omega), if_pos (by omega)]; simp
  unfold atI; rw [e]; exact h
/-- what stands as an index of a plain subscript -/
def PlainIx (b : Expr) : Prop := ∀ o i, subscripted b false o i = operate [o, i] (getItem o i)
/-- a subscript by values -/
def IxR (X : Cx) (r : R2) : Prop :=
  ∀ (value slice : Expr) (pins : List (Addr × Obj)) (s : Shared) (σ : St) (H : Hp) (x y : V) (v u : Value) (Q : VK), Inv X pins σ H s → RelV x v → RelV y u → r x y H Q →
    subscripted slice false v u = operate [v, u] (getItem v u) → wpAny (model X.prog X.w) X.A (subscriptTail value slice v u) (EP X pins σ Q) X.xe s
/-- a call of a builtin's method by values: the receiver, the arguments -/
def MtR (X : Cx) (id : String) (r : V → List V → Hp → VK → Prop) : Prop :=
  ∀ (pins : List (Addr × Obj)) (s : Shared) (σ : St) (H : Hp) (x : V) (xs : List V) (v : Value) (us : List Value) (Q : VK), Inv X pins σ H s → RelV x v → Vals xs us → r x xs H Q →
    wpAny (model X.prog X.w) X.A (call (.builtin id) (v :: us)) (EP X pins σ Q) X.xe s
section
variable {X : Cx} {a b : Expr} {ta tb : TE} {pos : Pos}
/-- a[b] -/
theorem pe_ix {r : R2} (hr : IxR X r) (ha : PE X a ta) (hb : PE X b tb) (hs : PlainIx b) : PE X (.Subscript a b pos) (tOp r ta tb) := by
  intro pins s σ H Q I h
  exact Subscript_ (binT ha hb I h fun v u s2 x y H2 I2 rx ry q => hr a b pins s2 σ H2 x y v u Q I2 rx ry q (hs _ _))

def rIxL (K : PySem.W.Frag) : R2 := fun x y H Q => ∃ p xs i v, x = .ref p ∧ y = .int i ∧ SqL K H p xs ∧ atI xs i = some v ∧ Q v H
def rIxT (K : PySem.W.Frag) : R2 := fun x y H Q => ∃ p xs i v, x = .ref p ∧ y = .int i ∧ SqT K H p xs ∧ atI xs i = some v ∧ Q v H
theorem ix_list : IxR X (rIxL X.K) := by
  intro value slice pins s σ H x y v u Q I rx ry h hs
  obtain ⟨p, xs, i, z, rfl, rfl, hq, he, q⟩ := h
  cases rx
  obtain ⟨t, rfl⟩ := ry
  obtain ⟨its, r, pl, hz⟩ := I.list hq
  obtain ⟨j, h1, h2, h3, h4, h5⟩ := atI_get he
  obtain ⟨w, ew, rw'⟩ := r.get h2
  have hl := r.length
  have hn := line63
  have fin : EP X pins σ Q w s := ⟨z, H, I, rw', q⟩
  by_cases h0 : 0 ≤ i
  · have hj : i.toNat = j := by
      rw [seqIndex_of h0 h5] at h1
      exact Option.some.inj h1
    exact item_listR pl.isList h0 (by omega) (by rw [hj]; simpa using ew) fin hs
  · have hj : (i + (its.toArray.size : Int)).toNat = j := by
      rw [seqIndex_neg (by omega) h4] at h1
      rw [List.size_toArray, ← hl]
      exact Option.some.inj h1
    exact subscriptTail_builtinR (x := w) pl.isList.typeIs slot_list_getitem.lookup
      (wpAny_getItem_list_neg (Q := fun r s' => r = w ∧ EP X pins σ Q r s') pl.isList (by omega) (by rw [List.size_toArray] <;> omega) (by omega) (by rw [hj]; simpa using ew) ⟨rfl, fin⟩) hs
theorem ix_tup : IxR X (rIxT X.K) := by
  intro value slice pins s σ H x y v u Q I rx ry h hs
  obtain ⟨p, xs, i, z, rfl, rfl, hq, he, q⟩ := h
  cases rx
  obtain ⟨t, rfl⟩ := ry
  obtain ⟨its, r, pl, hz⟩ := I.tuple hq
  obtain ⟨j, h1, h2, h3, h4, h5⟩ := atI_get he
  obtain ⟨w, ew, rw'⟩ := r.get h2
  have hl := r.length
  have hn := line63
  have fin : EP X pins σ Q w s := ⟨z, H, I, rw', q⟩
  exact subscriptTail_builtinR (x := w) pl.typeIs slot_tuple_getitem.lookup
    (getItem_tuple (j := j) (Q := fun r s' => r = w ∧ EP X pins σ Q r s') pl (by omega) (by omega) (by rw [List.size_toArray, ← hl]; exact h1) (by simpa using ew) ⟨rfl, fin⟩) hs
/-- the list's object behind a store -/
theorem mapSeq_set (its : List Value) (n j : Nat) (u : Value) : Obj.mapSeq (·.setIfInBounds j u) { cls := .type "list", data := .seq its.toArray n } = { cls := .type "list", data := .seq (its.set j u).toArray n } := by
  simp [Obj.mapSeq]
theorem Inv.lst {pins : List (Addr × Obj)} {σ : St} {H : Hp} {s : Shared} {p : Addr} {xs : List V} (I : Inv X pins σ H s) (h : H p = some (.lst xs)) :
    ∃ (its : List Value) (n : Nat), Vals xs its ∧ s.heap.get? p = some { cls := .type "list", data := .seq its.toArray n } ∧ xs.length ≤ sizeLine := by
  obtain ⟨z, its, n, r, e⟩ := I.hok p _ h
  exact ⟨its, n, r, e, z⟩
/-- the list at p is written by an update of its object -/
theorem Inv.lstUpd {pins : List (Addr × Obj)} {σ : St} {H : Hp} {s : Shared} {p : Addr} {xs ys : List V} {its its' : List Value} {n n' : Nat} {f : Obj → Obj} (I : Inv X pins σ H s) (h : H p = some (.lst xs))
    (ho : s.heap.get? p = some { cls := .type "list", data := .seq its.toArray n }) (hf : f { cls := .type "list", data := .seq its.toArray n } = { cls := .type "list", data := .seq its'.toArray n' }) (r : Vals ys its') (hz : ys.length ≤ sizeLine) (t : Nat) :
    Inv X pins σ (upd H p (.lst ys)) { s with heap := s.heap.update p f, toks := t } := by
  have e : (s.heap.update p f).get? p = some { cls := .type "list", data := .seq its'.toArray n' } := by
    rw [Heap.get?_update_self f ho (by rw [hf] <;> rfl), hf]
  refine I.write (x := p) (e := p) (by rw [h]; trivial) (.inl rfl) (fun b u hb q => (Heap.get?_update_other _ _ (Ne.symm hb)).trans q) ⟨_, e⟩ ?_
  exact ⟨hz, its', n', r, e⟩
def rSetL : V → V → V → Hp → (Hp → Prop) → Prop := fun o i v H Q => ∃ p xs k j, o = .ref p ∧ i = .int k ∧ H p = some (.lst xs) ∧ ixN xs.length k = some j ∧ Q (upd H p (.lst (xs.set j v)))
theorem set_list : PSet X rSetL := by
  intro pins s σ H o i v ov iv u Q I ro ri rv h
  obtain ⟨p, xs, k, j, rfl, rfl, hp, hj, q⟩ := h
  cases ro
  obtain ⟨t, rfl⟩ := ri
  obtain ⟨its, n, r, ho, hz⟩ := I.lst hp
  obtain ⟨h1, h2, h3, h4⟩ := ixN_seq hj
  have hl := r.length
  have hn := line63
  have I' : Inv X pins σ (upd H p (.lst (xs.set j v))) { s with heap := s.heap.update p (Obj.mapSeq (·.setIfInBounds j u)) } :=
    I.lstUpd hp ho (mapSeq_set its n j u) (r.set rv j) (by rw [List.length_set]; exact hz) s.toks
  by_cases h0 : 0 ≤ k
  · have hk : k.toNat = j := by
      rw [seqIndex_of h0 h4] at h1
      exact Option.some.inj h1
    exact PySem.W.ki_setAt ho h0 (by omega) (by rw [List.size_toArray, ← hl]; exact h4) (by rw [hk]; exact ⟨_, I', q⟩)
  · have hk : (k + (its.toArray.size : Int)).toNat = j := by
      rw [seqIndex_neg (by omega) h3] at h1
      rw [List.size_toArray, ← hl]
      exact Option.some.inj h1
    exact PySem.W.ki_setBack ho (by omega) (by rw [List.size_toArray, ← hl]; exact h3) (by omega) (by rw [hk]; exact ⟨_, I', q⟩)

theorem slice_bounds (lo hi : Option Int) (n : Nat) : (sliceBounds lo hi none n).1 = ((HT.sIx n 0 lo : Nat) : Int) ∧ (sliceBounds lo hi none n).2.1 = ((HT.sIx n n hi : Nat) : Int) ∧ (sliceBounds lo hi none n).2.2 = 1 := by
  refine ⟨?_, ?_, rfl⟩
  · cases lo with
    | none => simp [sliceBounds, HT.sIx]
    | some i =>
      simp only [sliceBounds, HT.sIx, Option.getD_none, show (1 : Int) > 0 by decide, if_true]
      by_cases h : i < 0
      · simp only [h, if_true] <;> omega
      · simp only [h, if_false] <;> omega
  · cases hi with
    | none => simp [sliceBounds, HT.sIx]
    | some i =>
      simp only [sliceBounds, HT.sIx, Option.getD_none, show (1 : Int) > 0 by decide, if_true]
      by_cases h : i < 0
      · simp only [h, if_true] <;> omega
      · simp only [h, if_false] <;> omega
theorem slicePick_cut (its : List Value) (lo hi : Option Int) : slicePick its.toArray lo hi none = ((its.drop (HT.sIx its.length 0 lo)).take (HT.sIx its.length its.length hi - HT.sIx its.length 0 lo)).toArray := by
  obtain ⟨h1, h2, h3⟩ := slice_bounds lo hi its.toArray.size
  unfold slicePick
  rw [h1, h2, h3]
  simp only [sliceRange_one, pick_run, List.size_toArray] <;> rfl
/-- xs[lo:hi] of a list: a new list -/
def rSlL (K : PySem.W.Frag) : V → Option Int → Option Int → Hp → VK → Prop := fun x lo hi H Q => ∃ a xs, x = .ref a ∧ SqL K H a xs ∧ ∀ p, H p = none → Q (.ref p) (upd H p (.lst (cutV xs lo hi)))
theorem sl_list : SlR X (rSlL X.K) := by
  intro pins s σ H x v vl vu lo hi sl Q I rx hs pl pu h
  obtain ⟨a, xs, rfl, hx, q⟩ := h
  cases rx
  obtain ⟨its, r, ht, hz⟩ := I.list hx
  have hlen := r.length
  refine ⟨"list", _, slot_list_getitem.lookup, ht.isList.typeIs, ?_⟩
  refine wpAny_getItem_list_slice ht.isList hs pl pu .none (by simp) ?_ (by rw [List.size_toArray] <;> omega)
  rw [slicePick_cut, ← hlen]
  refine ⟨.ref s.heap.objs.size, _, I.laid (t' := s.toks) (o := .lst (cutV xs lo hi)) (fun b ob q => Heap.get?_push_of_some _ q) (Nat.le_refl _) ?_, rfl, q _ (I.hok.fresh (Nat.le_refl _))⟩
  exact ⟨Nat.le_trans (cutV_length xs lo hi) hz, _, 0, (r.drop (HT.sIx xs.length 0 lo)).take (HT.sIx xs.length xs.length hi - HT.sIx xs.length 0 lo), Heap.get?_push_size _ rfl⟩

def flatV : V → Bool
  | .non => true
  | .bl _ => true
  | .int _ => true
  | .str _ => true
  | _ => false
/-- == of flat values -/
def eqV : V → V → Bool
  | .non, .non => true
  | .bl a, .bl b => a == b
  | .bl a, .int b => (if a then 1 else 0) == b
  | .int a, .bl b => a == (if b then 1 else 0)
  | .int a, .int b => a == b
  | .str a, .str b => a == b
  | _, _ => false
theorem eqAt_V {A : Around} {s : Shared} {y x : V} {u v : Value} (ry : RelV y u) (rx : RelV x v) (fy : flatV y = true) (fx : flatV x = true) : SeqAt.EqAt A s u v (eqV y x) := by
  cases y with
  | non =>
    cases ry
    cases x with
    | non => cases rx; exact SeqAt.EqAt.same _
    | bl b => cases rx; exact SeqAt.EqAt.none_bool b
    | int b => obtain ⟨t, rfl⟩ := rx; exact SeqAt.EqAt.none_int b t
    | str b => obtain ⟨t, rfl⟩ := rx; exact SeqAt.EqAt.none_str b t
    | _ => exact absurd (show false = true from fx) Bool.false_ne_true
  | bl a =>
    cases ry
    cases x with
    | non => cases rx; exact SeqAt.EqAt.bool_none a
    | bl b => cases rx; exact SeqAt.EqAt.bool_bool a b
    | int b => obtain ⟨t, rfl⟩ := rx; exact SeqAt.EqAt.bool_int a b t
    | str b => obtain ⟨t, rfl⟩ := rx; exact SeqAt.EqAt.bool_str a b t
    | _ => exact absurd (show false = true from fx) Bool.false_ne_true
  | int a =>
    obtain ⟨t', rfl⟩ := ry
    cases x with
    | non => cases rx; exact SeqAt.EqAt.int_none a t'
    | bl b => cases rx; exact SeqAt.EqAt.int_bool a t' b
    | int b => obtain ⟨t, rfl⟩ := rx; exact SeqAt.EqAt.int_int a t' b t
    | str b => obtain ⟨t, rfl⟩ := rx; exact SeqAt.EqAt.int_str a t' b t
    | _ => exact absurd (show false = true from fx) Bool.false_ne_true
  | str a =>
    obtain ⟨t', rfl⟩ := ry
    cases x with
    | non => cases rx; exact SeqAt.EqAt.str_none a t'
    | bl b => cases rx; exact SeqAt.EqAt.str_bool a t' b
    | int b => obtain ⟨t, rfl⟩ := rx; exact SeqAt.EqAt.str_int a t' b t
    | str b => obtain ⟨t, rfl⟩ := rx; exact SeqAt.EqAt.str_str a t' b t
    | _ => exact absurd (show false = true from fx) Bool.false_ne_true
  | _ => exact absurd (show false = true from fy) Bool.false_ne_true
/-- the items' answers, read off the values (a value's own answer does not lean on its token) -/
def eqU (x : V) (u : Value) : Bool := match u with
  | .none => eqV .non x
  | .bool b => eqV (.bl b) x
  | .int i _ => eqV (.int i) x
  | .str z _ => eqV (.str z) x
  | _ => false
theorem eqU_of {x y : V} {u : Value} (r : RelV y u) (f : flatV y = true) : eqU x u = eqV y x := by
  cases y with
  | non => cases r; rfl
  | bl b => cases r; rfl
  | int i => obtain ⟨t, rfl⟩ := r; rfl
  | str z => obtain ⟨t, rfl⟩ := r; rfl
  | _ => exact absurd (show false = true from f) Bool.false_ne_true
theorem any_eqU {x : V} : ∀ {xs : List V} {us : List Value}, Vals xs us → xs.all flatV = true → us.any (eqU x) = xs.any fun y => eqV y x
  | _, _, .nil, _ => rfl
  | y :: xs, u :: us, .cons r t, f => by
    rw [List.all_cons, Bool.and_eq_true] at f
    rw [List.any_cons, List.any_cons, eqU_of r f.1, any_eqU t f.2]
theorem mem_eqAt {A : Around} {s : Shared} {x : V} {v : Value} (rx : RelV x v) (fx : flatV x = true) : ∀ {xs : List V} {us : List Value}, Vals xs us → xs.all flatV = true → ∀ u ∈ us, SeqAt.EqAt A s u v (eqU x u)
  | _, _, .nil, _ => fun u hu => by cases hu
  | y :: xs, u :: us, .cons r t, f => fun u' hu => by
    rw [List.all_cons, Bool.and_eq_true] at f
    rcases List.mem_cons.mp hu with rfl | hu
    · rw [eqU_of r f.1]; exact eqAt_V r rx f.1 fx
    · exact mem_eqAt rx fx t f.2 u' hu
def inV (x : V) (xs : List V) : Bool := xs.any fun y => eqV y x
/-- x in a list or tuple of flat items -/
def rIn (K : PySem.W.Frag) (neg : Bool) : R2 := fun x y H Q => ∃ p xs, y = .ref p ∧ (SqL K H p xs ∨ SqT K H p xs) ∧ flatV x = true ∧ xs.all flatV = true ∧ Q (.bl (if neg then !inV x xs else inV x xs)) H
theorem op_in_seq : OpR X (compareOp .In) (rIn X.K false) := by
  intro pins s σ H x y v u Q I rx ry h
  obtain ⟨p, xs, rfl, hq, fx, fs, q⟩ := h
  cases ry
  rcases hq with hq | hq
  · obtain ⟨its, r, pl, hz⟩ := I.list hq
    refine SeqAt.in_listAt (eqU x) pl.isList (fun w hw => mem_eqAt rx fx r fs w (by simpa using hw)) ⟨.bl _, H, I, rfl, ?_⟩
    rw [show its.toArray.any (eqU x) = its.any (eqU x) by simp, any_eqU r fs]
    exact q
  · obtain ⟨its, r, pl, hz⟩ := I.tuple hq
    refine SeqAt.in_tupleAt (eqU x) pl (fun w hw => mem_eqAt rx fx r fs w (by simpa using hw)) ⟨.bl _, H, I, rfl, ?_⟩
    rw [show its.toArray.any (eqU x) = its.any (eqU x) by simp, any_eqU r fs]
    exact q
theorem call_len_seq : CallR X (.builtin "len") (fun xs H Q => ∃ p ys, xs = [.ref p] ∧ (SqL X.K H p ys ∨ SqT X.K H p ys) ∧ Q (.int ys.length) H) := by
  intro pins s σ H xs us Q I r h
  obtain ⟨p, ys, rfl, hq, q⟩ := h
  obtain ⟨u, rfl, rx⟩ := vals1 r
  cases rx
  have hn := line63
  rcases hq with hq | hq
  · obtain ⟨its, r', pl, hz⟩ := I.list hq
    have hlen := r'.length
    exact Calls.call_len_list pl.isList (by simp only [List.size_toArray] <;> omega) ⟨.int ys.length, H, I.tok _, ⟨s.toks + 1, by rw [List.size_toArray, hlen]⟩, q⟩
  · obtain ⟨its, r', pl, hz⟩ := I.tuple hq
    have hlen := r'.length
    exact len_tuple pl (by simp only [List.size_toArray] <;> omega) ⟨.int ys.length, H, I.tok _, ⟨s.toks + 1, by rw [List.size_toArray, hlen]⟩, q⟩
theorem call_list_of : CallR X (.type "list") (fun xs H Q => ∃ p ys, xs = [.ref p] ∧ (SqL X.K H p ys ∨ SqT X.K H p ys) ∧ ∀ l, H l = none → Q (.ref l) (upd H l (.lst ys))) := by
  intro pins s σ H xs us Q I r h
  obtain ⟨p, ys, rfl, hq, q⟩ := h
  obtain ⟨u, rfl, rx⟩ := vals1 r
  cases rx
  have fin : ∀ (its : List Value), Vals ys its → ys.length ≤ sizeLine → ∀ (h' : Heap) (c' : Nat), (∀ b o', s.heap.get? b = some o' → h'.get? b = some o') →
      h'.get? s.heap.objs.size = some { cls := .type "list", dict := none, data := .seq its.toArray c', slots := #[] } → EP X pins σ Q (.ref s.heap.objs.size) { s with heap := h' } := fun its r' hz h' c' kp e =>
    ⟨.ref s.heap.objs.size, _, I.laid (t' := s.toks) kp (Nat.le_refl _) (show ObjOk X.prog X.w _ h' _ (.lst ys) from ⟨hz, its, c', r', e⟩), rfl, q _ (I.hok.fresh (Nat.le_refl _))⟩
  rcases hq with hq | hq
  · obtain ⟨its, r', pl, hz⟩ := I.list hq
    have hlen := r'.length
    obtain ⟨o, ho, hc, n, hd⟩ := pl.isList
    exact call_list_seq p (.inl rfl) ho hc hd (fun h' c' kp e => fin its r' hz h' c' kp e) (by simp only [List.size_toArray] <;> omega)
  · obtain ⟨its, r', pl, hz⟩ := I.tuple hq
    have hlen := r'.length
    obtain ⟨o, ho, hc, n, hd⟩ := pl
    exact call_list_seq p (.inr rfl) ho hc hd (fun h' c' kp e => fin its r' hz h' c' kp e) (by simp only [List.size_toArray] <;> omega)
/-- the value is of that builtin type -/
def tyV (K : PySem.W.Frag) (T : String) (x : V) (H : Hp) : Prop := match x with
  | .str _ => T = "str"
  | .int _ => T = "int"
  | .ref p => (T = "list" ∧ ∃ xs, SqL K H p xs) ∨ (T = "tuple" ∧ ∃ o, K.lookup p = some o ∧ o.cls = .type "tuple" ∧ o.dict = none) ∨
      (T = "dict" ∧ ((∃ kvs, H p = some (.dK kvs)) ∨ ∃ kvs, H p = some (.dT kvs))) ∨ (T = "set" ∧ ∃ S n, H p = some (.set S n))
  | _ => False
theorem tyV_is {pins : List (Addr × Obj)} {σ : St} {H : Hp} {s : Shared} {T : String} {x : V} {v : Value} (I : Inv X pins σ H s) (r : RelV x v) (ty : tyV X.K T x H) :
    s.TypeIs v T ∧ ∀ a, v = .ref a → ∃ ob, s.heap.get? a = some ob ∧ ob.dict = none := by
  cases x with
  | str z =>
    obtain ⟨t, rfl⟩ := r
    cases (show T = "str" from ty)
    exact ⟨typeIs_str s z t, fun _ e => nomatch e⟩
  | int i =>
    obtain ⟨t, rfl⟩ := r
    cases (show T = "int" from ty)
    exact ⟨typeIs_int s i t, fun _ e => nomatch e⟩
  | ref p =>
    cases r
    rcases ty with ⟨rfl, xs, hq⟩ | ⟨rfl, o, hk, hc, hd⟩ | ⟨rfl, hk⟩ | ⟨rfl, S, n, hk⟩
    · obtain ⟨its, _, pl, _⟩ := I.list hq
      refine ⟨pl.isList.typeIs, fun a e => ?_⟩
      cases e
      obtain ⟨o, n, e, c, hd, _⟩ := pl
      exact ⟨o, e, hd⟩
    · refine ⟨⟨o, I.kIn p o hk, hc⟩, fun a e => ?_⟩
      cases e
      exact ⟨o, I.kIn _ o hk, hd⟩
    · have z : ∃ o, s.heap.get? p = some o ∧ o.ExactDict := by
        rcases hk with ⟨kvs, hk⟩ | ⟨kvs, hk⟩
        · obtain ⟨_, _, _, _, o, _, _, e, ex, _⟩ := I.hok p _ hk
          exact ⟨o, e, ex⟩
        · obtain ⟨_, _, _, _, o, _, _, e, ex, _⟩ := I.hok p _ hk
          exact ⟨o, e, ex⟩
      obtain ⟨o, e, ex⟩ := z
      refine ⟨⟨o, e, ex.1⟩, fun a e2 => ?_⟩
      cases e2
      exact ⟨o, e, ex.2.1⟩
    · obtain ⟨o, _, _, _, e, ex, _⟩ := I.hok p _ hk
      refine ⟨⟨o, e, ex.1⟩, fun a e2 => ?_⟩
      cases e2
      exact ⟨o, e, ex.2.1⟩
  | _ => exact False.elim ty
def tBM (K : PySem.W.Frag) (T : String) (r : V → List V → Hp → VK → Prop) (to : TE) (t : TA) : TE := fun σ H Q => to σ H fun x H1 => tyV K T x H1 ∧ t σ H1 fun xs H2 => r x xs H2 Q
variable {o e : Expr} {es : List Expr} {to : TE} {t : TA} {name : Str} {apos cpos : Pos} {T id : String} {r : V → List V → Hp → VK → Prop}
theorem pe_bm (pa : PlainAttrs T) (slot : Slot T name id) (hty : typeOf (.builtin id) = pure (.type "method_descriptor")) (hm : MtR X id r) (ho : PE X o to) (ha : PA X (e :: es) t)
    (hbase : attributeBase o name X.env (eval o X.env) = eval o X.env := by rfl)
    (hfew : ((backTo cpos (starEach (e :: es) X.env)).all (fun x => !x.1) && (backToKw cpos (keywordEach [] X.env)).all (fun x => x.1.isSome)
      && decide ((e :: es).length + ([] : List Keyword).length + (if ([] : List Keyword).isEmpty then 0 else 1) < 30)) = true := by rfl)
    (hline : (apos.endLine == cpos.line) = true := by rfl) (hs : starEach (e :: es) X.env = (false, eval e X.env) :: starEach es X.env := by rfl) (hplain : (backTo cpos (starEach es X.env)).any (·.1) = false := by rfl) :
    PE X (.Call (.Attribute o name apos) (e :: es) [] cpos) (tBM X.K T r to t) := by
  intro pins s σ H Q I h
  refine wpAny_Call_method_late hbase hfew hline rfl (thn (ho pins s σ H _ I h) fun v s1 ⟨x, H1, I1, r1, ty, q1⟩ => ?_)
  obtain ⟨h1, h2⟩ := tyV_is I1 r1 ty
  refine ⟨T, id, pa, slot, hty, h1, h2, ?_⟩
  have hA := ha cpos pins s1 σ H1 _ I1 q1
  rw [hs] at hA ⊢
  refine Calls.callWith_builtin (by show (false || (backTo cpos (starEach es X.env)).any (·.1)) = false; rw [hplain] <;> rfl) (Calls.evalArgs_plain ?_)
  exact thn hA fun us s2 ⟨vs, H2, I2, r2, q2⟩ => hm pins s2 σ H2 x vs v us Q I2 r1 r2 q2
/- xs.append(e), list.index on a module's tuple .. are MtR facts of 06m -/
end
end L2

namespace L2
open PySem PySem.Spec PyProof.Rows

def MtM (X : Cx) (id : String) (r : V → List V → Hp → VK → Prop) : Prop :=
  ∀ (pins : List (Addr × Obj)) (s : Shared) (σ : St) (H : Hp) (x : V) (xs : List V) (v : Value) (us : List Value) (Q : VK), Inv X pins σ H s → RelV x v → Vals xs us → r x xs H Q →
    wpAny (model X.prog X.w) X.A (call (.builtin id) (v :: us)) (EP X pins σ Q) X.xe s

theorem Vals.one : ∀ {x : V} {us : List Value}, Vals [x] us → ∃ u, us = [u] ∧ RelV x u
  | _, _, .cons r .nil => ⟨_, rfl, r⟩
theorem Vals.reverse {xs : List V} {us : List Value} (h : Vals xs us) : Vals xs.reverse us.reverse := by
  induction h with
  | nil => exact .nil
  | cons r t ih => rw [List.reverse_cons, List.reverse_cons]; exact Vals.append ih (.cons r .nil)
theorem Vals.rep {xs : List V} {us : List Value} (h : Vals xs us) : ∀ k : Nat, Vals (List.replicate k xs).flatten (List.replicate k us).flatten
  | 0 => .nil
  | k + 1 => by
    rw [List.replicate_succ, List.replicate_succ, List.flatten_cons, List.flatten_cons]
    exact Vals.append h (Vals.rep h k)
theorem foldl_rep (its : List Value) : ∀ (k : Nat) (acc : List Value),
    List.foldl (fun x1 x2 => x1 ++ x2) acc.toArray (List.replicate k its.toArray) = (acc ++ (List.replicate k its).flatten).toArray
  | 0, acc => by simp
  | k + 1, acc => by
    have e : acc.toArray ++ its.toArray = (acc ++ its).toArray := by simp
    have e2 : (acc ++ its) ++ (List.replicate k its).flatten = acc ++ (List.replicate (k + 1) its).flatten := by
      rw [List.replicate_succ, List.flatten_cons, List.append_assoc]
    rw [← e2, ← foldl_rep its k (acc ++ its), ← e, List.replicate_succ, List.foldl_cons]

section
variable {X : Cx} {pins : List (Addr × Obj)} {σ : St} {H : Hp} {s : Shared} {l b : Addr} {xs ys zs : List V}

theorem Inv.lset {its its' : List Value} {n : Nat} {f : Array Value → Array Value} {t' : Nat} (I : Inv X pins σ H s) (hH : H l = some (.lst xs))
    (e : s.heap.get? l = some { cls := .type "list", data := .seq its.toArray n }) (hf : f its.toArray = its'.toArray) (hv : Vals ys its') (hz : ys.length ≤ sizeLine) :
    Inv X pins σ (upd H l (.lst ys)) { s with heap := s.heap.update l (Obj.mapSeq f), toks := t' } := by
  have q := PySem.IsL.update e f
  rw [hf] at q
  refine I.write (x := l) (e := l) (by rw [hH]; exact trivial) (.inl rfl) (fun b' u hb hu => (Heap.get?_update_other s.heap (Obj.mapSeq f) (Ne.symm hb)).trans hu) ⟨_, q⟩ ?_
  exact ⟨hz, its', _, hv, q⟩
theorem Inv.lnew {its : List Value} {t' : Nat} (I : Inv X pins σ H s) (hv : Vals ys its) (hz : ys.length ≤ sizeLine) :
    Inv X pins σ (upd H s.heap.objs.size (.lst ys)) { s with heap := s.heap.push { cls := .type "list", data := .seq its.toArray }, toks := t' } :=
  I.laid (fun _ _ q => Heap.get?_push_of_some _ q) (Nat.le_refl _) ⟨hz, its, 0, hv, Heap.get?_push_size _ rfl⟩
theorem Inv.fresh (I : Inv X pins σ H s) : H s.heap.objs.size = none := I.hok.fresh (Nat.le_refl _)
theorem Inv.lstM (I : Inv X pins σ H s) (hH : H l = some (.lst xs)) : xs.length ≤ sizeLine ∧ ∃ (its : List Value) (n : Nat), Vals xs its ∧ xs.length = its.length ∧ s.heap.get? l = some { cls := .type "list", data := .seq its.toArray n } := by
  obtain ⟨z, its, n, r, e⟩ := I.hok l _ hH
  exact ⟨z, its, n, r, r.length, e⟩

theorem notLongL {n : Nat} (h : n ≤ sizeLine) : Builtin.List.listTooLong n = false := by
  unfold Builtin.List.listTooLong
  exact decide_eq_false (by omega)
end

section
variable {X : Cx}

def rAppend : V → List V → Hp → VK → Prop := fun x vs H Q => ∃ l xs y, x = .ref l ∧ vs = [y] ∧ H l = some (.lst xs) ∧ xs.length < sizeLine ∧ Q .non (upd H l (.lst (xs ++ [y])))
theorem mt_append : MtM X "list.append" rAppend := by
  intro pins s σ H x vs v us Q I rx rv h
  obtain ⟨l, xs, y, rfl, rfl, hH, hz, q⟩ := h
  cases rx
  obtain ⟨u, rfl, ru⟩ := rv.one
  obtain ⟨z, its, n, r, hl, e⟩ := I.lstM hH
  refine call_meets F.slot_list_append ⟨_, e, rfl⟩ F.entry_list_append (F.args_list_append_2 _ _) (PySem.list_append l its.toArray n u (by rw [List.size_toArray]; omega)) ⟨e, ?_⟩
  refine ⟨.non, _, I.lset (its' := its ++ [u]) hH e (by simp) (r.append (.cons ru .nil)) ?_, rfl, q⟩
  rw [List.length_append, List.length_singleton]
  omega

def rExtend : V → List V → Hp → VK → Prop := fun x vs H Q => ∃ l b xs zs, x = .ref l ∧ vs = [.ref b] ∧ H l = some (.lst xs) ∧ H b = some (.lst zs) ∧ xs.length + zs.length ≤ sizeLine ∧ Q .non (upd H l (.lst (xs ++ zs)))
theorem mt_extend : MtM X "list.extend" rExtend := by
  intro pins s σ H x vs v us Q I rx rv h
  obtain ⟨l, b, xs, zs, rfl, rfl, hH, hB, hz, q⟩ := h
  cases rx
  obtain ⟨u, rfl, ru⟩ := rv.one
  cases ru
  obtain ⟨z, its, n, r, hl, e⟩ := I.lstM hH
  obtain ⟨z2, its2, n2, r2, hl2, e2⟩ := I.lstM hB
  have hsz : its.toArray.size + its2.toArray.size ≤ sizeLine := by rw [List.size_toArray, List.size_toArray]; omega
  have hlong : ¬ (!its.toArray.isEmpty && Builtin.List.listTooLong (its.toArray.size + its2.toArray.size)) = true := by
    rw [notLongL hsz, Bool.and_false]
    exact Bool.false_ne_true
  refine call_meets F.slot_list_extend ⟨_, e, rfl⟩ F.entry_list_extend (F.args_list_extend_2 _ _)
    (AutoSeq1.list_extend_list_list_0 l its.toArray n b its2.toArray n2 hlong (by rw [List.size_toArray]; omega) (by omega)) ⟨e, e2, ?_⟩
  refine ⟨.non, _, I.lset (its' := its ++ its2) hH e (by simp) (r.append r2) ?_, rfl, q⟩
  rw [List.length_append]
  omega

/-- a list times an int (a negative one is nothing) -/
def rRep : R2 := fun x y H Q => ∃ l k xs, x = .ref l ∧ y = .int k ∧ H l = some (.lst xs) ∧ -(2 ^ 63) ≤ k ∧ k < 2 ^ 63 ∧ xs.length * k.toNat ≤ sizeLine ∧
  ∀ p, H p = none → Q (.ref p) (upd H p (.lst (List.replicate k.toNat xs).flatten))
theorem len_rep {α : Type} (xs : List α) (k : Nat) : (List.replicate k xs).flatten.length = k * xs.length := by
  induction k with
  | zero => simp
  | succ k ih => rw [List.replicate_succ, List.flatten_cons, List.length_append, ih, Nat.succ_mul, Nat.add_comm]
theorem op_rep : OpR X (binaryOp .Mult) rRep := by
  intro pins s σ H x y v u Q I rx ry h
  obtain ⟨l, k, xs, rfl, rfl, hH, h1, h2, hz, q⟩ := h
  cases rx
  obtain ⟨t, rfl⟩ := ry
  obtain ⟨z, its, n, r, hl, e⟩ := I.lstM hH
  have hlen : its.toArray.size * k.toNat ≤ sizeLine := by rw [List.size_toArray, ← hl]; exact hz
  have hcap : ¬ its.toArray.size * k.toNat > (2 ^ 63 - 1) / 8 := by
    have : (sizeLine : Nat) ≤ (2 ^ 63 - 1) / 8 := by decide
    omega
  have hfit : ¬ (!Builtin.List.listFitsIndex k) = true := by
    rw [fitsIndex_both h1 h2]
    exact Bool.false_ne_true
  have hlong : ¬ Builtin.List.listTooLong (its.toArray.size * k.toNat) = true := by
    rw [notLongL hlen]
    exact Bool.false_ne_true
  have hnew : List.foldl (fun x1 x2 => x1 ++ x2) #[] (List.replicate (if its.toArray.isEmpty = true then 0 else k.toNat) its.toArray) = (List.replicate k.toNat its).flatten.toArray := by
    have f0 : ∀ m : Nat, List.foldl (fun x1 x2 => x1 ++ x2) #[] (List.replicate m its.toArray) = (List.replicate m its).flatten.toArray := fun m => by
      have := foldl_rep its m []
      rw [List.nil_append] at this
      exact this
    rw [f0]
    cases its with
    | nil => simp
    | cons a r' => rw [if_neg (by simp)]
  refine wpAny_binaryOp_repeat_ref (T := "list") (U := "int") (by decide) ⟨_, e, rfl⟩ (fun s' => typeIs_int s' k t) noFill_list_mul F.fills_int_mul F.slot_int_rmul repeat_list F.slot_int_index.lookup
    (call_meets F.slot_int_rmul (typeIs_int s k t) F.entry_int_rmul (F.args_int_rmul_2 _ _) (int___rmul___int_list k t l its.toArray n)
      ⟨e, rfl, ⟨_, e, rfl⟩, call_meets F.slot_list_mul ⟨_, e, rfl⟩ F.entry_list_mul (F.args_list_mul_2 _ _) (AutoListH.list___mul___list_int_3 l its.toArray n k t hfit hcap hlong) ⟨e, ?_⟩⟩)
  rw [hnew]
  exact ⟨.ref _, _, I.lnew (t' := s.toks) (r.rep k.toNat) (by rw [len_rep, Nat.mul_comm]; exact hz), rfl, q _ I.fresh⟩

end

section
variable {prog : Program} {w : World} {A : Around} {E : Value → Shared → Prop} {s : Shared}
end

section
variable {X : Cx}
end
end L2

namespace L2
open PySem PySem.Spec PyProof.Rows

section
variable {prog : Program} {w : World} {A : Around} {E : Value → Shared → Prop} {s : Shared} {l : Addr} {its : List Value} {ns : List Int} {Q : Value → Shared → Prop}
end

section
variable {X : Cx}
end

section
variable {X : Cx}
end

section
variable {X : Cx}
end

section
variable {X : Cx}
end

section
variable {X : Cx} {pins : List (Addr × Obj)} {σ : St} {H : Hp} {s : Shared}
end
section
variable {X : Cx}
end
end L2

namespace L2
open PySem PySem.Spec PyProof.Rows
abbrev CellAt (h : Heap) (c : Addr) (v : Option Value) : Prop := h.IsCell c v
def relS (scope sc : Scope) : Scope :=
  { scope with names := scope.names.map fun (n, k) => if (k == .free && sc.kind == .function && sc.names.lookup n == some .cell) then (n, .cell) else (n, k) }

def cloFrom (cells : List (Str × Addr)) : List (Str × NameKind) → List (Str × Addr) → List (Str × Addr)
  | [], acc => acc
  | (n, k) :: r, acc => if k == .free then cloFrom cells r ((n, (cells.lookup n).getD 0) :: acc) else cloFrom cells r acc

theorem closure_loop (env : Env) (f : Str × NameKind → List (Str × Addr) → Sem (ForInStep (List (Str × Addr))))
    (hf : ∀ n k c, f (n, k) c = if k == .free then (do let a ← cellOf env n; pure (.yield ((n, a) :: c))) else pure (.yield c)) :
    ∀ (names : List (Str × NameKind)) (acc : List (Str × Addr)), (∀ y ∈ names, y.2 = .free → ∃ c, env.cells.lookup y.1 = some c) → forIn names acc f = pure (cloFrom env.cells names acc)
  | [], acc, _ => by rw [List.forIn_nil]; rfl
  | (n, k) :: r, acc, h => by
    rw [List.forIn_cons, hf]
    have ih := fun acc => closure_loop env f hf r acc fun y hy => h y (List.mem_cons_of_mem _ hy)
    unfold cloFrom
    by_cases hk : (k == NameKind.free) = true
    · rw [if_pos hk, if_pos hk]
      obtain ⟨c, hc⟩ := h (n, k) List.mem_cons_self (by simpa using hk)
      have e : cellOf env n = pure c := by unfold cellOf; rw [hc]
      rw [e]
      have e2 : (env.cells.lookup n).getD 0 = c := by rw [hc]; rfl
      rw [e2]
      exact ih _
    · rw [if_neg hk, if_neg hk]
      exact ih _
theorem closure_ok {scope : Scope} {env : Env} (h : ∀ y ∈ scope.names, y.2 = .free → ∃ c, env.cells.lookup y.1 = some c) : closureFor scope env = pure (cloFrom env.cells scope.names []) := by
  simp only [closureFor]
  rw [closure_loop env _ (fun n k c => rfl) scope.names [] h]
  rfl

theorem mem_lookup {α : Type} : ∀ {l : List (Str × α)} {n : Str} {c : α}, (n, c) ∈ l → ∃ c', l.lookup n = some c'
  | (k, v) :: r, n, c, h => by
    rw [List.lookup_cons]
    cases hb : n == k with
    | true => exact ⟨_, rfl⟩
    | false =>
      rcases List.mem_cons.mp h with e | h
      · cases e; simp at hb
      · exact mem_lookup h

theorem cloFrom_mem {cells : List (Str × Addr)} : ∀ {names : List (Str × NameKind)} {acc : List (Str × Addr)} {n : Str} {c : Addr}, (n, c) ∈ cloFrom cells names acc → (n, c) ∈ acc ∨ ((n, .free) ∈ names ∧ c = (cells.lookup n).getD 0)
  | [], _, _, _, h => .inl h
  | (m, k) :: r, acc, n, c, h => by
    unfold cloFrom at h
    split at h
    · rename_i hk
      have hk : k = .free := by simpa using hk
      rcases cloFrom_mem h with h | ⟨h1, h2⟩
      · rcases List.mem_cons.mp h with e | h
        · cases e; exact .inr ⟨hk ▸ List.mem_cons_self, rfl⟩
        · exact .inl h
      · exact .inr ⟨List.mem_cons_of_mem _ h1, h2⟩
    · rcases cloFrom_mem h with h | ⟨h1, h2⟩
      · exact .inl h
      · exact .inr ⟨List.mem_cons_of_mem _ h1, h2⟩
theorem cloFrom_acc {cells : List (Str × Addr)} : ∀ {names : List (Str × NameKind)} {acc : List (Str × Addr)} {p : Str × Addr}, p ∈ acc → p ∈ cloFrom cells names acc
  | [], _, _, h => h
  | (m, k) :: r, acc, p, h => by
    unfold cloFrom
    split
    · exact cloFrom_acc (List.mem_cons_of_mem _ h)
    · exact cloFrom_acc h
theorem cloFrom_has {cells : List (Str × Addr)} : ∀ {names : List (Str × NameKind)} {acc : List (Str × Addr)} {n : Str}, (n, .free) ∈ names → (n, (cells.lookup n).getD 0) ∈ cloFrom cells names acc
  | (m, k) :: r, acc, n, h => by
    unfold cloFrom
    rcases List.mem_cons.mp h with e | h
    · cases e
      exact cloFrom_acc List.mem_cons_self
    · split
      · exact cloFrom_has h
      · exact cloFrom_has h

theorem cells_mem : ∀ {names : List (Str × NameKind)} {h : Heap} {acc : List (Str × Addr)} {x : Str} {c : Addr}, (x, c) ∈ cellsFrom h.objs.size names acc →
    (x, c) ∈ acc ∨ ((x, .cell) ∈ names ∧ h.objs.size ≤ c ∧ CellAt (pushCells h names) c none)
  | [], _, _, _, _, h => .inl h
  | (n, k) :: r, h, acc, x, c, hm => by
    unfold cellsFrom at hm
    unfold pushCells
    split at hm
    · rename_i hk
      rw [if_pos hk]
      have hk : k = .cell := by simpa using hk
      rw [← Heap.size_push h { cls := .type "cell", data := .cell none }] at hm
      rcases cells_mem hm with hm | ⟨h1, h2, h3⟩
      · rcases List.mem_cons.mp hm with e | hm
        · cases e
          exact .inr ⟨hk ▸ List.mem_cons_self, Nat.le_refl _, _, pushCells_keeps r _ _ _ (Heap.get?_push_size _ rfl), rfl⟩
        · exact .inl hm
      · rw [Heap.size_push] at h2
        exact .inr ⟨List.mem_cons_of_mem _ h1, Nat.le_of_succ_le h2, h3⟩
    · rename_i hk
      rw [if_neg hk]
      rcases cells_mem hm with hm | ⟨h1, h2, h3⟩
      · exact .inl hm
      · exact .inr ⟨List.mem_cons_of_mem _ h1, h2, h3⟩
theorem cells_acc : ∀ {names : List (Str × NameKind)} {n : Nat} {acc : List (Str × Addr)} {p : Str × Addr}, p ∈ acc → p ∈ cellsFrom n names acc
  | [], _, _, _, h => h
  | (m, k) :: r, n, acc, p, h => by
    unfold cellsFrom
    split
    · exact cells_acc (List.mem_cons_of_mem _ h)
    · exact cells_acc h
theorem cells_has : ∀ {names : List (Str × NameKind)} {n : Nat} {acc : List (Str × Addr)} {x : Str}, (x, .cell) ∈ names → ∃ c, (x, c) ∈ cellsFrom n names acc
  | (m, k) :: r, n, acc, x, h => by
    unfold cellsFrom
    rcases List.mem_cons.mp h with e | h
    · cases e
      exact ⟨n, cells_acc List.mem_cons_self⟩
    · split
      · exact cells_has h
      · exact cells_has h
theorem cells_inj : ∀ {names : List (Str × NameKind)} {h : Heap} {acc : List (Str × Addr)} {x y : Str} {c : Addr}, (∀ p ∈ acc, p.2 < h.objs.size) → (∀ x y c, (x, c) ∈ acc → (y, c) ∈ acc → x = y) →
    (x, c) ∈ cellsFrom h.objs.size names acc → (y, c) ∈ cellsFrom h.objs.size names acc → x = y
  | [], _, _, _, _, _, _, hi, h1, h2 => hi _ _ _ h1 h2
  | (n, k) :: r, h, acc, x, y, c, hl, hi, h1, h2 => by
    unfold cellsFrom at h1 h2
    split at h1
    · rename_i hk
      rw [if_pos hk] at h2
      rw [← Heap.size_push h { cls := .type "cell", data := .cell none }] at h1 h2
      refine cells_inj (h := h.push _) (fun p hp => ?_) (fun x y c a b => ?_) h1 h2
      · rw [Heap.size_push]
        rcases List.mem_cons.mp hp with rfl | hp
        · exact Nat.lt_succ_self _
        · exact Nat.lt_succ_of_lt (hl p hp)
      · rcases List.mem_cons.mp a with e | a <;> rcases List.mem_cons.mp b with e' | b
        · cases e; cases e'; rfl
        · cases e; exact absurd (hl _ b) (Nat.lt_irrefl _)
        · cases e'; exact absurd (hl _ a) (Nat.lt_irrefl _)
        · exact hi _ _ _ a b
    · rename_i hk
      rw [if_neg hk] at h2
      exact cells_inj hl hi h1 h2

theorem newEnv_comp {M : Model} {A : Around} {E : Value → Shared → Prop} {s : Shared} {scope : Scope} {globals : Addr} {closure : List (Str × Addr)} {qual : Str} {func : Option Addr} {code : Value} {around : Env} {builtins : Addr} {Q : Env → Shared → Prop}
    (h : Q (newEnv scope s.heap.objs.size globals (cellsFrom (s.heap.objs.size + 1) scope.names closure) qual func code (some around) builtins)
      { s with heap := pushCells (s.heap.push { cls := .type "dict", data := .dict #[] }) scope.names }) :
    wpAny M A (newFunctionEnv scope globals closure [] qual func code (some around) builtins) Q E s := by
  simp only [newFunctionEnv, Option.isSome_some, if_true]
  refine wpAny_bind (wpAny_alloc ?_)
  refine wpAny_bind (wpAny_layCells _ (fun n k c => rfl) scope.names closure _ _ ?_)
  rw [show ({ s with heap := s.heap.push { cls := .type "dict", data := .dict #[] } } : Shared).heap.objs.size = s.heap.objs.size + 1 from Heap.size_push ..]
  rw [List.forIn_nil]
  exact wpAny_bind (wpAny_pure (wpAny_pure h))

/-- every name of the written scope, in the scope that runs -/
theorem lookup_relS {sc : Scope} : ∀ {names : List (Str × NameKind)} {x : Str} {k : NameKind},
    (names.map fun (n, k) => if (k == NameKind.free && sc.kind == .function && sc.names.lookup n == some .cell) then (n, NameKind.cell) else (n, k)).lookup x = some k →
    ∃ k', names.lookup x = some k' ∧ (k = k' ∨ (k' = .free ∧ k = .cell))
  | [], _, _, h => by simp at h
  | (n, k₀) :: r, x, k, h => by
    have ih := @lookup_relS sc r x k
    have h' : List.lookup x ((if (k₀ == NameKind.free && sc.kind == .function && sc.names.lookup n == some .cell) = true then (n, NameKind.cell) else (n, k₀)) :: (r.map _)) = some k := h
    cases hx : x == n with
    | true =>
      simp only [List.lookup_cons, hx]
      by_cases hc : (k₀ == NameKind.free && sc.kind == .function && sc.names.lookup n == some .cell) = true
      · rw [if_pos hc] at h'
        simp only [List.lookup_cons, hx] at h'
        cases h'
        simp only [Bool.and_eq_true, beq_iff_eq] at hc
        exact ⟨k₀, rfl, .inr ⟨hc.1.1, rfl⟩⟩
      · rw [if_neg hc] at h'
        simp only [List.lookup_cons, hx] at h'
        cases h'
        exact ⟨_, rfl, .inl rfl⟩
    | false =>
      simp only [List.lookup_cons, hx]
      by_cases hc : (k₀ == NameKind.free && sc.kind == .function && sc.names.lookup n == some .cell) = true
      · rw [if_pos hc] at h'
        simp only [List.lookup_cons, hx] at h'
        exact ih h'
      · rw [if_neg hc] at h'
        simp only [List.lookup_cons, hx] at h'
        exact ih h'
/-- the names of a comprehension's block: its own (with their places in N), or captured -/
structure BlkOk (N : List Str) (sc scope : Scope) (own : List (Str × Nat)) : Prop where
  kind : scope.kind = .function
  uniq : ∀ y ∈ scope.names, scope.names.lookup y.1 = some y.2
  ix : ∀ p ∈ own, N[p.2]? = some p.1
  free : ∀ y ∈ scope.names, y.2 = .free → sc.names.lookup y.1 = some .cell ∨ sc.names.lookup y.1 = some .free
  own : ∀ y ∈ scope.names, y.2 = .local ∨ y.2 = .cell → y.1 ∈ own.map (·.1) ∨ y.1 ∉ N
/-- the slots of the block's own names forgotten -/
def wipe (σ : St) : List Nat → St
  | [] => σ
  | v :: vs => (wipe σ vs).set v none
theorem wipe_length (σ : St) : ∀ vs : List Nat, (wipe σ vs).length = σ.length
  | [] => rfl
  | v :: vs => by unfold wipe; rw [List.length_set, wipe_length σ vs]
theorem wipe_some {σ : St} {i : Nat} {x : V} : ∀ {vs : List Nat}, (wipe σ vs)[i]? = some (some x) → σ[i]? = some (some x) ∧ i ∉ vs
  | [], h => ⟨h, by simp⟩
  | v :: vs, h => by
    unfold wipe at h
    by_cases hi : v = i
    · subst hi
      by_cases hv : v < (wipe σ vs).length
      · rw [List.getElem?_set_self hv] at h; cases h
      · rw [List.getElem?_eq_none (by simpa using hv)] at h; cases h
    · rw [List.getElem?_set_ne hi] at h
      obtain ⟨h1, h2⟩ := wipe_some h
      exact ⟨h1, by simp only [List.mem_cons, not_or]; exact ⟨fun e => hi e.symm, h2⟩⟩

/-- the context of a block that starts at s, its iterator's objects at fp -/
abbrev Cx.blk (X : Cx) (s : Shared) (H : Hp) (scope : Scope) (cenv : Env) (fp : List Addr) : Cx := { X with s_0 := s, H_0 := H, env := cenv, outer := X.stack, ex := fp, fn := fun x => scope.names.lookup x == some .cell, pn := [], xe := fun _ _ => False }
section
variable {X : Cx} {pins : List (Addr × Obj)} {σ : St} {H : Hp} {s : Shared}
theorem block_start {scope : Scope} {own : List (Str × Nat)} {fp : List Addr} (I : Inv X pins σ H s) (ok : BlkOk X.N X.env.scope scope own) (hN : X.N.Nodup) (hfp : ∀ b ∈ fp, FpOk X pins H b ∧ b < s.heap.objs.size) :
    Inv (X.blk s H scope (compEnvC scope (cellsFrom (s.heap.objs.size + 1) scope.names (cloFrom X.env.cells scope.names [])) s.heap.objs.size X.env) fp) [] (wipe σ (own.map (·.2))) H { s with heap := pushCells (s.heap.push { cls := .type "dict", data := .dict #[] }) scope.names } := by
  have hfree : ∀ y ∈ scope.names, y.2 = .free → ∃ c, X.env.cells.lookup y.1 = some c := fun y hy e => by
    rcases ok.free y hy e with k | k
    · exact I.ok.has _ (.inl k)
    · exact I.ok.has _ (.inr k)
  generalize hcenv : compEnvC scope (cellsFrom (s.heap.objs.size + 1) scope.names (cloFrom X.env.cells scope.names [])) s.heap.objs.size X.env = cenv
  have kp : ∀ b o, s.heap.get? b = some o → (pushCells (s.heap.push { cls := .type "dict", data := .dict #[] }) scope.names).get? b = some o := fun b o e => pushCells_keeps _ _ _ _ (Heap.get?_push_of_some _ e)
  have hL : cenv.locals = s.heap.objs.size := by rw [← hcenv]; rfl
  have hcl : cenv.cells = cellsFrom (s.heap.objs.size + 1) scope.names (cloFrom X.env.cells scope.names []) := by rw [← hcenv]; rfl
  have hsc : cenv.scope = relS scope X.env.scope := by rw [← hcenv]; rfl
  rw [← Heap.size_push s.heap { cls := .type "dict", data := .dict #[] }] at hcl
  have cm : ∀ {y c}, (y, c) ∈ cloFrom X.env.cells scope.names [] → X.env.cells.lookup y = some c ∧ c < s.heap.objs.size := fun {y c} hm => by
    rcases cloFrom_mem hm with hm | ⟨h1, rfl⟩
    · cases hm
    · obtain ⟨c, hc⟩ := hfree _ h1 rfl
      rw [hc]
      obtain ⟨w, z⟩ := I.cell _ _ hc
      exact ⟨rfl, z.lt⟩
  have mem : ∀ {y c}, cenv.cells.lookup y = some c → (X.env.cells.lookup y = some c ∧ c < s.heap.objs.size) ∨ (s.heap.objs.size + 1 ≤ c ∧ CellAt (pushCells (s.heap.push { cls := .type "dict", data := .dict #[] }) scope.names) c none) := fun {y c} e => by
    rw [hcl] at e
    rcases cells_mem (PySem.mem_of_lookup e) with hm | ⟨_, h2, h3⟩
    · exact .inl (cm hm)
    · rw [Heap.size_push] at h2; exact .inr ⟨h2, h3⟩
  have look : ∀ {y}, scope.names.lookup y = some .free → ∃ c, cenv.cells.lookup y = some c ∧ X.env.cells.lookup y = some c := fun {y} hl => by
    have hy : (y, NameKind.free) ∈ scope.names := PySem.mem_of_lookup hl
    obtain ⟨c', e'⟩ := mem_lookup (cells_acc (names := scope.names) (n := (s.heap.push { cls := .type "dict", data := .dict #[] }).objs.size) (cloFrom_has (cells := X.env.cells) (acc := []) hy))
    rw [← hcl] at e'
    refine ⟨c', e', ?_⟩
    rw [hcl] at e'
    rcases cells_mem (PySem.mem_of_lookup e') with hm | ⟨h1, _, _⟩
    · exact (cm hm).1
    · have := ok.uniq _ h1
      rw [hl] at this; cases this
  have okB : (X.blk s H scope cenv fp).Ok := by
    refine ⟨I.ok.mod, by show cenv.scope.kind = _; rw [hsc]; exact ok.kind, by show cenv.globals = _; rw [← hcenv]; exact I.ok.glob, by show cenv.builtins = _; rw [← hcenv]; exact I.ok.blt, by show s.heap.objs.size ≤ cenv.locals; rw [hL]; exact Nat.le_refl _,
      fun y z c e1 e2 => ?_, fun y hy => ?_, fun y c z e => ?_, I.ok.hd, I.ok.frames, .inl rfl, fun b hb => ⟨?_, fun y c e z => ?_⟩, I.bs, Nat.le_trans I.ok.bsz I.sz, fun b o e hb => ?_, fun b hb z => ?_, I.stack, I.stkFree⟩
    · have e1 : cenv.cells.lookup y = some c := e1
      have e2 : cenv.cells.lookup z = some c := e2
      rw [hcl] at e1 e2
      refine cells_inj (fun p hp => ?_) (fun y z c a b => I.ok.inj y z c (cm a).1 (cm b).1) (PySem.mem_of_lookup e1) (PySem.mem_of_lookup e2)
      rw [Heap.size_push]
      exact Nat.lt_succ_of_lt (cm (y := p.1) (c := p.2) hp).2
    · show ∃ c, cenv.cells.lookup y = some c
      have key : ∀ k, cenv.kindOf y = some k → (k = .cell ∨ k = .free) → ∃ c, cenv.cells.lookup y = some c := fun k hk hk' => by
        unfold Env.kindOf at hk
        rw [hsc] at hk
        obtain ⟨k', e, r⟩ := lookup_relS hk
        have : k' = .cell ∨ k' = .free := by
          rcases r with rfl | ⟨rfl, _⟩
          · exact hk'
          · exact .inr rfl
        rcases this with rfl | rfl
        · obtain ⟨c, hm⟩ := cells_has (n := (s.heap.push { cls := .type "dict", data := .dict #[] }).objs.size) (acc := cloFrom X.env.cells scope.names []) (PySem.mem_of_lookup e)
          obtain ⟨c', e'⟩ := mem_lookup hm
          exact ⟨c', by rw [hcl]; exact e'⟩
        · obtain ⟨c, h1, _⟩ := look e
          exact ⟨c, h1⟩
      rcases hy with hy | hy
      · exact key _ hy (.inl rfl)
      · exact key _ hy (.inr rfl)
    · have z : (scope.names.lookup y == some NameKind.cell) = true := z
      have z : scope.names.lookup y = some .cell := by simpa using z
      have e : cenv.cells.lookup y = some c := e
      rw [hcl] at e
      rcases cells_mem (PySem.mem_of_lookup e) with hm | ⟨_, h2, _⟩
      · rcases cloFrom_mem hm with hm | ⟨h1, _⟩
        · cases hm
        · have q := ok.uniq _ h1
          rw [z] at q; cases q
      · rw [Heap.size_push] at h2
        exact Nat.le_of_succ_le h2
    · show b ≠ cenv.locals
      rw [hL]; exact Nat.ne_of_lt (hfp b hb).2
    · have e : cenv.cells.lookup y = some c := e
      rcases mem e with ⟨h1, _⟩ | ⟨h1, _⟩
      · exact (hfp b hb).1.2.2.2.2.1 y c h1 z
      · have h2 : s.heap.objs.size + 1 ≤ b := by rw [← z]; exact h1
        exact absurd (Nat.lt_of_lt_of_le (hfp b hb).2 (Nat.le_of_succ_le h2)) (Nat.lt_irrefl _)
    · rcases (hfp b hb).1.2.2.2.1 with z | z
      · exact I.ok.noex b o e z
      · exact absurd (Nat.lt_of_lt_of_le (Heap.lt_size e) (Nat.le_trans I.ok.bsz z)) (Nat.lt_irrefl _)
    · rcases List.mem_cons.mp (I.stkSub b z) with z | z
      · exact (hfp b hb).1.2.1 z
      · exact (hfp b hb).1.2.2.1 z
  refine ⟨okB, rfl, I.bare, Un.kept kp, ⟨fun _ => none, ?_, fun i y av e1 e2 e3 => ?_⟩, fun y c e => ?_, ?_, fun y c e => ?_, fun p hp => ?_, I.hok.kept kp, by rw [wipe_length]; exact I.len⟩
  · show Heap.Ns _ cenv.locals _
    rw [hL]
    exact Heap.Ns.keeps (Heap.Ns.new ..) fun b o e => pushCells_keeps _ _ _ _ e
  · obtain ⟨e2, hne⟩ := wipe_some e2
    have hfr : scope.names.lookup y = some .free ∧ (cenv.kindOf y = some .cell ∨ cenv.kindOf y = some .free) := by
      have key : ∀ k, cenv.scope.names.lookup y = some k → k = .local ∨ k = .cell ∨ k = .free → scope.names.lookup y = some .free ∧ (cenv.kindOf y = some .cell ∨ cenv.kindOf y = some .free) := fun k hk hk' => by
        have hk0 := hk
        rw [hsc] at hk
        obtain ⟨k', e, r⟩ := lookup_relS hk
        have no : ¬ (k' = .local ∨ k' = .cell) := fun hh => by
          rcases ok.own _ (PySem.mem_of_lookup e) hh with e' | e'
          · obtain ⟨p, hp, hpy⟩ := List.mem_map.mp e'
            have e3 := ok.ix p hp
            have : p.1 = y := hpy
            rw [this] at e3
            exact hne (List.mem_map.mpr ⟨p, hp, nodup_ix hN e3 e1⟩)
          · exact e' (List.mem_of_getElem? e1)
        rcases r with rfl | ⟨rfl, rfl⟩
        · rcases hk' with rfl | rfl | rfl
          · exact absurd (.inl rfl) no
          · exact absurd (.inr rfl) no
          · exact ⟨e, .inr hk0⟩
        · exact ⟨e, .inl hk0⟩
      have e3 : Vis cenv.scope y := e3
      rcases e3 with e3 | e3 | e3
      · exact key _ e3 (.inl rfl)
      · exact key _ e3 (.inr (.inl rfl))
      · exact key _ e3 (.inr (.inr rfl))
    obtain ⟨m, hn, hl⟩ := I.loc
    have hvis : Vis X.env.scope y := (ok.free _ (PySem.mem_of_lookup hfr.1) rfl).elim (fun k => .inr (.inl k)) (fun k => .inr (.inr k))
    obtain ⟨w, r, q⟩ := hl i y av e1 e2 hvis
    refine ⟨w, r, .inr ⟨hfr.2, ?_⟩⟩
    obtain ⟨c, h1, h2⟩ := look hfr.1
    rcases q with ⟨k, _⟩ | ⟨_, c', e', z⟩
    · have k : X.env.scope.names.lookup y = some .local := k
      rcases ok.free _ (PySem.mem_of_lookup hfr.1) rfl with k' | k' <;> rw [show X.env.scope.names.lookup y = _ from k'] at k <;> cases k
    · rw [h2] at e'; cases e'
      exact ⟨c, h1, z.keeps kp⟩
  · have e : cenv.cells.lookup y = some c := e
    rcases mem e with ⟨h1, _⟩ | ⟨_, z⟩
    · obtain ⟨w, z⟩ := I.cell y c h1
      exact ⟨w, z.keeps kp⟩
    · exact ⟨_, z⟩
  · show H cenv.locals = none
    rw [hL]; exact I.hok.fresh (Nat.le_refl _)
  · have e : cenv.cells.lookup y = some c := e
    rcases mem e with ⟨h1, _⟩ | ⟨h1, _⟩
    · exact I.freeC y c h1
    · exact I.hok.fresh (Nat.le_of_succ_le h1)
  · exact absurd (show p ∈ ([] : List (Addr × Obj)) ++ [] from hp) (by simp)

/-- an item appended to a tracked list -/
theorem app_ok {E : Value → Shared → Prop} {D : Addr} {xs : List V} {y : V} {v : Value} {Q : Value → Shared → Prop} (I : Inv X pins σ H s) (hD : H D = some (.lst xs)) (hz : xs.length < sizeLine) (r : RelV y v)
    (h : ∀ s', Inv X pins σ (upd H D (.lst (xs ++ [y]))) s' → Q .none s') : wpAny (model X.prog X.w) X.A (call (.builtin "list.append") [.ref D, v]) Q E s := by
  obtain ⟨hz', its, n, ri, e⟩ := I.hok D _ hD
  have hl := ri.length
  refine append_at (hsz := by rw [List.size_toArray]; omega) e fun h' sb ho' => ?_
  refine h { s with heap := h' } (I.write (t' := s.toks) (by rw [hD]; trivial) (.inl rfl) (fun b u hb q => (sb.2 b hb).trans q) ⟨_, ho'⟩ ⟨by rw [List.length_append]; exact hz, its ++ [v], n + 1, ri.append (.cons r .nil), ?_⟩)
  rw [ho']
  simp

/-- a clause's tests -/
def PTs (X : Cx) (ifs : List Expr) (t : TT) : Prop :=
  ∀ (pins : List (Addr × Obj)) (s : Shared) (σ : St) (H : Hp) (Q : Bool → Hp → Prop), Inv X pins σ H s → t σ H Q →
    wpAny (model X.prog X.w) X.A (forIn ifs true fun c r => if r = true then do let ok ← isTrue c X.env (eval c X.env); pure (ForInStep.yield ok) else pure (ForInStep.yield r)) (TP X pins σ Q) X.xe s
def tYes : TT := fun _ H Q => Q true H
theorem pts_nil : PTs X [] tYes := fun _ _ _ H _ I h => wpAny_tests_nil ⟨H, I, h⟩
end

theorem thnF {α : Type} {t : Sem α} {Q Q' : α → Shared → Prop} {M : Model} {A : Around} {E : Value → Shared → Prop} {s : Shared} (h : wpAny M A t Q (fun _ _ => False) s) (hQ : ∀ a s, Q a s → Q' a s) : wpAny M A t Q' E s := wpAny_mono h hQ fun _ _ z => False.elim z

/-- the loop of a list comprehension's block, the target of any form (codeAny_compLoop_tests asks a target that no tuple goes to; statement and proof follow it, PyProof/CompMap.lean:41-61, with the step letOwnedTupleGo kept) -/
theorem compLoop_any {prog : Program} {w : World} {A : Around} {R : Result → Shared → Prop} {s : Shared} {elt target iter : Expr} {ifs : List Expr} {scope : Scope} {pos : Pos} {it acc : Value} {env : Env} (I : Nat → Shared → Prop)
    (turn : ∀ n s, I n s → wpAny (model prog w) A (pyNext it) (fun r s₁ => match r with
      | none => R (.ok .next) s₁
      | some v => wpAny (model prog w) A (letOwnedTupleGo target it v) (fun _ s₁' => wpAny (model prog w) A (assign target env v) (fun _ s₂ =>
          wpAny (model prog w) A (forIn ifs true fun c r => if r = true then do let ok ← isTrue c env (eval c env); pure (ForInStep.yield ok) else pure (ForInStep.yield r)) (fun ok s₃ =>
            if ok = true then wpAny (model prog w) A (eval elt env) (fun x s₄ =>
              wpAny (model prog w) A (call (.builtin "list.append") [acc, x]) (fun _ s₅ => ∃ m, m < n ∧ I m s₅) (notedBy (model prog w) A env fun e s' => R (.error e) s') s₄) (notedBy (model prog w) A env fun e s' => R (.error e) s') s₃
            else ∃ m, m < n ∧ I m s₃) (notedBy (model prog w) A env fun e s' => R (.error e) s') s₂) (notedBy (model prog w) A env fun e s' => R (.error e) s') s₁') (notedBy (model prog w) A env fun e s' => R (.error e) s') s₁) (notedBy (model prog w) A env fun e s' => R (.error e) s') s)
    (n : Nat) (h : I n s) :
    codeAny (model prog w) A (.compLoop (.ListComp elt [⟨target, iter, ifs, 0⟩] scope pos) 0 it acc env) R s := by
  refine codeAny_loop rfl I (fun n s hI => ?_) n h
  show wpAny _ A ((compTurn (.ListComp elt [⟨target, iter, ifs, 0⟩] scope pos) 0 it acc env).onRaise (fun x => do noteFrame x env; theTreesLotGoes x)) _ _ s
  refine wpAny_noted ?_
  rw [compTurn_list]
  refine wpAny_bind (wpAny_standAt (wpAny_bind (wpAny_mono (turn n s hI) (fun r s₁ h₁ => ?_) fun _ _ h' => h')))
  cases r with
  | none => exact wpAny_pure h₁
  | some v =>
    refine wpAny_bind (wpAny_mono h₁ (fun _ s₁' h₁' => ?_) fun _ _ h' => h')
    refine wpAny_bind (wpAny_mono h₁' (fun _ s₂ h₂ => wpAny_bind (wpAny_mono h₂ (fun ok s₃ h₃ => ?_) fun _ _ h' => h')) fun _ _ h' => h')
    cases ok with
    | false => exact wpAny_pure ⟨rfl, h₃⟩
    | true =>
      exact wpAny_bind (wpAny_bind (wpAny_mono h₃ (fun x s₄ h₄ => wpAny_bind (wpAny_mono h₄ (fun _ s₅ h₅ => wpAny_pure (wpAny_pure ⟨rfl, h₅⟩)) fun _ _ h' => h')) fun _ _ h' => h'))

section
variable {X : Cx}
/-- [elt for target in iter if ..]: D the new list; W by the turn and a measure, Nx what a turn is to reach -/
def tLc (wi : TI) (g : TG) (tt : TT) (te : TE) (vs : List Nat) : TE := fun σ H Q => wi σ H fun J H1 => ∀ D, H1 D = none → ∃ W : Nat → Nat → Hp → Prop, (∃ m, W 0 m (upd H1 D (.lst []))) ∧ ∀ i m H, W i m H →
  (J.stop i H ∧ Q (.ref D) H) ∨ (J.go i H ∧ ∃ Nx : Hp → Prop, (∀ H', Nx H' → ∃ m', m' < m ∧ W (i + 1) m' H') ∧ ∀ x H', J.yld i H x H' → g x (wipe σ vs) H' fun σ2 H2 => wipe σ2 vs = wipe σ vs ∧ tt σ2 H2 fun b H3 =>
    if b = true then te σ2 H3 fun y H4 => ∃ acc, H4 D = some (.lst acc) ∧ acc.length < sizeLine ∧ Nx (upd H4 D (.lst (acc ++ [y]))) else Nx H3)
theorem lc_core {pins : List (Addr × Obj)} {s : Shared} {σ : St} {H : Hp} {Q : VK} {elt tg iter : Expr} {ifs : List Expr} {scope : Scope} {own : List (Str × Nat)} {pos pos' : Pos} {wi : TI} {g : TG} {tt : TT} {te : TE} {use : Option (Value → Sem Unit)} {Qf : Value → Shared → Prop}
    (hc : X.calm = true) (hN : X.N.Nodup) (I : Inv X pins σ H s) (hi : PI X tg iter wi) (ok : BlkOk X.N X.env.scope scope own)
    (hg : ∀ (s : Shared) (H : Hp) (C : Addr) (cl : List (Str × Addr)) (fp : List Addr), PG (X.blk s H scope (compEnvC scope cl C X.env) fp) tg g) (ht : ∀ (s : Shared) (H : Hp) (C : Addr) (cl : List (Str × Addr)) (fp : List Addr), PTs (X.blk s H scope (compEnvC scope cl C X.env) fp) ifs tt)
    (he : ∀ (s : Shared) (H : Hp) (C : Addr) (cl : List (Str × Addr)) (fp : List Addr), PE (X.blk s H scope (compEnvC scope cl C X.env) fp) elt te) (hs : ∀ x, foldedSetIterable iter X.env x = pure x)
    (h : tLc wi g tt te (own.map (·.2)) σ H Q)
    (hRR : ∀ D C s' m H', Inv X pins σ H' s' → Q (.ref D) H' → s'.heap.Ns C m → FpOk X pins H' C → compPost (model X.prog X.w) X.A X.xe use Qf (.ref D) C (.ok .next) s') :
    wpAny (model X.prog X.w) X.A (comprehension (.ListComp elt [⟨tg, iter, ifs, 0⟩] scope pos) scope X.env pos' (newList []) false (eval iter X.env) use) Qf X.xe s := by
  have hfree : ∀ y ∈ scope.names, y.2 = .free → ∃ c, X.env.cells.lookup y.1 = some c := fun y hy e => by
    rcases ok.free y hy e with k | k
    · exact I.ok.has _ (.inl k)
    · exact I.ok.has _ (.inr k)
  refine wpAny_comprehension_free (use := use) rfl hs (closure_ok hfree) ok.kind (fun y hy e => by rw [ok.uniq y hy, e])
    (thn (hi pins s σ H _ I h) fun xv s1 hx => thn hx fun itv s2 h2 => ?_)
  obtain ⟨it, fp, tn, J, H2, e, I2, T, st2, f2, q⟩ := h2
  subst e
  refine wpAny_newObj_type (newEnv_comp ?_) (by show 0 ≤ sizeLine; decide)
  generalize hD : s2.heap.objs.size = D
  have hDn : H2 D = none := I2.hok.fresh (Nat.le_of_eq hD)
  obtain ⟨W, ⟨m0, w0⟩, turn⟩ := q D hDn
  -- the new list
  generalize hs3 : ({ s2 with heap := s2.heap.push { cls := .type "list", data := .seq ([] : List Value).toArray } } : Shared) = s3
  have I3 : Inv X pins σ (upd H2 D (.lst [])) s3 := by
    rw [← hs3]
    refine I2.laid (t' := s2.toks) (fun b o e => Heap.get?_push_of_some _ e) (Nat.le_of_eq hD) ⟨Nat.zero_le _, [], 0, .nil, ?_⟩
    rw [← hD]
    exact Heap.get?_push_size _ rfl
  have h3 : s3.heap = s2.heap.push { cls := .type "list", data := .seq ([] : List Value).toArray } := by rw [← hs3]
  have sz : ∀ b ∈ fp, b < s2.heap.objs.size := fun b hb => by
    obtain ⟨o, e, _⟩ := T.obj _ _ st2 b hb
    exact Heap.lt_size e
  have f3 : ∀ b ∈ fp, FpOk X pins (upd H2 D (.lst [])) b ∧ b < s3.heap.objs.size := fun b hb => by
    have hlt := sz b hb
    refine ⟨⟨?_, (f2 b hb).2⟩, by rw [h3, Heap.size_push]; exact Nat.lt_succ_of_lt hlt⟩
    rw [upd_ne (by rw [← hD]; exact Nat.ne_of_lt hlt)]
    exact (f2 b hb).1
  have st3 : tn 0 s3.heap := T.keep _ _ _ st2 fun b _ o e => by rw [h3]; exact Heap.get?_push_of_some _ e
  have I4 := block_start I3 ok hN f3
  have pg := hg s3 (upd H2 D (.lst [])) s3.heap.objs.size (cellsFrom (s3.heap.objs.size + 1) scope.names (cloFrom X.env.cells scope.names [])) fp
  have pt := ht s3 (upd H2 D (.lst [])) s3.heap.objs.size (cellsFrom (s3.heap.objs.size + 1) scope.names (cloFrom X.env.cells scope.names [])) fp
  have pe := he s3 (upd H2 D (.lst [])) s3.heap.objs.size (cellsFrom (s3.heap.objs.size + 1) scope.names (cloFrom X.env.cells scope.names [])) fp
  show codeAny _ _ (.compStart (.ListComp elt [⟨tg, iter, ifs, 0⟩] scope pos) 0 (.ref it) (.ref D) (compEnvC scope (cellsFrom (s3.heap.objs.size + 1) scope.names (cloFrom X.env.cells scope.names [])) s3.heap.objs.size X.env)) (compPost (model X.prog X.w) X.A X.xe use Qf (.ref D) s3.heap.objs.size) { s3 with heap := pushCells (s3.heap.push { cls := .type "dict", data := .dict #[] }) scope.names }
  have nfp : ∀ b ∈ fp, (upd H2 D (.lst [])) b = none := fun b hb => (f3 b hb).1.1
  generalize hce : compEnvC scope (cellsFrom (s3.heap.objs.size + 1) scope.names (cloFrom X.env.cells scope.names [])) s3.heap.objs.size X.env = ce at I4 pg pt pe ⊢
  have cL : ce.locals = s3.heap.objs.size := by subst hce; rfl
  generalize hH3 : upd H2 D (.lst []) = H3 at I3 I4 pg pt pe w0 nfp f3
  generalize hs4 : ({ s3 with heap := pushCells (s3.heap.push { cls := .type "dict", data := .dict #[] }) scope.names } : Shared) = s4 at I4 ⊢
  have st4 : tn 0 s4.heap := T.keep _ _ _ st3 fun b _ o e => by rw [← hs4]; exact pushCells_keeps _ _ _ _ (Heap.get?_push_of_some _ e)
  have stat : ∀ {σ' : St} {H' : Hp} {s' : Shared}, Inv (X.blk s3 H3 scope ce fp) [] σ' H' s' → (∀ b ∈ fp, H' b = none) → ∀ b ∈ fp, FpOk (X.blk s3 H3 scope ce fp) [] H' b := fun {σ' H' s'} I' hn b hb =>
    ⟨hn b hb, (I'.ok.exf b hb).1, I'.ok.exfs b hb, .inl hb, fun x c e => (I'.ok.exf b hb).2 x c e, fun p hp => absurd (show p ∈ ([] : List (Addr × Obj)) ++ [] from hp) (by simp)⟩
  have loop : codeAny (model X.prog X.w) X.A (.compLoop (.ListComp elt [⟨tg, iter, ifs, 0⟩] scope pos) 0 (.ref it) (.ref D) ce) (compPost (model X.prog X.w) X.A X.xe use Qf (.ref D) s3.heap.objs.size) s4 := by
    refine compLoop_any (fun n s' => ∃ i H', Inv (X.blk s3 H3 scope ce fp) [] (wipe σ (own.map (·.2))) H' s' ∧ tn i s'.heap ∧ (∀ b ∈ fp, H' b = none) ∧ W i n H') ?_ m0 ⟨0, H3, I4, st4, nfp, w0⟩
    rintro n s5 ⟨i, H5, I5, st5, n5, w5⟩
    rcases turn i n H5 w5 with ⟨stop, qq⟩ | ⟨go, Nx, hNx, step⟩
    · have td := T.done (X.blk s3 H3 scope ce fp) rfl rfl rfl hc i [] s5 _ H5 (fun _ _ => False) I5 (stat I5 n5) st5 stop
      refine thnF td fun r s6 ⟨hr, I6⟩ => ?_
      subst hr
      -- back in the def's context
      have I7 : Inv X pins σ H5 s6 := I3.call' (ch := fp) I6.os I6.base I6.hok I6.bare fun b hb => ⟨(f3 b hb).1.2.2.2.1, (f3 b hb).1.2.1, (f3 b hb).1.2.2.2.2.1, (f3 b hb).1.2.2.2.2.2⟩
      have nC : H5 s3.heap.objs.size = none := by
        have z : H5 ce.locals = none := I6.free
        rw [cL] at z
        exact z
      obtain ⟨m, hn, _⟩ := I6.loc
      have hn : s6.heap.Ns ce.locals m := hn
      rw [cL] at hn
      exact hRR D s3.heap.objs.size s6 m H5 I7 qq hn (I3.fpOk (Nat.le_refl _) nC)
    · have ti := T.item (X.blk s3 H3 scope ce fp) rfl rfl rfl hc i [] s5 _ H5 (fun _ _ => False) I5 (stat I5 n5) st5 go
      refine thnF ti fun r s6 ⟨u, hr, h6⟩ => ?_
      subst hr
      refine thnF h6 fun _ s7 ⟨x, H7, I7, r7, y7, st7, n7⟩ => ?_
      have I7' := I7.pinned (stat I7 n7) (T.obj _ _ st7)
      refine thnF (pg _ s7 _ H7 x u _ I7' r7 (step x H7 y7)) fun _ s8 ⟨σ8, H8, I8, hw8, q8⟩ => ?_
      refine thnF (pt _ s8 σ8 H8 _ I8 q8) fun b s9 ⟨H9, I9, q9⟩ => ?_
      -- the turn's end
      have fin : ∀ {s' : Shared} {H' : Hp}, Inv (X.blk s3 H3 scope ce fp) ([] ++ pinsAt fp s7.heap) σ8 H' s' → Nx H' → ∃ m, m < n ∧ ∃ i H', Inv (X.blk s3 H3 scope ce fp) [] (wipe σ (own.map (·.2))) H' s' ∧ tn i s'.heap ∧ (∀ b ∈ fp, H' b = none) ∧ W i m H' := fun {s' H'} I' nx => by
        obtain ⟨m', hm, w'⟩ := hNx H' nx
        have pin' : ∀ b ∈ fp, ∀ o, s7.heap.get? b = some o → s'.heap.get? b = some o ∧ H' b = none := fun b hb o e =>
          let z := I'.pin (b, o) (List.mem_append_right _ (List.mem_append_right _ (mem_pinsAt hb e)))
          ⟨z.1, z.2.1⟩
        have hl : (wipe σ (own.map (·.2))).length = σ8.length := by rw [← hw8, wipe_length]
        refine ⟨m', hm, i + 1, H', (I'.unpinned (pins := [])).weak hl (fun j v e => ?_), T.keep _ _ _ st7 fun b hb o e => (pin' b hb o e).1, fun b hb => ?_, w'⟩
        · rw [← hw8] at e
          exact (wipe_some e).1
        · obtain ⟨o, e, _⟩ := T.obj _ _ st7 b hb
          exact (pin' b hb o e).2
      cases b with
      | false =>
        simp only [Bool.false_eq_true, if_false] at q9 ⊢
        exact fin I9 q9
      | true =>
        simp only [if_true] at q9 ⊢
        refine thnF (pe _ s9 σ8 H9 _ I9 q9) fun z s10 ⟨yv, H10, I10, r10, acc, hD10, hz10, nx⟩ => ?_
        exact app_ok (X := X.blk s3 H3 scope ce fp) I10 hD10 hz10 r10 fun s11 I11 => fin I11 nx
  exact codeAny_compStart_list loop (T.self X.A 0 _ _ _ st4 loop)
/-- as a value -/
theorem pe_lc {elt tg iter : Expr} {ifs : List Expr} {scope : Scope} {own : List (Str × Nat)} {pos : Pos} {wi : TI} {g : TG} {tt : TT} {te : TE} (hc : X.calm = true) (hN : X.N.Nodup) (hi : PI X tg iter wi) (ok : BlkOk X.N X.env.scope scope own)
    (hg : ∀ (s : Shared) (H : Hp) (C : Addr) (cl : List (Str × Addr)) (fp : List Addr), PG (X.blk s H scope (compEnvC scope cl C X.env) fp) tg g) (ht : ∀ (s : Shared) (H : Hp) (C : Addr) (cl : List (Str × Addr)) (fp : List Addr), PTs (X.blk s H scope (compEnvC scope cl C X.env) fp) ifs tt)
    (he : ∀ (s : Shared) (H : Hp) (C : Addr) (cl : List (Str × Addr)) (fp : List Addr), PE (X.blk s H scope (compEnvC scope cl C X.env) fp) elt te) (hs : ∀ x, foldedSetIterable iter X.env x = pure x := by intro _; rfl) :
    PE X (.ListComp elt [⟨tg, iter, ifs, 0⟩] scope pos) (tLc wi g tt te (own.map (·.2))) := by
  intro pins s σ H Q I h
  rw [eval_ListComp]
  refine lc_core hc hN I hi ok hg ht he hs h fun D C s' m H' I' q hn f => ⟨m, hn, fun h'' sb => ?_⟩
  obtain ⟨f0, f1, f2, f3, f4, f5⟩ := f
  exact ⟨.ref D, H', I'.turned (t' := s'.toks) (fun b o hb e => (sb.2 b hb).trans e) f0 f1 f3 f4 f5, rfl, q⟩
/-- name = [..] on one line, the name a local -/
theorem ps_setLc {i : Nat} {y : Str} {py : Pos} {elt tg iter : Expr} {ifs : List Expr} {scope : Scope} {own : List (Str × Nat)} {pos spos : Pos} {wi : TI} {g : TG} {tt : TT} {te : TE} (hc : X.calm = true) (hN : X.N.Nodup) (hy : X.N[i]? = some y) (hyl : X.env.scope.names.lookup y = some .local)
    (hsw : swapsWith (.ListComp elt [⟨tg, iter, ifs, 0⟩] scope pos) (some (.Name y py)) spos.line X.env = pure true) (hi : PI X tg iter wi) (ok : BlkOk X.N X.env.scope scope own)
    (hg : ∀ (s : Shared) (H : Hp) (C : Addr) (cl : List (Str × Addr)) (fp : List Addr), PG (X.blk s H scope (compEnvC scope cl C X.env) fp) tg g) (ht : ∀ (s : Shared) (H : Hp) (C : Addr) (cl : List (Str × Addr)) (fp : List Addr), PTs (X.blk s H scope (compEnvC scope cl C X.env) fp) ifs tt)
    (he : ∀ (s : Shared) (H : Hp) (C : Addr) (cl : List (Str × Addr)) (fp : List Addr), PE (X.blk s H scope (compEnvC scope cl C X.env) fp) elt te) (hs : ∀ x, foldedSetIterable iter X.env x = pure x := by intro _; rfl) :
    PS X (.Assign [.Name y py] (.ListComp elt [⟨tg, iter, ifs, 0⟩] scope pos) spos) (tAsg (tLc wi g tt te (own.map (·.2))) (gName i)) := by
  intro pins s σ H D I h
  rw [exec_Assign_Name_used _ _ _ _ hsw]
  refine wpAny_bind (wpAny_standAt (wpAny_bind ?_))
  show wpAny _ X.A (do let _ ← comprehension (.ListComp elt [⟨tg, iter, ifs, 0⟩] scope pos) scope X.env (firstIterPos [⟨tg, iter, ifs, 0⟩] pos) (newList []) false (eval iter X.env) (some (assign (.Name y py) X.env))) _ _ s
  have h : tLc wi g tt te (own.map (·.2)) σ H (fun x H1 => gName i x σ H1 D.nx) := h
  refine wpAny_bind (thn (lc_core (Qf := fun _ s' => SP X pins D .next s') hc hN I hi ok hg ht he hs h fun L C s' m H' I' q hn f => ?_) fun _ s' hq => wpAny_pure (wpAny_pure hq))
  show wpAny _ _ (assign (.Name y py) X.env (.ref L)) _ _ _
  refine wpAny_assign_Name (store_ok2 (v := V.ref L) I' hN hy (.inl hyl) rfl (fun s2 I2 ⟨a, sb, ha⟩ => ?_) (.inr hyl))
  obtain ⟨f0, f1, f2, f3, f4, f5⟩ := f
  have haC : C ≠ a := by
    rcases ha with z | z
    · rw [z]; exact f1
    · exact fun e => f4 y a z e.symm
  refine ⟨m, hn.sameBut sb haC, fun h3 sb3 => ?_⟩
  exact ⟨_, H', I2.turned (t' := s2.toks) (fun b o hb e => (sb3.2 b hb).trans e) f0 f1 f3 f4 f5, q⟩
end

def blkC (N : List Str) (sc scope : Scope) (own : List (Str × Nat)) : Bool :=
  (match scope.kind with | .function => true | _ => false) && (scope.names.all fun y => decide (scope.names.lookup y.1 = some y.2)) && (own.all fun p => decide (N[p.2]? = some p.1)) &&
    (scope.names.all fun y => match y.2 with
      | .free => (match sc.names.lookup y.1 with | some .cell => true | some .free => true | _ => false)
      | .local => decide (y.1 ∈ own.map (·.1)) || decide (y.1 ∉ N)
      | .cell => decide (y.1 ∈ own.map (·.1)) || decide (y.1 ∉ N)
      | _ => true)
theorem blkOk_by {N : List Str} {sc scope : Scope} {own : List (Str × Nat)} (h : blkC N sc scope own = true) : BlkOk N sc scope own := by
  unfold blkC at h
  simp only [Bool.and_eq_true, List.all_eq_true, decide_eq_true_eq] at h
  obtain ⟨⟨⟨h1, h2⟩, h3⟩, h4⟩ := h
  refine ⟨?_, h2, h3, fun y hy e => ?_, fun y hy e => ?_⟩
  · split at h1
    · assumption
    · cases h1
  · have q := h4 y hy
    simp only [e] at q
    split at q <;> first | exact .inl (by assumption) | exact .inr (by assumption) | cases q
  · have q := h4 y hy
    rcases e with e | e <;> (simp only [e, Bool.or_eq_true, decide_eq_true_eq] at q; exact q)
end L2

namespace L2
open PySem PySem.Spec PyProof.Rows

section
variable {prog : Program} {w : World} {A : Around} {R : Result → Shared → Prop} {s : Shared} {elt t0 i0 t1 i1 : Expr} {ifs0 ifs1 : List Expr} {scope : Scope} {pos : Pos} {it acc : Value} {env : Env}
end

section
variable {X : Cx}
end
end L2

namespace L2
open PySem PySem.Spec PyProof.Rows

section
variable {κ : Type} [DecidableEq κ]
end


section
variable {P : Program} {w : World} {H : Hp} {h : Heap} {a : Addr}
end

section
variable {X : Cx} {pins : List (Addr × Obj)} {σ : St} {H : Hp} {s : Shared} {a : Addr} {y v : V} {u r : Value} {o : Option V} {A : Around} {E : Value → Shared → Prop}

end

section
variable {X : Cx} {pins : List (Addr × Obj)} {σ : St} {H : Hp} {s : Shared} {a : Addr} {kvs : List (Key × V)} {k : Key} {u : Value} {A : Around} {E : Value → Shared → Prop}
end


section
variable {X : Cx} {o i e value : Expr} {pos pos' tpos : Pos} {td ty tv : TE}
end


section
variable {X : Cx} {pos : Pos}
end

section
variable {X : Cx} {pins : List (Addr × Obj)} {σ : St} {H : Hp} {s : Shared} {a : Addr} {y d : V} {u r : Value} {o : Option V} {A : Around} {E : Value → Shared → Prop}
end

section
variable {X : Cx} {o e f : Expr} {apos cpos : Pos} {td ty tx : TE}
end

section
variable {X : Cx} {pins : List (Addr × Obj)} {σ : St} {H : Hp} {s : Shared} {a : Addr} {kvs : List (Key × V)} {A : Around} {E : Value → Shared → Prop}
end


section
variable {X : Cx} {pins : List (Addr × Obj)} {σ : St} {H : Hp} {s : Shared} {a : Addr} {y : V} {u : Value} {A : Around} {E : Value → Shared → Prop}
end
end L2

namespace L2
open PySem PySem.Spec PyProof.Rows

section
variable {prog : Program} {w : World} {A : Around} {E : Value → Shared → Prop}
end

section
variable {X : Cx}
end
end L2

namespace L2
open PySem PySem.Spec PyProof.Rows

theorem boot_reversed5 : bootBuiltins "reversed" = some (.type "reversed") := by decide +kernel

section
variable {X : Cx} {pins : List (Addr × Obj)} {σ : St} {H : Hp} {s : Shared} {h' : Heap}
/-- several records of ours have turned -/
theorem Inv.turnedL {t' : Nat} {ch : List Addr} (I : Inv X pins σ H s) (k : ∀ b o, b ∉ ch → s.heap.get? b = some o → h'.get? b = some o) (hf : ∀ b ∈ ch, FpOk X pins H b) : Inv X pins σ H { s with heap := h', toks := t' } := by
  have nit : ∀ b u, H b = some u → b ∉ ch := fun b u e z => by
    have q := (hf b z).1
    rw [q] at e; cases e
  refine I.step (g' := s.gens) (d' := s.drawn) (ch := ch) (fun b hb => ⟨(hf b hb).2.2.2.1, (hf b hb).2.1, (hf b hb).2.2.2.2.1, (hf b hb).2.2.2.2.2⟩) (fun b o _ _ hc e _ => k b o hc e) (fun b o _ _ hc e _ => ⟨o.slots, k b o hc e⟩)
    (fun _ _ _ _ n => n) (fun b o hc e => ⟨o, k b o hc e⟩) (fun _ _ e => e) (fun _ _ _ e => e) (fun b ps e => ⟨#[], by rw [e]; simp⟩) (fun m hm => ?_) (fun b u e => ?_) I.bare
  · obtain ⟨o, es, ep, ho, r⟩ := hm
    exact ⟨o, es, ep, k _ o (fun z => (hf _ z).2.1 rfl) ho, r⟩
  · refine (I.hok b u e).stay (fun c v hc q => k c v ?_ q) (fun _ q => q) fun _ _ q => q
    rcases hc with z | z
    · rw [z]; exact nit b u e
    · exact nit c _ z
/-- .. and one new object is laid -/
theorem Inv.turnedNew {t' : Nat} {ch : List Addr} {T : Addr} {ob : HO} (I : Inv X pins σ H s) (k : ∀ b o, b ∉ ch → s.heap.get? b = some o → h'.get? b = some o) (hf : ∀ b ∈ ch, FpOk X pins H b) (hT : s.heap.objs.size ≤ T)
    (new : ObjOk X.prog X.w (upd H T ob) h' T ob) : Inv X pins σ (upd H T ob) { s with heap := h', toks := t' } := by
  have hn : H T = none := I.hok.fresh hT
  have nit : ∀ b u, H b = some u → b ∉ ch := fun b u e z => by
    have q := (hf b z).1
    rw [q] at e; cases e
  refine I.step (g' := s.gens) (d' := s.drawn) (ch := ch) (fun b hb => ⟨(hf b hb).2.2.2.1, (hf b hb).2.1, (hf b hb).2.2.2.2.1, (hf b hb).2.2.2.2.2⟩) (fun b o _ _ hc e _ => k b o hc e) (fun b o _ _ hc e _ => ⟨o.slots, k b o hc e⟩)
    (fun b o _ e n => ?_) (fun b o hc e => ⟨o, k b o hc e⟩) (fun b xs e => ?_) (fun b o u e => ?_) (fun b ps e => ⟨#[], ?_⟩) (fun m hm => ?_) (fun b u e => ?_) I.bare
  · rw [upd_ne (Nat.ne_of_lt (Nat.lt_of_lt_of_le (Heap.lt_size e) hT))]; exact n
  · rw [upd_ne (ne_of_none e hn)]; exact e
  · rw [upd_ne (ne_of_none e hn)]; exact e
  · rw [upd_ne (ne_of_none e hn), e]; simp
  · obtain ⟨o, es, ep, ho, r⟩ := hm
    exact ⟨o, es, ep, k _ o (fun z => (hf _ z).2.1 rfl) ho, r⟩
  · by_cases hb : b = T
    · subst hb
      rw [upd_same] at e
      cases e
      exact new
    · rw [upd_ne hb] at e
      refine (I.hok b u e).stay (fun c v hc q => k c v ?_ q) (fun c q => by rw [upd_ne (ne_of_none q hn)]; exact q) fun c xs q => by rw [upd_ne (ne_of_none q hn)]; exact q
      rcases hc with z | z
      · rw [z]; exact nit b u e
      · exact nit c _ z

end
section
variable {X : Cx}
theorem pi_one {tg : Expr} {pins : List (Addr × Obj)} {σ : St} {H : Hp} {s : Shared} {R : It → Hp → Prop} {J : It} {tn : Nat → Heap → Prop} {tk : Nat} (I : Inv X pins σ H s) (o : Obj)
    (T : Turn X.prog X.w X.K tg J [s.heap.objs.size] s.heap.objs.size tn) (st : tn 0 (s.heap.push o)) (q : R J H) : PIE X pins σ tg R (.ref s.heap.objs.size) { s with heap := s.heap.push o, toks := tk } := by
  refine ⟨s.heap.objs.size, [s.heap.objs.size], tn, J, H, rfl, I.kept fun b ob e => Heap.get?_push_of_some _ e, T, st, fun b hb => ?_, q⟩
  have e : b = s.heap.objs.size := by simpa using hb
  subst e
  exact I.fpOk (Nat.le_refl _) (I.hok.fresh (Nat.le_refl _))
end

/-- lo, lo + c, .. (n of them) -/
def Itc (lo c : Int) (n : Nat) : It := ⟨fun i _ => i < n, fun i H x H' => H' = H ∧ x = .int (lo + (i : Nat) * c), fun i _ => n ≤ i⟩
theorem turn_rangeC {P : Program} {w : World} {K : PySem.W.Frag} {tg : Expr} (it : Addr) (lo c : Int) (n : Nat) : Turn P w K tg (Itc lo c n) [it] it (fun i h => IsRangeIter h it (lo + (i : Nat) * c) ((n : Int) - (i : Nat)) c) where
  mem := by simp
  obj := fun i h st b hb => by
    have e : b = it := by simpa using hb
    subst e
    exact ⟨_, st, fun v z => nomatch z⟩
  keep := fun i h h' st k => k it (by simp) _ st
  item := by
    intro X hP hw hK hc i pins s σ H E I hf st hg
    subst hP hw hK
    obtain ⟨f0, f1, f2, f3, f4, f5⟩ := hf it (by simp)
    have W := Walks.range (prog := X.prog) (w := X.w) (I.ok.hd hc) it lo c n
    refine W.item i s _ _ hg st fun v h' tk hv st' kk => ?_
    obtain ⟨t, rfl⟩ := hv
    have I1 : Inv X pins σ H { s with heap := h', toks := tk } := I.turned (fun b o hb e => kk b o (by simpa using hb) e) f0 f1 f3 f4 f5
    exact ⟨_, rfl, go_of (s := { s with heap := h', toks := tk }) (n := "range_iterator") st' rfl rfl (by decide) ⟨.int (lo + (i : Nat) * c), H, I1, ⟨t, rfl⟩, ⟨rfl, rfl⟩, st', fun b hb => (hf b hb).1⟩⟩
  done := by
    intro X hP hw hK hc i pins s σ H E I hf st hg
    subst hP hw hK
    obtain ⟨f0, f1, f2, f3, f4, f5⟩ := hf it (by simp)
    exact wpAny_pyNext_range_end (I.ok.hd hc) st (by have : n ≤ i := hg; omega) fun h' eb => ⟨rfl, I.turned (t' := s.toks) (fun b o hb e => eb b o hb e) f0 f1 f3 f4 f5⟩
  self := fun A i s Q E st h => wpAny_pyIter_rangeiter st h
/-- range(i, j, c): small bounds, n items -/
def RgC (i j c : Int) (n : Nat) : Prop := c ≠ 0 ∧ c.natAbs < 1073741824 ∧ Builtin.Range.small i j c = true ∧ Builtin.Range.rangeSize i j c = n
theorem RgC.neg {i j : Int} (ha : -(2 ^ 62) ≤ i) (ha' : i < 2 ^ 62) (hb : -(2 ^ 62) ≤ j) (hb' : j < 2 ^ 62) : RgC i j (-1) (i - j).toNat :=
  ⟨by decide, by decide, PySem.W.small_down ha ha' hb hb', PySem.W.rangeSize_downNat i j⟩
def iRng3 (ta : TA) : TI := fun σ H R => ta σ H fun vs H1 => ∃ (i j c : Int) (n : Nat), vs = [.int i, .int j, .int c] ∧ RgC i j c n ∧ R (Itc i c n) H1
section
variable {X : Cx} {tg : Expr}
theorem pi_range3 {a b c : Expr} {ta : TA} {p pos : Pos} (hg : Gl X "range") (hm : X.mg "range" = none) (ha : PA X [a, b, c] ta)
    (hs : starEach [a, b, c] X.env = (false, eval a X.env) :: starEach [b, c] X.env := by rfl) (hpl : (backTo pos (starEach [b, c] X.env)).any (·.1) = false := by rfl) :
    PI X tg (.Call (.Name "range" p) [a, b, c] [] pos) (iRng3 ta) := by
  intro pins s σ H R I h
  refine Call_ (ld_blt I hg hm boot_range (PyProof.Rows.callWith_type1 (thn (ha pos pins s σ H _ I h) fun us s1 ⟨vs, H1, I1, r1, q1⟩ => ?_) hs hpl))
  obtain ⟨i, j, k, n, e, ⟨c0, c1, c2, c3⟩, q⟩ := q1
  subst e
  cases r1 with
  | cons r rr =>
    cases rr with
    | cons r' rr =>
      cases rr with
      | cons r'' rr =>
        cases rr
        obtain ⟨t, rfl⟩ := r
        obtain ⟨t', rfl⟩ := r'
        obtain ⟨t'', rfl⟩ := r''
        refine call_range_3 c0 ?_ (.inl (PyProof.noPylong_small c1))
        refine wpAny_pyIter_range (IsRange.new ..) c2 ?_
        have I2 : Inv X pins σ H1 { s1 with heap := s1.heap.push { cls := .type "range", data := .fields #[.int i t, .int j t', .int k t''] } } := I1.kept (t' := s1.toks) fun b o e => Heap.get?_push_of_some _ e
        refine pi_one (tk := s1.toks) I2 _ (turn_rangeC _ i k n) ?_ q
        have e1 : i + ((0 : Nat) : Int) * k = i := by simp
        have e2 : (n : Int) - ((0 : Nat) : Int) = Builtin.Range.rangeSize i j k := by rw [c3]; simp
        show IsRangeIter _ _ (i + ((0 : Nat) : Int) * k) ((n : Int) - ((0 : Nat) : Int)) k
        rw [e1, e2]
        exact Heap.get?_push_size _ rfl
end
/-- the turns of a step range, for the for loop -/
theorem for_rangeC {lo c : Int} {n : Nat} {g : TG} {tb : TS} {D : Ends} {σ : St} {H : Hp} (Pv : Nat → St → Hp → Prop) (h0 : Pv 0 σ H)
    (hs : ∀ i σ H, i < n → Pv i σ H → g (.int (lo + (i : Nat) * c)) σ H fun σ2 H2 => tb { D with nx := Pv (i + 1), ct := Pv (i + 1), bk := D.nx } σ2 H2) (hd : ∀ σ H, Pv n σ H → D.nx σ H) :
    ∃ W : Nat → Nat → St → Hp → Prop, (∃ m, W 0 m σ H) ∧ ∀ i m σ H, W i m σ H →
      ((Itc lo c n).stop i H ∧ D.nx σ H) ∨ ((Itc lo c n).go i H ∧ ∃ N : St → Hp → Prop, (∀ σ' H', N σ' H' → ∃ m', m' < m ∧ W (i + 1) m' σ' H') ∧ ∀ x H', (Itc lo c n).yld i H x H' → g x σ H' fun σ2 H2 => tb { D with nx := N, ct := N, bk := D.nx } σ2 H2) := by
  refine ⟨fun i m σ H => m = n - i ∧ i ≤ n ∧ Pv i σ H, ⟨n, by simp, Nat.zero_le _, h0⟩, ?_⟩
  rintro i m σ H ⟨rfl, hi, p⟩
  by_cases hlt : i < n
  · refine .inr ⟨hlt, Pv (i + 1), fun σ' H' p' => ⟨n - (i + 1), by omega, rfl, hlt, p'⟩, fun x H' y => ?_⟩
    obtain ⟨e, y⟩ := y
    subst e y
    exact hs i σ _ hlt p
  · have e : i = n := by omega
    subst e
    exact .inl ⟨Nat.le_refl _, hd σ H p⟩

/-- the list at a (n items at the start, which the loop leaves there), from its end -/
def Itv (K : PySem.W.Frag) (a : Addr) (n : Nat) : It :=
  ⟨fun i H => i < n ∧ ∃ (xs : List V) (x : V), SqL K H a xs ∧ xs[n - 1 - i]? = some x, fun i H x H' => H' = H ∧ ∀ xs, SqL K H a xs → xs[n - 1 - i]? = some x, fun i _ => n ≤ i⟩
theorem turn_rev {P : Program} {w : World} {K : PySem.W.Frag} {tg : Expr} (a it : Addr) (n : Nat) : Turn P w K tg (Itv K a n) [it] it (fun i h => i ≤ n ∧ h.IsRevIter it a ((n : Int) - 1 - (i : Nat))) where
  mem := by simp
  obj := fun i h st b hb => by
    have e : b = it := by simpa using hb
    subst e
    obtain ⟨_, o, e, c, d⟩ := st
    exact ⟨o, e, fun v z => by rw [d] at z; cases z⟩
  keep := fun i h h' st k => ⟨st.1, st.2.at fun o e => k it (by simp) o e⟩
  item := by
    intro X hP hw hK hc i pins s σ H E I hf st hg
    subst hP hw hK
    obtain ⟨hin, xs, x, hq, hx⟩ := hg
    obtain ⟨its, rv, p, hz⟩ := I.list hq
    obtain ⟨u, hu, ru⟩ := rv.get hx
    obtain ⟨f0, f1, f2, f3, f4, f5⟩ := hf it (by simp)
    obtain ⟨_, hit⟩ := st
    have e1 : (n : Int) - 1 - ((i : Nat) : Int) = ((n - 1 - i : Nat) : Int) := by omega
    rw [e1] at hit
    refine wpAny_pyNext_rev_item hit p.isList (x := u) (by simpa using hu) fun h' st' sb => ?_
    have e2 : ((n - 1 - i : Nat) : Int) - 1 = (n : Int) - 1 - ((i + 1 : Nat) : Int) := by omega
    rw [e2] at st'
    have I1 : Inv X pins σ H { s with heap := h' } := I.turned (t' := s.toks) (fun b o hb e => (sb.2 b hb).trans e) f0 f1 f3 f4 f5
    obtain ⟨o, e, c, d⟩ := id st'
    exact ⟨u, rfl, go_of (s := { s with heap := h' }) e c d (by decide) ⟨x, H, I1, ru, ⟨rfl, fun ys hy => by rw [I.list_inj hy hq]; exact hx⟩, ⟨hin, st'⟩, fun b hb => (hf b hb).1⟩⟩
  done := by
    intro X hP hw hK hc i pins s σ H E I hf st hg
    subst hP hw hK
    obtain ⟨f0, f1, f2, f3, f4, f5⟩ := hf it (by simp)
    obtain ⟨hin, hit⟩ := st
    have hge : n ≤ i := hg
    have e1 : (n : Int) - 1 - ((i : Nat) : Int) = -1 := by omega
    rw [e1] at hit
    exact wpAny_pyNext_rev_end (I.ok.hd hc) hit fun h' eb => ⟨rfl, I.turned (t' := s.toks) (fun b o hb e => eb b o hb e) f0 f1 f3 f4 f5⟩
  self := fun A i s Q E st h => wpAny_pyIter_revIter st.2 h
def iRev (K : PySem.W.Frag) (ta : TA) : TI := fun σ H R => ta σ H fun vs H1 => ∃ (a : Addr) (xs : List V), vs = [.ref a] ∧ SqL K H1 a xs ∧ R (Itv K a xs.length) H1
section
variable {X : Cx} {tg : Expr}
theorem pi_reversed {e : Expr} {ta : TA} {p pos : Pos} (hg : Gl X "reversed") (hm : X.mg "reversed" = none) (ha : PA X [e] ta) (hs : starEach [e] X.env = [(false, eval e X.env)] := by rfl) : PI X tg (.Call (.Name "reversed" p) [e] [] pos) (iRev X.K ta) := by
  intro pins s σ H R I h
  refine Call_ (ld_blt I hg hm boot_reversed5 (PyProof.Rows.callWith_type1 (thn (ha pos pins s σ H _ I h) fun us s1 ⟨vs, H1, I1, r1, q1⟩ => ?_) hs rfl))
  obtain ⟨a, xs, e, hq, q⟩ := q1
  subst e
  cases r1 with
  | cons r rr =>
    cases rr
    cases r
    obtain ⟨its, rv, p', hz⟩ := I1.list hq
    have hl := rv.length
    have e1 : ((its.toArray.size : Nat) : Int) - 1 = (xs.length : Int) - 1 - ((0 : Nat) : Int) := by simp only [List.size_toArray]; omega
    refine call_reversed_list p'.isList (wpAny_pyIter_revIter (l := a) (i := ((its.toArray.size : Nat) : Int) - 1) ⟨_, Heap.get?_push_size _ rfl, rfl, rfl⟩ ?_)
    refine pi_one (tk := s1.toks) I1 _ (turn_rev a _ xs.length) ⟨Nat.zero_le _, ?_⟩ q
    rw [← e1]
    exact ⟨_, Heap.get?_push_size _ rfl, rfl, rfl⟩
end

section
variable {prog : Program} {w : World} {A : Around} {E : Value → Shared → Prop} {s : Shared}
end

section
variable {X : Cx} {pins : List (Addr × Obj)} {σ : St} {H : Hp} {s : Shared} {d : Addr} {o : Obj}
end

section
variable {P : Program} {w : World} {K : PySem.W.Frag} {tg : Expr} {d : Addr} {o : Obj} {es : Array DictEntry} {ep : Nat}
end

section
variable {X : Cx} {tg e : Expr} {td : TE} {apos cpos : Pos}
end

/-- the list at a as it stands at each turn, each item in a new pair -/
def Ite (K : PySem.W.Frag) (a : Addr) : It :=
  ⟨fun i H => ∃ (xs : List V) (x : V), SqL K H a xs ∧ xs[i]? = some x, fun i H v H' => ∃ T x, v = .ref T ∧ H T = none ∧ H' = upd H T (.tup [.int (i : Nat), x]) ∧ ∀ xs, SqL K H a xs → xs[i]? = some x, fun i H => ∃ xs : List V, SqL K H a xs ∧ xs.length ≤ i⟩
theorem turn_enum {P : Program} {w : World} {K : PySem.W.Frag} {elts : List Expr} {kk : Nat} {tpos : Pos} (a e it : Addr) :
    Turn P w K (.Tuple elts kk tpos) (Ite K a) [e, it] e (fun i h => (∃ old, IsEnum h e it ((i : Nat) : Int) old) ∧ h.IsListIter it a i ∧ e ≠ it) where
  mem := by simp
  obj := fun i h st b hb => by
    obtain ⟨⟨old, he⟩, ⟨o, ho, hc, hd⟩, _⟩ := st
    have e' : b = e ∨ b = it := by simpa using hb
    rcases e' with z | z
    · rw [z]; exact ⟨_, he, fun v q => nomatch q⟩
    · rw [z]; exact ⟨o, ho, fun v q => by rw [hd] at q; cases q⟩
  keep := fun i h h' st k => let ⟨⟨old, he⟩, hi, hne⟩ := st; ⟨⟨old, k e (by simp) _ he⟩, hi.at fun o q => k it (by simp) o q, hne⟩
  item := by
    intro X hP hw hK hc i pins s σ H E I hf st hg
    subst hP hw hK
    obtain ⟨⟨old, he⟩, hit, hne⟩ := st
    obtain ⟨xs, x, hq, hx⟩ := hg
    obtain ⟨its, rv, p, hz⟩ := I.list hq
    obtain ⟨u, hu, ru⟩ := rv.get hx
    have hel : e < s.heap.objs.size := Heap.lt_size he
    have hil : it < s.heap.objs.size := by obtain ⟨_, q, _⟩ := hit; exact Heap.lt_size q
    refine wpAny_pyNext_enum_item he hit p.isList (x := u) (by simpa using hu) hne fun h' ho hit' hT hsz hk => ?_
    refine ⟨_, rfl, wpAny_letOwnedTupleGo_enum (s := { s with heap := h', toks := s.toks + 1 }) ho fun h'' he' sb => ?_⟩
    have hT2 : h''.get? s.heap.objs.size = some { cls := .type "tuple", data := .seq #[.int i s.toks, u] } := (sb.2 _ (Nat.ne_of_gt hel)).trans hT
    have new : ObjOk X.prog X.w (upd H s.heap.objs.size (.tup [.int (i : Nat), x])) h'' s.heap.objs.size (.tup [.int (i : Nat), x]) :=
      ⟨by show 2 ≤ sizeLine; decide, [.int i s.toks, u], .cons ⟨_, rfl⟩ (.cons ru .nil), ⟨_, hT2, rfl, _, rfl⟩⟩
    have I1 : Inv X pins σ (upd H s.heap.objs.size (.tup [.int (i : Nat), x])) { s with heap := h'', toks := s.toks + 1 } :=
      I.turnedNew (ch := [e, it]) (fun b ob hb q => (sb.2 b (fun z => hb (by simp [z]))).trans (hk b ob (fun z => hb (by simp [z])) (fun z => hb (by simp [z])) q)) hf (Nat.le_refl _) new
    refine ⟨.ref s.heap.objs.size, _, I1, rfl, ⟨_, x, rfl, I.hok.fresh (Nat.le_refl _), rfl, fun ys hy => by rw [I.list_inj hy hq]; exact hx⟩, ⟨⟨u, ?_⟩, hit'.at fun o q => (sb.2 it (Ne.symm hne)).trans q, hne⟩, fun b hb => ?_⟩
    · have e1 : ((i + 1 : Nat) : Int) = (i : Int) + 1 := by omega
      rw [e1]; exact he'
    · have hb' : b < s.heap.objs.size := by
        have e' : b = e ∨ b = it := by simpa using hb
        rcases e' with z | z
        · rw [z]; exact hel
        · rw [z]; exact hil
      rw [upd_ne (Nat.ne_of_lt hb')]
      exact (hf b hb).1
  done := by
    intro X hP hw hK hc i pins s σ H E I hf st hg
    subst hP hw hK
    obtain ⟨⟨old, he⟩, hit, hne⟩ := st
    obtain ⟨xs, hq, hx⟩ := hg
    obtain ⟨its, rv, p, hz⟩ := I.list hq
    obtain ⟨f0, f1, f2, f3, f4, f5⟩ := hf it (by simp)
    have hl := rv.length
    exact wpAny_pyNext_enum_end (I.ok.hd hc) he hit p.isList (by simp; omega) fun h' eb => ⟨rfl, I.turned (t' := s.toks) (fun b o hb q => eb b o hb q) f0 f1 f3 f4 f5⟩
  self := fun A i s Q E st h => let ⟨⟨_, he⟩, _⟩ := st; wpAny_pyIter_enum he h
def iEnum (K : PySem.W.Frag) (ta : TA) : TI := fun σ H R => ta σ H fun vs H1 => ∃ a xs, vs = [.ref a] ∧ SqL K H1 a xs ∧ R (Ite K a) H1
theorem pi_enum {X : Cx} {e : Expr} {ta : TA} {p pos tpos : Pos} {elts : List Expr} {kk : Nat} (hg : Gl X "enumerate") (hm : X.mg "enumerate" = none) (ha : PA X [e] ta) (hs : starEach [e] X.env = [(false, eval e X.env)] := by rfl) :
    PI X (.Tuple elts kk tpos) (.Call (.Name "enumerate" p) [e] [] pos) (iEnum X.K ta) := by
  intro pins s σ H R I h
  refine Call_ (ld_blt I hg hm boot_enumerate (PyProof.Rows.callWith_type1 (thn (ha pos pins s σ H _ I h) fun us s1 ⟨vs, H1, I1, r1, q1⟩ => ?_) hs rfl))
  obtain ⟨a, xs, ex, hq, q⟩ := q1
  subst ex
  cases r1 with
  | cons r rr =>
    cases rr
    cases r
    obtain ⟨its, rv, p', hz⟩ := I1.list hq
    refine call_enumerate_list p'.isList fun h' he hit hsz hk => wpAny_pyIter_enum he ?_
    have I2 : Inv X pins σ H1 { s1 with heap := h' } := I1.kept (t' := s1.toks) hk
    refine ⟨s1.heap.objs.size + 1, [s1.heap.objs.size + 1, s1.heap.objs.size], _, _, H1, rfl, I2, turn_enum a (s1.heap.objs.size + 1) s1.heap.objs.size, ⟨⟨.none, he⟩, hit, Nat.succ_ne_self _⟩, fun b hb => ?_, q⟩
    have e' : b = s1.heap.objs.size + 1 ∨ b = s1.heap.objs.size := by simpa using hb
    have hle : s1.heap.objs.size ≤ b := by
      rcases e' with z | z
      · rw [z]; exact Nat.le_add_right _ _
      · rw [z]; exact Nat.le_refl _
    exact I1.fpOk hle (I1.hok.fresh hle)
theorem boot_zip5 : bootBuiltins "zip" = some (.type "zip") := by decide +kernel
/-- the lists at a and b as they stand at each turn, the items in new pairs -/
def Itz (K : PySem.W.Frag) (a b : Addr) : It :=
  ⟨fun i H => ∃ (xs ys : List V) (x y : V), SqL K H a xs ∧ SqL K H b ys ∧ xs[i]? = some x ∧ ys[i]? = some y,
    fun i H v H' => ∃ T x y, v = .ref T ∧ H T = none ∧ H' = upd H T (.tup [x, y]) ∧ (∀ xs, SqL K H a xs → xs[i]? = some x) ∧ ∀ ys, SqL K H b ys → ys[i]? = some y,
    fun i H => ∃ xs ys : List V, SqL K H a xs ∧ SqL K H b ys ∧ (xs.length ≤ i ∨ ys.length ≤ i)⟩
theorem turn_zip {P : Program} {w : World} {K : PySem.W.Frag} {elts : List Expr} {kk : Nat} {tpos : Pos} {a b z TI TO i1 i2 : Addr} (D : ZipApart z TI TO i1 i2 a b) :
    Turn P w K (.Tuple elts kk tpos) (Itz K a b) [z, TI, TO, i1, i2] z (fun i h => IsZip h z TI TO .none ∧ IsPair h TI (.ref i1) (.ref i2) ∧ (∃ x y, IsPair h TO x y) ∧ h.IsListIter i1 a i ∧ h.IsListIter i2 b i) where
  mem := by simp
  obj := fun i h st c hc => by
    obtain ⟨hz, hTI, ⟨x, y, hTO⟩, ⟨o1, e1, _, d1⟩, ⟨o2, e2, _, d2⟩⟩ := st
    have e' : c = z ∨ c = TI ∨ c = TO ∨ c = i1 ∨ c = i2 := by simpa using hc
    rcases e' with q | q | q | q | q
    · rw [q]; exact ⟨_, hz, fun v q => nomatch q⟩
    · rw [q]; exact ⟨_, hTI, fun v q => nomatch q⟩
    · rw [q]; exact ⟨_, hTO, fun v q => nomatch q⟩
    · rw [q]; exact ⟨o1, e1, fun v q => by rw [d1] at q; cases q⟩
    · rw [q]; exact ⟨o2, e2, fun v q => by rw [d2] at q; cases q⟩
  keep := fun i h h' st k => by
    obtain ⟨hz, hTI, ⟨x, y, hTO⟩, h1, h2⟩ := st
    exact ⟨k z (by simp) _ hz, k TI (by simp) _ hTI, ⟨x, y, k TO (by simp) _ hTO⟩, h1.at fun o q => k i1 (by simp) o q, h2.at fun o q => k i2 (by simp) o q⟩
  item := by
    intro X hP hw hK hc i pins s σ H E I hf st hg
    subst hP hw hK
    obtain ⟨hz, hTI, ⟨x0, y0, hTO⟩, h1, h2⟩ := st
    obtain ⟨xs, ys, x, y, hqx, hqy, hx, hy⟩ := hg
    obtain ⟨its, rv, p, _⟩ := I.list hqx
    obtain ⟨its2, rv2, p2, _⟩ := I.list hqy
    obtain ⟨u, hu, ru⟩ := rv.get hx
    obtain ⟨u2, hu2, ru2⟩ := rv2.get hy
    have hzl : z < s.heap.objs.size := Heap.lt_size hz
    refine wpAny_pyNext_zip_item D hz hTI hTO h1 h2 p.isList p2.isList (x := u) (y := u2) (by simpa using hu) (by simpa using hu2) fun h' z' TO' h1' h2' hT hsz hk => ?_
    refine ⟨_, rfl, wpAny_letOwnedTupleGo_zip (s := { s with heap := h' }) z' fun h'' z'' sb => ?_⟩
    have hT2 : h''.get? s.heap.objs.size = some { cls := .type "tuple", data := .seq #[u, u2] } := (sb.2 _ (Nat.ne_of_gt hzl)).trans hT
    have new : ObjOk X.prog X.w (upd H s.heap.objs.size (.tup [x, y])) h'' s.heap.objs.size (.tup [x, y]) :=
      ⟨by show 2 ≤ sizeLine; decide, [u, u2], .cons ru (.cons ru2 .nil), ⟨_, hT2, rfl, _, rfl⟩⟩
    have I1 : Inv X pins σ (upd H s.heap.objs.size (.tup [x, y])) { s with heap := h'' } :=
      I.turnedNew (t' := s.toks) (ch := [z, TI, TO, i1, i2]) (fun c o hb q => (sb.2 c (fun q' => hb (by simp [q']))).trans (hk c o (fun q' => hb (by simp [q'])) (fun q' => hb (by simp [q'])) (fun q' => hb (by simp [q'])) (fun q' => hb (by simp [q'])) q)) hf (Nat.le_refl _) new
    refine ⟨.ref s.heap.objs.size, _, I1, rfl, ⟨_, x, y, rfl, I.hok.fresh (Nat.le_refl _), rfl, fun l hl => by rw [I.list_inj hl hqx]; exact hx, fun l hl => by rw [I.list_inj hl hqy]; exact hy⟩, ⟨z'', ?_, ⟨u, u2, ?_⟩, ?_, ?_⟩, fun c hcm => ?_⟩
    · exact (sb.2 _ D.TIz).trans (hk _ _ D.TIz D.TITO D.TIi1 D.TIi2 hTI)
    · exact (sb.2 _ D.TOz).trans TO'
    · exact h1'.at fun o q => (sb.2 _ D.i1z).trans q
    · exact h2'.at fun o q => (sb.2 _ D.i2z).trans q
    · have hlt : c < s.heap.objs.size := by
        have e' : c = z ∨ c = TI ∨ c = TO ∨ c = i1 ∨ c = i2 := by simpa using hcm
        rcases e' with q | q | q | q | q
        · rw [q]; exact hzl
        · rw [q]; exact Heap.lt_size hTI
        · rw [q]; exact Heap.lt_size hTO
        · rw [q]; obtain ⟨_, e1, _⟩ := h1; exact Heap.lt_size e1
        · rw [q]; obtain ⟨_, e2, _⟩ := h2; exact Heap.lt_size e2
      rw [upd_ne (Nat.ne_of_lt hlt)]
      exact (hf c hcm).1
  done := by
    intro X hP hw hK hc i pins s σ H E I hf st hg
    subst hP hw hK
    obtain ⟨hz, hTI, ⟨x0, y0, hTO⟩, h1, h2⟩ := st
    obtain ⟨xs, ys, hqx, hqy, hend⟩ := hg
    obtain ⟨its, rv, p, _⟩ := I.list hqx
    obtain ⟨its2, rv2, p2, _⟩ := I.list hqy
    have l1 := rv.length
    have l2 := rv2.length
    have he : its.toArray[i]? = none ∨ its2.toArray[i]? = none := by
      rcases hend with q | q
      · exact .inl (by simp; omega)
      · exact .inr (by simp; omega)
    exact wpAny_pyNext_zip_end (I.ok.hd hc) D hz hTI hTO h1 h2 p.isList p2.isList he fun h' hk => ⟨rfl, I.turnedL (t' := s.toks) (ch := [z, TI, TO, i1, i2]) (fun c o hb q =>
      hk c o (fun q' => hb (by simp [q'])) (fun q' => hb (by simp [q'])) (fun q' => hb (by simp [q'])) (fun q' => hb (by simp [q'])) q) hf⟩
  self := fun A i s Q E st h => wpAny_pyIter_zip st.1 h
def iZip (K : PySem.W.Frag) (ta : TA) : TI := fun σ H R => ta σ H fun vs H1 => ∃ a b xs ys, vs = [.ref a, .ref b] ∧ SqL K H1 a xs ∧ SqL K H1 b ys ∧ R (Itz K a b) H1
theorem pi_zip {X : Cx} {e e2 : Expr} {ta : TA} {p pos tpos : Pos} {elts : List Expr} {kk : Nat} (hg : Gl X "zip") (hm : X.mg "zip" = none) (ha : PA X [e, e2] ta)
    (hs : starEach [e, e2] X.env = (false, eval e X.env) :: starEach [e2] X.env := by rfl) (hpl : (backTo pos (starEach [e2] X.env)).any (·.1) = false := by rfl) :
    PI X (.Tuple elts kk tpos) (.Call (.Name "zip" p) [e, e2] [] pos) (iZip X.K ta) := by
  intro pins s σ H R I h
  refine Call_ (ld_blt I hg hm boot_zip5 (PyProof.Rows.callWith_type1 (thn (ha pos pins s σ H _ I h) fun us s1 ⟨vs, H1, I1, r1, q1⟩ => ?_) hs hpl))
  obtain ⟨a, b, xs, ys, ex, hqx, hqy, q⟩ := q1
  subst ex
  cases r1 with
  | cons r rr =>
    cases rr with
    | cons r' rr =>
      cases rr
      cases r
      cases r'
      obtain ⟨its, rv, p1, _⟩ := I1.list hqx
      obtain ⟨its2, rv2, p2, _⟩ := I1.list hqy
      have la : a < s1.heap.objs.size := p1.lt
      have lb : b < s1.heap.objs.size := p2.lt
      refine call_zip_2 p1.isList p2.isList fun h' hz hTI hTO h1 h2 hsz hk => wpAny_pyIter_zip hz ?_
      have I2 : Inv X pins σ H1 { s1 with heap := h' } := I1.kept (t' := s1.toks) hk
      refine ⟨s1.heap.objs.size + 4, [s1.heap.objs.size + 4, s1.heap.objs.size + 2, s1.heap.objs.size + 3, s1.heap.objs.size, s1.heap.objs.size + 1], _, _, H1, rfl, I2, turn_zip (PySem.W.ktu_apart s1.heap.objs.size a b la lb), ⟨hz, hTI, ⟨_, _, hTO⟩, h1, h2⟩, fun c hcm => ?_, q⟩
      have e' : c = s1.heap.objs.size + 4 ∨ c = s1.heap.objs.size + 2 ∨ c = s1.heap.objs.size + 3 ∨ c = s1.heap.objs.size ∨ c = s1.heap.objs.size + 1 := by simpa using hcm
      have hle : s1.heap.objs.size ≤ c := by
        rcases e' with z | z | z | z | z
        · rw [z]; exact Nat.le_add_right _ _
        · rw [z]; exact Nat.le_add_right _ _
        · rw [z]; exact Nat.le_add_right _ _
        · rw [z]; exact Nat.le_refl _
        · rw [z]; exact Nat.le_add_right _ _
      exact I1.fpOk hle (I1.hok.fresh hle)
end L2

section 
namespace Bits
open PySem PyProof.Rows

end Bits
end 

section 
namespace TL
open PySem PySem.Builtin PySem.Builtin.Str PySem.StrLaws

end TL
end 

namespace L2
open PySem PySem.Spec PyProof.Rows

section
variable {X : Cx} {pins : List (Addr × Obj)} {σ : St} {H : Hp} {s : Shared} {Q : VK}
end

section
variable {X : Cx}

end

section
variable {X : Cx} {o e : Expr} {to te : TE}
end
end L2

namespace L2
open PySem PySem.Spec PyProof.Rows

section
variable {X : Cx}
end

end L2

namespace Att
open PySem PySem.W PySem.Calls PyProof.Rows

section
variable {prog : Program} {w : World} {A : Around} {E : Value → Shared → Prop} {s : Shared} {K : Frag}

end
end Att

namespace L2
open PySem PySem.Spec PyProof.Rows

end L2

namespace L2
open PySem PySem.Spec PyProof.Rows

end L2

namespace L2
open PySem PySem.Spec PyProof.Rows

/-- the j-th statement of a class's body -/
def inClass (s : Stmt) (j : Nat) : Stmt := match s with
  | .ClassDef _ _ _ body _ _ _ _ _ _ _ => body.getD j (.Pass ⟨0, 0, 0, 0⟩)
  | _ => .Pass ⟨0, 0, 0, 0⟩
def defArgs (s : Stmt) : Arguments := match s with
  | .FunctionDef _ a _ _ _ _ _ _ _ _ => a
  | _ => { posonlyargs := [], args := [], vararg := none, kwonlyargs := [], kw_defaults := [], kwarg := none, defaults := [] }
def defBody (s : Stmt) : List Stmt := match s with
  | .FunctionDef _ _ b _ _ _ _ _ _ _ => b
  | _ => []
def defScope (s : Stmt) : Scope := match s with
  | .FunctionDef _ _ _ _ _ _ sc _ _ _ => sc
  | _ => { kind := .function, names := [], isGenerator := false, isCoroutine := false }

abbrev CX0 : CXT := fun _ _ _ _ _ _ => False
abbrev E0 : XK := fun _ _ _ => False
theorem pass0 {X : Cx} : Passes CX0 X E0 := fun _ _ _ _ _ _ _ h => h.elim

structure Fun (K : PySem.W.Frag) (x qual : Str) (st : Stmt) (f : Addr) (fd : FuncData) : Prop where
  ex : ∃ (oc : Value) (od : Option Addr) (kV doc pm : Value) (an : Option Addr) (cdv ct : Value) (osl : Array (Option Value)),
    fd = PySem.W.fnOf x qual (defArgs st) (defBody st) (defScope st) .none kV doc pm an cdv ct ∧ K.lookup f = some ⟨oc, od, .func fd, osl⟩ ∧ PySem.W.codeIn K cdv qual = true
  kp : PySem.W.keepIn K (.ref f) = true
section
variable {P : Program} {w : World} {K : PySem.W.Frag} {mg : Str → Option Value} {base : Heap}
/-- THE RULE for a def: its body as a term of rules, and the reading of that term -/
theorem Fun.ok {x qual : Str} {st : Stmt} {f : Addr} {fd : FuncData} {N ps : List Str} {k : Nat} {sp : Sp} (F : Fun K x qual st f fd) (S : FnScope N ps (defScope st)) (len : ∀ vs H Q E, sp vs H Q E → vs.length = ps.length)
    (hbody : ∀ (cdv : Value) (A : Around) (outer : List Env) (s : Shared) (H : Hp) (vs : List V) (Q : VK) (E : XK), Room k (A.deeper (envOfC qual (defScope st) s.heap.objs.size f cdv)) → sp vs H Q E →
      ∃ t, PSs (cxOf CX0 P w K mg base N qual (defScope st) f cdv A outer s H E).nox (defBody st) t ∧ t { nx := fun _ H' => Q .non H', rt := Q } (start N vs) H) : FnOk P w K mg base CX0 (k + 1) f fd ps sp := by
  obtain ⟨oc, od, kV, doc, pm, an, cdv, ct, osl, rfl, lk, hcd⟩ := F.ex
  refine fn_of lk hcd S len fun A outer s H vs Q E hr hsp => ?_
  obtain ⟨t, h, q⟩ := hbody cdv A outer s H vs Q E hr hsp
  exact ⟨t, h.nox, q⟩
/-- how its arguments bind (no defaults): h is «fun _ _ _ _ _ _ us hl => match us, hl with | [_, _], _ => rfl», one _ a parameter -/
theorem Fun.binds {x qual : Str} {st : Stmt} {f : Addr} {fd : FuncData} {ps : List Str} (F : Fun K x qual st f fd)
    (h : ∀ (kV doc pm : Value) (an : Option Addr) (cdv ct : Value) (us : List Value), us.length = ps.length → bindArgs (PySem.W.fnOf x qual (defArgs st) (defBody st) (defScope st) .none kV doc pm an cdv ct) ⟨us, []⟩ = pure (ps.zip us)) : Binds K fd ps [] := by
  obtain ⟨oc, od, kV, doc, pm, an, cdv, ct, osl, rfl, lk, hcd⟩ := F.ex
  exact .all (h kV doc pm an cdv ct)
theorem fun_mk {x qual : Str} {st : Stmt} {f : Addr} {oc : Value} {od an : Option Addr} {osl : Array (Option Value)} {kV doc pm cdv ct : Value} (l : K.lookup f = some ⟨oc, od, .func (PySem.W.fnOf x qual (defArgs st) (defBody st) (defScope st) .none kV doc pm an cdv ct), osl⟩)
    (c : PySem.W.codeIn K cdv qual = true) (k : PySem.W.keepIn K (.ref f) = true) : Fun K x qual st f (PySem.W.fnOf x qual (defArgs st) (defBody st) (defScope st) .none kV doc pm an cdv ct) := ⟨⟨oc, od, kV, doc, pm, an, cdv, ct, osl, rfl, l, c⟩, k⟩
end
section
variable {X : Cx}
theorem pv (i : Nat) {x : Str} {pos : Pos} (hN : X.N[i]? = some x := by rfl) (hv : Vis X.env.scope x := by first | exact Or.inl rfl | exact Or.inr (Or.inl rfl) | exact Or.inr (Or.inr rfl)) (hd : (x == ("__debug__" : Str)) = false := by decide)
    (hcd : (x == ("__classdict__" : Str)) = false := by decide) : PE X (.Name x pos) (tVar i) := pe_var hN hv hd hcd
end

theorem iteF {A B : Prop} (h : B) : if false = true then A else B := by
  rw [if_neg Bool.false_ne_true]
  exact h
theorem iteT {A B : Prop} (h : A) : if true = true then A else B := by
  rw [if_pos rfl]
  exact h
theorem ite2 {c A B : Prop} [Decidable c] (h1 : c → A) (h2 : ¬ c → B) : if c then A else B := by
  by_cases h : c
  · rw [if_pos h]
    exact h1 h
  · rw [if_neg h]
    exact h2 h
/-- all that was tracked is as it was -/
def Same (H H' : Hp) : Prop := ∀ b o, H b = some o → H' b = some o
theorem Same.refl (H : Hp) : Same H H := fun _ _ h => h
theorem Same.trans {H H1 H2 : Hp} (a : Same H H1) (b : Same H1 H2) : Same H H2 := fun c o h => b c o (a c o h)
theorem Same.free {H H' : Hp} (e : Same H H') {l : Addr} (h : H' l = Option.none) : H l = Option.none := by
  cases q : H l with
  | none => rfl
  | some o =>
    rw [e l o q] at h
    cases h
theorem Same.seq {K : PySem.W.Frag} {H H' : Hp} {a : Addr} {xs : List V} (e : Same H H') (h : SqL K H a xs) : SqL K H' a xs := by
  rcases h with (h | ⟨o, h⟩) | h
  · exact .inl (.inl (e _ _ h))
  · exact .inl (.inr ⟨o, e _ _ h⟩)
  · exact .inr h

section
variable {κ : Type} [DecidableEq κ]
end
/-- a new instance and its __init__ leave all that was tracked as it was -/
theorem Same.made {H H1 : Hp} {x dx C : Addr} (nx : H x = Option.none) (nd : H dx = Option.none) (k : ∀ b o, (upd (upd H dx (.own x)) x (.ins C dx [])) b = some o → b ≠ x → H1 b = some o) : Same H H1 := fun b o e =>
  k b o (by rw [upd_ne (ne_of_none e nx), upd_ne (ne_of_none e nd)]; exact e) (ne_of_none e nx)
end L2
end
section
section
set_option Elab.async false
set_option linter.all false
set_option maxRecDepth 100000
set_option maxHeartbeats 2000000
namespace L2
open PySem PySem.Spec PyProof.Rows
open PySem.W (WData Codec OpenSpec Well WellAll ReadsW ReadsAllW)
mutual
/-- x stands for the datum d, lists and tuples all the way -/
inductive Dw (K : PySem.W.Frag) (H : Hp) : V → WData → Prop
  | non : Dw K H .non .none
  | bl (b : Bool) : Dw K H (.bl b) (.bool b)
  | int (i : Int) : Dw K H (.int i) (.int i)
  | str (x : Str) : Dw K H (.str x) (.str x)
  | byt (b : Array UInt8) : Dw K H (.byt b) (.bytes b.toList)
  | lst {a : Addr} {xs : List V} {ds : List WData} : SqL K H a xs → DwAll K H xs ds → Dw K H (.ref a) (.list ds)
  | tup {a : Addr} {xs : List V} {ds : List WData} : SqT K H a xs → DwAll K H xs ds → Dw K H (.ref a) (.tuple ds)
inductive DwAll (K : PySem.W.Frag) (H : Hp) : List V → List WData → Prop
  | nil : DwAll K H [] []
  | cons {v : V} {vs : List V} {d : WData} {ds : List WData} : Dw K H v d → DwAll K H vs ds → DwAll K H (v :: vs) (d :: ds)
end
theorem dw_ints {K : PySem.W.Frag} {H : Hp} : ∀ ns : List Int, DwAll K H (ns.map V.int) (ns.map WData.int)
  | [] => .nil
  | n :: r => .cons (.int n) (dw_ints r)
theorem ints_dw {K : PySem.W.Frag} {H : Hp} : ∀ (ns : List Int) (xs : List V), DwAll K H xs (ns.map WData.int) → xs = ns.map V.int
  | [], xs, h => by
    cases h
    rfl
  | n :: r, xs, h => by
    cases h with
    | cons h1 h2 =>
      cases h1
      rw [ints_dw r _ h2] <;> rfl
section
variable {P : Program} {w : World} {K : PySem.W.Frag} {H : Hp} {h : Heap} {R : PySem.W.WRecords} {cl : Str → Option Addr}
theorem sqL_at {a : Addr} {xs : List V} (hok : HOk P w H h) (KX : K.In h) (q : SqL K H a xs) : ∃ (its : List Value) (o : Obj) (n : Nat), Vals xs its ∧ h.get? a = some o ∧ o.cls = .type "list" ∧ o.data = .seq its.toArray n := by
  rcases q with q | ⟨o, its, n, e, hc, _, hd, _, hv⟩
  · obtain ⟨_, its, n, hv, e⟩ := (show ObjOk P w H h a (.lst xs) from q.ok hok)
    exact ⟨its, _, n, hv, e, rfl, rfl⟩
  · exact ⟨its.toList, o, n, hv, KX _ _ e, hc, by simp [hd]⟩
theorem sqT_at {a : Addr} {xs : List V} (hok : HOk P w H h) (KX : K.In h) (q : SqT K H a xs) : ∃ (its : List Value) (o : Obj) (n : Nat), Vals xs its ∧ h.get? a = some o ∧ o.cls = .type "tuple" ∧ o.data = .seq its.toArray n := by
  rcases q with q | ⟨o, its, n, e, hc, hd, _, hv⟩
  · obtain ⟨_, its, hv, o, e, hc, n, hd⟩ := (show ObjOk P w H h a (.tup xs) from q.ok hok)
    exact ⟨its, o, n, hv, e, hc, hd⟩
  · exact ⟨its.toList, o, n, hv, KX _ _ e, hc, by simp [hd]⟩
mutual
theorem Dw.reads (hok : HOk P w H h) (KX : K.In h) : ∀ (d : WData) (v : V) (u : Value), Dw K H v d → RelV v u → ∃ as, ReadsW R cl h u d as
  | .none, _, _, x, r => by
    cases x
    cases r
    exact ⟨_, ReadsW.none⟩
  | .bool b, _, _, x, r => by
    cases x
    cases r
    exact ⟨_, ReadsW.bool b⟩
  | .int i, _, _, x, r => by
    cases x
    obtain ⟨t, rfl⟩ := r
    exact ⟨_, ReadsW.int i t⟩
  | .str s, _, _, x, r => by
    cases x
    obtain ⟨t, rfl⟩ := r
    exact ⟨_, ReadsW.str s t⟩
  | .bytes b, _, _, x, r => by
    cases x
    obtain ⟨t, rfl⟩ := r
    exact ⟨_, ReadsW.bytes _ t⟩
  | .list ds, _, _, x, r => by
    cases x with
    | lst hs ha =>
      cases r
      obtain ⟨its, o, n, rv, ho, hc, hd⟩ := sqL_at hok KX hs
      obtain ⟨as, hr⟩ := Dw.readsAll hok KX ds _ its ha rv
      exact ⟨_, ReadsW.list ho hc hd hr⟩
  | .tuple ds, _, _, x, r => by
    cases x with
    | tup hs ha =>
      cases r
      obtain ⟨its, o, n, rv, ho, hc, hd⟩ := sqT_at hok KX hs
      obtain ⟨as, hr⟩ := Dw.readsAll hok KX ds _ its ha rv
      exact ⟨_, ReadsW.tuple ho hc hd hr⟩
  | .float _, _, _, x, _ => by cases x
  | .dict _, _, _, x, _ => by cases x
  | .bytearray _, _, _, x, _ => by cases x
  | .set _, _, _, x, _ => by cases x
  | .frozenset _, _, _, x, _ => by cases x
  | .obj _ _, _, _, x, _ => by cases x
theorem Dw.readsAll (hok : HOk P w H h) (KX : K.In h) : ∀ (ds : List WData) (vs : List V) (us : List Value), DwAll K H vs ds → Vals vs us → ∃ as, ReadsAllW R cl h us ds as
  | [], _, _, x, r => by
    cases x
    cases r
    exact ⟨_, ReadsAllW.nil⟩
  | d :: ds, _, _, x, r => by
    cases x with
    | cons h1 h2 =>
      cases r with
      | cons r1 r2 =>
        obtain ⟨as, q1⟩ := Dw.reads hok KX d _ _ h1 r1
        obtain ⟨bs, q2⟩ := Dw.readsAll hok KX ds _ _ h2 r2
        exact ⟨_, ReadsAllW.cons q1 q2⟩
end
end
mutual
/-- data that a codec tells -/
def plW : WData → Bool
  | .none => true
  | .bool _ => true
  | .int _ => true
  | .str _ => true
  | .bytes _ => true
  | .list xs => plWs xs
  | .tuple xs => plWs xs
  | _ => false
def plWs : List WData → Bool
  | [] => true
  | x :: r => plW x && plWs r
end
theorem plWs_map {α : Type} {f : α → WData} (h : ∀ a, plW (f a) = true) : ∀ l : List α, plWs (l.map f) = true
  | [] => rfl
  | x :: r => by
    show (plW (f x) && plWs (r.map f)) = true
    rw [h x, plWs_map h r] <;> rfl
theorem pl_enc : ∀ (c : Codec) (a : c.denote), plW (c.enc a) = true
  | .unit, _ => rfl
  | .bool, _ => rfl
  | .int _ _, _ => rfl
  | .nat _ _, _ => rfl
  | .u8, _ => rfl
  | .bytes _ _, _ => rfl
  | .text _ _ _ _, _ => rfl
  | .list _ _ c, a => plWs_map (fun x => pl_enc c x) a
  | .pair c d, a => by
    show (plW (c.enc a.1) && (plW (d.enc a.2) && true)) = true
    rw [pl_enc c a.1, pl_enc d a.2] <;> rfl
  | .triple c d e, a => by
    show (plW (c.enc a.1) && (plW (d.enc a.2.1) && (plW (e.enc a.2.2) && true))) = true
    rw [pl_enc c a.1, pl_enc d a.2.1, pl_enc e a.2.2] <;> rfl
  | .option c, none => rfl
  | .option c, some x => pl_enc c x
theorem pl_encAll : ∀ (cs : List Codec) (a : Codec.denoteAll cs), plWs (Codec.encAll cs a) = true
  | [], _ => rfl
  | c :: cs, a => by
    show (plW (c.enc a.1) && plWs (Codec.encAll cs a.2)) = true
    rw [pl_enc c a.1, pl_encAll cs a.2] <;> rfl
theorem weight_mem : ∀ {xs : List WData} {d : WData}, d ∈ xs → d.weight ≤ WData.weightAll xs
  | [], d, h => absurd h (by simp)
  | x :: r, d, h => by
    show d.weight ≤ x.weight + 1 + WData.weightAll r
    rcases List.mem_cons.mp h with e | m
    · rw [e]
      omega
    · have z := weight_mem m
      omega
def toV : Value → V
  | .none => .non
  | .bool b => .bl b
  | .int i _ => .int i
  | .str x _ => .str x
  | .bytes b _ => .byt b
  | .ref a => .ref a
  | _ => .non
/-- a value of the arguments, its objects among A -/
def OkU (A : List Addr) : Value → Prop
  | .none => True
  | .bool _ => True
  | .int _ _ => True
  | .str _ _ => True
  | .bytes _ _ => True
  | .ref a => a ∈ A
  | _ => False
theorem OkU.mono {A B : List Addr} (h : ∀ a ∈ A, a ∈ B) : ∀ {u : Value}, OkU A u → OkU B u := fun {u} x => by
  cases u with
  | ref a => exact h a x
  | none => trivial
  | bool b => trivial
  | int i t => trivial
  | str s t => trivial
  | bytes b t => trivial
  | _ => exact False.elim x
theorem relV_toV {A : List Addr} {u : Value} (x : OkU A u) : RelV (toV u) u := by
  cases u with
  | ref a => rfl
  | none => rfl
  | bool b => rfl
  | int i t => exact ⟨t, rfl⟩
  | str s t => exact ⟨t, rfl⟩
  | bytes b t => exact ⟨t, rfl⟩
  | _ => exact False.elim x
theorem vals_toV {A : List Addr} : ∀ {vs : List Value}, (∀ u ∈ vs, OkU A u) → Vals (vs.map toV) vs
  | [], _ => .nil
  | u :: r, h => .cons (relV_toV (h u (List.mem_cons_self ..))) (vals_toV fun x hx => h x (List.mem_cons_of_mem _ hx))
/-- an object of the arguments -/
def ArgOb (h : Heap) (A : List Addr) (a : Addr) : Prop := ∃ vs : List Value, vs.length ≤ sizeLine ∧ (∀ u ∈ vs, OkU A u) ∧
  (h.get? a = some { cls := .type "list", data := .seq vs.toArray } ∨ h.get? a = some { cls := .type "tuple", data := .seq vs.toArray })
theorem ArgOb.mono {h : Heap} {A B : List Addr} {a : Addr} (k : ∀ a ∈ A, a ∈ B) (x : ArgOb h A a) : ArgOb h B a := by
  obtain ⟨vs, h1, h2, h3⟩ := x
  exact ⟨vs, h1, fun u hu => (h2 u hu).mono k, h3⟩
theorem wellAll_len {P : Params} {h : Heap} : ∀ {vs : List Value} {ds : List WData}, WellAll P h vs ds → vs.length = ds.length
  | _, _, .nil => rfl
  | _, _, .cons _ b => by
    show _ + 1 = _ + 1
    rw [wellAll_len b]
theorem well_list {P : Params} {h : Heap} {v : Value} {ds : List WData} (x : Well P h v (.list ds)) : ∃ (a : Addr) (vs : List Value), v = .ref a ∧ h.get? a = some { cls := .type "list", data := .seq vs.toArray } ∧ WellAll P h vs ds := by
  cases x with
  | list ho hall => exact ⟨_, _, rfl, ho, hall⟩
theorem well_tuple {P : Params} {h : Heap} {v : Value} {ds : List WData} (x : Well P h v (.tuple ds)) : ∃ (a : Addr) (vs : List Value), v = .ref a ∧ h.get? a = some { cls := .type "tuple", data := .seq vs.toArray } ∧ WellAll P h vs ds := by
  cases x with
  | tuple ho hall => exact ⟨_, _, rfl, ho, hall⟩
theorem well_cons {P : Params} {h : Heap} {us : List Value} {d : WData} {ds : List WData} (x : WellAll P h us (d :: ds)) : ∃ (v : Value) (vs : List Value), us = v :: vs ∧ Well P h v d ∧ WellAll P h vs ds := by
  cases x with
  | cons a b => exact ⟨_, _, rfl, a, b⟩
theorem line_of {n : Nat} (h : n ≤ 1048576) : n ≤ sizeLine := Nat.le_trans h (by decide)
section
variable {P : Params} {h : Heap}
mutual
theorem area_one : ∀ (d : WData) (v : Value), Well P h v d → plW d = true → d.weight ≤ 1048576 → ∃ A : List Addr, OkU A v ∧ ∀ a ∈ A, ArgOb h A a
  | .none, _, x, _, _ => by
    cases x
    exact ⟨[], trivial, fun a m => absurd m (by simp)⟩
  | .bool b, _, x, _, _ => by
    cases x
    exact ⟨[], trivial, fun a m => absurd m (by simp)⟩
  | .int i, _, x, _, _ => by
    cases x
    exact ⟨[], trivial, fun a m => absurd m (by simp)⟩
  | .str s, _, x, _, _ => by
    cases x
    exact ⟨[], trivial, fun a m => absurd m (by simp)⟩
  | .bytes b, _, x, _, _ => by
    cases x
    exact ⟨[], trivial, fun a m => absurd m (by simp)⟩
  | .list ds, _, x, p, z => by
    obtain ⟨a, vs, rfl, ho, hall⟩ := well_list x
    have z2 : WData.weightAll ds ≤ 1048576 := z
    obtain ⟨A, h1, h2⟩ := area_all ds _ hall p fun d hd => Nat.le_trans (weight_mem hd) z2
    have k : ∀ b ∈ A, b ∈ a :: A := fun b hb => List.mem_cons_of_mem _ hb
    refine ⟨a :: A, List.mem_cons_self .., fun b hb => ?_⟩
    rcases List.mem_cons.mp hb with e | m
    · rw [e]
      exact ⟨vs, line_of (by rw [wellAll_len hall]; exact Nat.le_trans (PySem.W.length_le_weightAllW ds) z2), fun u hu => (h1 u hu).mono k, .inl ho⟩
    · exact (h2 b m).mono k
  | .tuple ds, _, x, p, z => by
    obtain ⟨a, vs, rfl, ho, hall⟩ := well_tuple x
    have z2 : WData.weightAll ds ≤ 1048576 := z
    obtain ⟨A, h1, h2⟩ := area_all ds _ hall p fun d hd => Nat.le_trans (weight_mem hd) z2
    have k : ∀ b ∈ A, b ∈ a :: A := fun b hb => List.mem_cons_of_mem _ hb
    refine ⟨a :: A, List.mem_cons_self .., fun b hb => ?_⟩
    rcases List.mem_cons.mp hb with e | m
    · rw [e]
      exact ⟨vs, line_of (by rw [wellAll_len hall]; exact Nat.le_trans (PySem.W.length_le_weightAllW ds) z2), fun u hu => (h1 u hu).mono k, .inr ho⟩
    · exact (h2 b m).mono k
  | .float _, _, _, p, _ => Bool.noConfusion (show false = true from p)
  | .dict _, _, _, p, _ => Bool.noConfusion (show false = true from p)
  | .bytearray _, _, _, p, _ => Bool.noConfusion (show false = true from p)
  | .set _, _, _, p, _ => Bool.noConfusion (show false = true from p)
  | .frozenset _, _, _, p, _ => Bool.noConfusion (show false = true from p)
  | .obj _ _, _, _, p, _ => Bool.noConfusion (show false = true from p)
theorem area_all : ∀ (ds : List WData) (vs : List Value), WellAll P h vs ds → plWs ds = true → (∀ d ∈ ds, d.weight ≤ 1048576) → ∃ A : List Addr, (∀ u ∈ vs, OkU A u) ∧ ∀ a ∈ A, ArgOb h A a
  | [], _, x, _, _ => by
    cases x
    exact ⟨[], fun u m => absurd m (by simp), fun a m => absurd m (by simp)⟩
  | d :: ds, _, x, p, z => by
    obtain ⟨v, vs, rfl, x1, x2⟩ := well_cons x
    have q : plW d = true ∧ plWs ds = true := Bool.and_eq_true_iff.mp p
    obtain ⟨A, a1, a2⟩ := area_one d v x1 q.1 (z d (List.mem_cons_self ..))
    obtain ⟨B, b1, b2⟩ := area_all ds vs x2 q.2 fun e he => z e (List.mem_cons_of_mem _ he)
    have kA : ∀ b ∈ A, b ∈ A ++ B := fun b hb => List.mem_append.mpr (.inl hb)
    have kB : ∀ b ∈ B, b ∈ A ++ B := fun b hb => List.mem_append.mpr (.inr hb)
    refine ⟨A ++ B, fun u hu => ?_, fun b hb => ?_⟩
    · rcases List.mem_cons.mp hu with e | m
      · rw [e]
        exact a1.mono kA
      · exact (b1 u m).mono kB
    · rcases List.mem_append.mp hb with m | m
      · exact (a2 b m).mono kA
      · exact (b2 b m).mono kB
end
end
/-- what is tracked of an argument's object -/
def hoOf (o : Obj) : Option HO := match o.data with
  | .seq vs _ => if (o.cls == Value.type "list") = true then some (.frz o (.lst (vs.toList.map toV))) else some (.frz o (.tup (vs.toList.map toV)))
  | _ => none
def argH (K : PySem.W.Frag) (h : Heap) (A : List Addr) : Hp := fun b => if b ∈ A then (if (K.lookup b).isNone = true then (h.get? b).bind hoOf else none) else none
/-- nothing is tracked but what is known to the object -/
def OnlyF (H : Hp) : Prop := ∀ b, H b = none ∨ ∃ o u, H b = some (.frz o u)
theorem hoOf_lst (vs : List Value) : hoOf { cls := .type "list", data := .seq vs.toArray } = some (.frz { cls := .type "list", data := .seq vs.toArray } (.lst (vs.map toV))) := by
  show (if (Value.type "list" == Value.type "list") = true then some (HO.frz { cls := .type "list", data := .seq vs.toArray } (.lst (vs.toArray.toList.map toV))) else some (HO.frz { cls := .type "list", data := .seq vs.toArray } (.tup (vs.toArray.toList.map toV)))) = _
  rw [if_pos (beq_self_eq_true _)]
theorem hoOf_tup (vs : List Value) : hoOf { cls := .type "tuple", data := .seq vs.toArray } = some (.frz { cls := .type "tuple", data := .seq vs.toArray } (.tup (vs.map toV))) := by
  show (if (Value.type "tuple" == Value.type "list") = true then some (HO.frz { cls := .type "tuple", data := .seq vs.toArray } (.lst (vs.toArray.toList.map toV))) else some (HO.frz { cls := .type "tuple", data := .seq vs.toArray } (.tup (vs.toArray.toList.map toV)))) = _
  rw [if_neg (by decide)]
section
variable {P : Program} {w : World} {K : PySem.W.Frag} {h : Heap} {A : List Addr}
theorem argH_at {b : Addr} {o : Obj} (hb : b ∈ A) (hk : K.lookup b = none) (e : h.get? b = some o) : argH K h A b = hoOf o := by
  unfold argH
  rw [if_pos hb, hk, if_pos (show (none : Option Obj).isNone = true from rfl), e] <;> rfl
theorem of_argH {b : Addr} {u : HO} (q : argH K h A b = some u) : b ∈ A ∧ K.lookup b = none := by
  unfold argH at q
  by_cases hb : b ∈ A
  · rw [if_pos hb] at q
    cases hk : K.lookup b with
    | none => exact ⟨hb, rfl⟩
    | some o =>
      rw [hk, if_neg (by simp)] at q
      cases q
  · rw [if_neg hb] at q
    cases q
/-- what stands tracked -/
theorem argH_is (ar : ∀ a ∈ A, ArgOb h A a) {b : Addr} {u : HO} (q : argH K h A b = some u) : K.lookup b = none ∧ ∃ vs : List Value, vs.length ≤ sizeLine ∧ (∀ u ∈ vs, OkU A u) ∧
    ((h.get? b = some { cls := .type "list", data := .seq vs.toArray } ∧ u = .frz { cls := .type "list", data := .seq vs.toArray } (.lst (vs.map toV))) ∨
     (h.get? b = some { cls := .type "tuple", data := .seq vs.toArray } ∧ u = .frz { cls := .type "tuple", data := .seq vs.toArray } (.tup (vs.map toV)))) := by
  obtain ⟨hb, hk⟩ := of_argH q
  obtain ⟨vs, h1, h2, h3⟩ := ar b hb
  refine ⟨hk, vs, h1, h2, ?_⟩
  rcases h3 with e | e
  · rw [argH_at hb hk e, hoOf_lst] at q
    exact .inl ⟨e, (Option.some.inj q).symm⟩
  · rw [argH_at hb hk e, hoOf_tup] at q
    exact .inr ⟨e, (Option.some.inj q).symm⟩
theorem argH_only (ar : ∀ a ∈ A, ArgOb h A a) : OnlyF (argH K h A) := fun b => by
  cases q : argH K h A b with
  | none => exact .inl rfl
  | some u =>
    obtain ⟨_, vs, _, _, ⟨_, e⟩ | ⟨_, e⟩⟩ := argH_is ar q
    · exact .inr ⟨_, _, by rw [e]⟩
    · exact .inr ⟨_, _, by rw [e]⟩
theorem argH_ok (ar : ∀ a ∈ A, ArgOb h A a) : HOk P w (argH K h A) h := fun b u q => by
  obtain ⟨_, vs, h1, h2, ⟨e, rfl⟩ | ⟨e, rfl⟩⟩ := argH_is ar q
  · exact ⟨e, by rw [List.length_map]; exact h1, vs, _, vals_toV h2, e⟩
  · exact ⟨e, by rw [List.length_map]; exact h1, vs, vals_toV h2, _, e, rfl, _, rfl⟩
theorem seq_inj {c c' : Value} {vs us : List Value} (e : (some { cls := c, data := .seq vs.toArray } : Option Obj) = some { cls := c', data := .seq us.toArray }) : c = c' ∧ vs = us := by
  have e1 := Option.some.inj e
  have e2 : c = c' := congrArg Obj.cls e1
  have e3 : Data.seq vs.toArray = Data.seq us.toArray := congrArg Obj.data e1
  injection e3 with e4
  refine ⟨e2, ?_⟩
  have e5 := congrArg Array.toList e4
  simpa using e5
/-- a list argument -/
theorem argL (KX : K.In h) (ar : ∀ a ∈ A, ArgOb h A a) {a : Addr} {vs : List Value} (ha : a ∈ A) (e : h.get? a = some { cls := .type "list", data := .seq vs.toArray }) : (∀ u ∈ vs, OkU A u) ∧ SqL K (argH K h A) a (vs.map toV) := by
  obtain ⟨us, h1, h2, h3⟩ := ar a ha
  have hu : us = vs := by
    rcases h3 with q | q
    · rw [e] at q
      exact (seq_inj q).2.symm
    · rw [e] at q
      exact absurd (Value.type.inj (seq_inj q).1) (by decide)
  subst hu
  refine ⟨h2, ?_⟩
  cases hk : K.lookup a with
  | none => exact .inl (.inr ⟨_, by rw [argH_at ha hk e, hoOf_lst]⟩)
  | some o =>
    have e2 := KX a o hk
    rw [e] at e2
    obtain rfl := Option.some.inj e2
    exact .inr ⟨_, us.toArray, _, hk, rfl, rfl, rfl, by rw [List.size_toArray]; exact h1, by simpa using vals_toV h2⟩
theorem argT (KX : K.In h) (ar : ∀ a ∈ A, ArgOb h A a) {a : Addr} {vs : List Value} (ha : a ∈ A) (e : h.get? a = some { cls := .type "tuple", data := .seq vs.toArray }) : (∀ u ∈ vs, OkU A u) ∧ SqT K (argH K h A) a (vs.map toV) := by
  obtain ⟨us, h1, h2, h3⟩ := ar a ha
  have hu : us = vs := by
    rcases h3 with q | q
    · rw [e] at q
      exact absurd (Value.type.inj (seq_inj q).1) (by decide)
    · rw [e] at q
      exact (seq_inj q).2.symm
  subst hu
  refine ⟨h2, ?_⟩
  cases hk : K.lookup a with
  | none => exact .inl (.inr ⟨_, by rw [argH_at ha hk e, hoOf_tup]⟩)
  | some o =>
    have e2 := KX a o hk
    rw [e] at e2
    obtain rfl := Option.some.inj e2
    exact .inr ⟨_, us.toArray, _, hk, rfl, rfl, by rw [List.size_toArray]; exact h1, by simpa using vals_toV h2⟩
mutual
theorem dw_one {Pm : Params} (KX : K.In h) (ar : ∀ a ∈ A, ArgOb h A a) : ∀ (d : WData) (v : Value), Well Pm h v d → plW d = true → OkU A v → Dw K (argH K h A) (toV v) d
  | .none, _, x, _, _ => by
    cases x
    exact .non
  | .bool b, _, x, _, _ => by
    cases x
    exact .bl b
  | .int i, _, x, _, _ => by
    cases x
    exact .int i
  | .str s, _, x, _, _ => by
    cases x
    exact .str s
  | .bytes b, _, x, _, _ => by
    cases x
    have z := Dw.byt (K := K) (H := argH K h A) b.toArray
    exact z
  | .list ds, _, x, p, hu => by
    obtain ⟨a, vs, rfl, ho, hall⟩ := well_list x
    obtain ⟨h2, hs⟩ := argL KX ar hu ho
    exact .lst hs (dw_all KX ar ds _ hall p h2)
  | .tuple ds, _, x, p, hu => by
    obtain ⟨a, vs, rfl, ho, hall⟩ := well_tuple x
    obtain ⟨h2, hs⟩ := argT KX ar hu ho
    exact .tup hs (dw_all KX ar ds _ hall p h2)
  | .float _, _, _, p, _ => Bool.noConfusion (show false = true from p)
  | .dict _, _, _, p, _ => Bool.noConfusion (show false = true from p)
  | .bytearray _, _, _, p, _ => Bool.noConfusion (show false = true from p)
  | .set _, _, _, p, _ => Bool.noConfusion (show false = true from p)
  | .frozenset _, _, _, p, _ => Bool.noConfusion (show false = true from p)
  | .obj _ _, _, _, p, _ => Bool.noConfusion (show false = true from p)
theorem dw_all {Pm : Params} (KX : K.In h) (ar : ∀ a ∈ A, ArgOb h A a) : ∀ (ds : List WData) (vs : List Value), WellAll Pm h vs ds → plWs ds = true → (∀ u ∈ vs, OkU A u) → DwAll K (argH K h A) (vs.map toV) ds
  | [], _, x, _, _ => by
    cases x
    exact .nil
  | d :: ds, _, x, p, hu => by
    obtain ⟨v, vs, rfl, x1, x2⟩ := well_cons x
    have q : plW d = true ∧ plWs ds = true := Bool.and_eq_true_iff.mp p
    exact .cons (dw_one KX ar d v x1 q.1 (hu _ (List.mem_cons_self ..))) (dw_all KX ar ds vs x2 q.2 fun u m => hu u (List.mem_cons_of_mem _ m))
end
end
theorem spec_call {P : Program} {w : World} {K : PySem.W.Frag} {mg mb : Str → Option Value} {CX : CXT} {k : Nat} {fa : Addr} {fd : FuncData} {ps : List Str} {sp : Sp} {s₁ : Shared} {vals : List Value} {ds : List WData} {R : PySem.W.WRecords} {cl : Str → Option Addr} {d0 : WData}
    (KX : K.In s₁.heap) (hns : s₁.heap.Ns mainGlobals mg) (hb : s₁.heap.Ns builtinsNs mb) (hbb : ∀ x : Str, x ≠ "__name__" → mb x = bootBuiltins x) (hlim : s₁.heap.NoLimit) (hg : s₁.gens = #[])
    (hwl : WellAll w.params s₁.heap vals ds) (hpl : plWs ds = true) (hwt : ∀ d ∈ ds, d.weight ≤ 1048576) (hr : Room k callerA)
    (F : ∀ base : Heap, K.In base → base.Ns mainGlobals mg → FnOk P w K mg base CX k fa fd ps sp) (hbind : ∀ (s : Shared) (us : List Value), us.length = ps.length → BindsTo s fd ⟨us, []⟩ (ps.zip us)) (hlen : ds.length = ps.length)
    (hsp : ∀ (H : Hp) (xs : List V), OnlyF H → DwAll K H xs ds → sp xs H (fun v H' => Dw K H' v d0) fun _ _ _ => False)
    (hCX : ∀ H e s', CX [] H s₁ (fun _ _ _ => False) e s' → False) :
    codeAny (model P w) callerA (.call (.ref fa) ⟨vals, []⟩) (fun r s' => ∃ u as, r = .ok (.ret u) ∧ ReadsW R cl s'.heap u d0 as ∧ OldK s₁.heap s'.heap ∧ s'.os = s₁.os ∧ AllBare s'.gens) s₁ := by
  obtain ⟨A, ho, ar⟩ := area_all ds vals hwl hpl hwt
  have hO : OnlyF (argH K s₁.heap A) := argH_only ar
  have hok : HOk P w (argH K s₁.heap A) s₁.heap := argH_ok ar
  have hS := dw_all KX ar ds vals hwl hpl ho
  have hV := vals_toV ho
  have hK : ∀ b u, argH K s₁.heap A b = some u → K.lookup b = none := fun b u q => (argH_is ar q).1
  have noA : ∀ {b : Addr} {o : Obj} {es : Array DictEntry} {ep : Nat}, s₁.heap.get? b = some o → o.data = .dict es ep → argH K s₁.heap A b = none := fun {b o es ep} e d => by
    cases q : argH K s₁.heap A b with
    | none => rfl
    | some u =>
      obtain ⟨_, vs, _, _, ⟨e2, _⟩ | ⟨e2, _⟩⟩ := argH_is ar q
      · rw [e2] at e
        cases e
        have d' : Data.seq vs.toArray _ = Data.dict es ep := d
        cases d'
      · rw [e2] at e
        cases e
        have d' : Data.seq vs.toArray _ = Data.dict es ep := d
        cases d'
  generalize argH K s₁.heap A = H at hO hok hS hK noA
  have base_of : ∀ {b : Addr} {o : Obj}, s₁.heap.get? b = some o → H b = none → (hidT s₁.heap H).get? b = some o := fun e n => hidT_get e n
  have nsK : ∀ {b : Addr} {m : Str → Option Value}, s₁.heap.Ns b m → (hidT s₁.heap H).Ns b m := fun {b m} ⟨o, es, ep, e, d, r⟩ => ⟨o, es, ep, base_of e (noA e d), d, r⟩
  have nK : ∀ b o, K.lookup b = some o → H b = none := fun b o e => by
    cases q : H b with
    | none => rfl
    | some u =>
      rw [hK b u q] at e
      cases e
  have hKb : K.In (hidT s₁.heap H) := fun b o e => base_of (KX b o e) (nK b o e)
  have hM : Mod K mg (hidT s₁.heap H) := ⟨hKb, nsK hns, ⟨mb, nsK hb, hbb⟩, let ⟨mc, h1, h2⟩ := hlim; ⟨mc, nsK h1, h2⟩⟩
  have e0 : Env0 P w K mg (hidT s₁.heap H) callerA [] s₁ H := ⟨rfl, hM, fun b o e => of_hidT e, Nat.le_of_eq (hidT_size _ _), trivial, fun b hb => absurd (show b ∈ ([] : List Addr) from hb) (by simp), hok, .of_eq hg⟩
  have hl : vals.length = ps.length := by rw [wellAll_len hwl]; exact hlen
  refine codeAny_mono ((F _ hKb (nsK hns)).run callerA [] s₁ H ⟨vals, []⟩ vals (vals.map toV) _ _ hr e0 (hbind s₁ vals hl) hV (hsp H _ hO hS)) fun r s' x => ?_
  cases r with
  | error e => exact (hCX H e s' x).elim
  | ok fl =>
    cases fl with
    | next => exact False.elim x
    | brk => exact False.elim x
    | cont => exact False.elim x
    | ret u =>
      obtain ⟨v, H', os, bare, un, hok', r', q⟩ := x
      have kept : ∀ b o, s₁.heap.get? b = some o → s'.heap.get? b = some o := fun b o e => by
        cases q2 : H b with
        | none => exact un.keep b o e q2 (by intro z; exact absurd (show b ∈ ([] : List Addr) from z) (by simp)) (by simp)
        | some u2 =>
          rcases hO b with z | ⟨ob, u3, z⟩
          · rw [q2] at z
            cases z
          · have z2 := un.frzs b ob _ z
            obtain ⟨e1, _⟩ := hok b _ z
            obtain ⟨e2, _⟩ := hok' b _ z2
            rw [e] at e1
            cases e1
            exact e2
      have KX' : K.In s'.heap := fun b o e => kept b o (KX b o e)
      obtain ⟨as, hrd⟩ := Dw.reads (R := R) (cl := cl) hok' KX' d0 v u q r'
      exact ⟨u, as, rfl, hrd, OldK.of_keep kept, os, bare⟩
theorem layable_weight {ds : List WData} (h : WData.layableAll ds = true) : ∀ d ∈ ds, d.weight ≤ 1048576 := fun d hd =>
  (PySem.W.layableW_iff.mp (List.all_eq_true.mp h d hd)).2.2
theorem encAll_len : ∀ (cs : List Codec) (a : Codec.denoteAll cs), (Codec.encAll cs a).length = cs.length
  | [], _ => rfl
  | c :: cs, a => by
    show (Codec.encAll cs a.2).length + 1 = cs.length + 1
    rw [encAll_len cs a.2]
/-- the goal that k_headS leaves (case hc), from the promise of the row's def: whatever the arguments that the codecs let and the row asks for, the def gives what stands for enc (f ..) -/
theorem walk_spec {r : OpenSpec} {k : Nat} {q : Program} {loose : List Str} {XP : (Str → Option Value) → Heap → Prop} {YP : World → Heap → Prop} {d : DefRec} {K : Params → PySem.W.Frag} {CX : World → CXT} {ps : List Str} {sp : World → Sp}
    (hwell : r.wellSaid = true) (hdf : d.params.defaults = []) (hlen : r.args.length = ps.length) (hr : Room k callerA)
    (hY : ∀ (w : World) (h : Heap), YP w h → (K w.params).In h)
    (F : ∀ (w : World) (mg : Str → Option Value) (fa : Addr) (h : Heap), YP w h → (K w.params).In h → h.Ns mainGlobals mg → mg d.name = some (.ref fa) →
      ∃ fd : FuncData, (∀ (s : Shared) (us : List Value), us.length = ps.length → BindsTo s fd ⟨us, []⟩ (ps.zip us)) ∧
        ∀ base : Heap, (K w.params).In base → base.Ns mainGlobals mg → FnOk r.prog w (K w.params) mg base (CX w) k fa fd ps (sp w))
    (hsp : ∀ (w : World) (H : Hp) (xs : List V) (a : Codec.denoteAll r.args), OnlyF H → Codec.withinAll r.args a = true → Codec.app r.args r.asked a = true → DwAll (K w.params) H xs (Codec.encAll r.args a) →
      sp w xs H (fun v H' => Dw (K w.params) H' v (r.ret.enc (Codec.app r.args r.f a))) fun _ _ _ => False)
    (hCX : ∀ (w : World) (H : Hp) (s : Shared) (e : Value) (s' : Shared), CX w [] H s (fun _ _ _ => False) e s' → False) :
    PySem.W.WalkOS q loose XP YP r d [] (fun f vs => PySem.call f vs) := by
  intro w s_0 s₁ mg mb G Y fa o pm cd doc dV kV ho hd hcd hD hmg hg args vals as hpre hlay hrd hwl hlo
  obtain ⟨a, e1, e2⟩ := PySem.W.os_pre_some hpre
  obtain ⟨e3, hwi⟩ := Codec.encAll_of_decAll r.args args a e1
  subst e3
  have KX := hY w _ Y
  obtain ⟨fd, hb, hF⟩ := F w mg fa _ Y KX G.T.g hmg
  refine PySem.W.enter_call (codeAny_mono (spec_call (R := []) (cl := classAt s_0.heap) (d0 := r.ret.enc (Codec.app r.args r.f a)) KX G.T.g G.T.b G.T.builtins G.T.nolimit hg hwl (pl_encAll _ _) (layable_weight hlay) hr hF hb (by rw [encAll_len]; exact hlen)
    (fun H xs hO hS => hsp w H xs a hO hwi e2 hS) fun H e s' => hCX w H s₁ e s') fun r' s' hq => ?_)
  obtain ⟨u, as', rfl, h1, h2, h3, h4⟩ := hq
  exact ⟨.inl ⟨u, _, as', rfl, fun _ => rfl, h1, (OpenSpec.post_iff hwell hwi _ _).mpr rfl, fun z => Bool.noConfusion (show false = true from z)⟩, h2, h3, h4⟩
/-- the same where the promise hangs on the written part alone -/
theorem walk_specK {r : OpenSpec} {k : Nat} {q : Program} {loose : List Str} {XP : (Str → Option Value) → Heap → Prop} {YP : World → Heap → Prop} {d : DefRec} {K : Params → PySem.W.Frag} {CX : CXT} {ps : List Str} {sp : PySem.W.Frag → Sp}
    (hwell : r.wellSaid = true) (hdf : d.params.defaults = []) (hlen : r.args.length = ps.length) (hr : Room k callerA)
    (hY : ∀ (w : World) (h : Heap), YP w h → (K w.params).In h)
    (F : ∀ (w : World) (mg : Str → Option Value) (fa : Addr) (h : Heap), YP w h → (K w.params).In h → h.Ns mainGlobals mg → mg d.name = some (.ref fa) →
      ∃ fd : FuncData, (∀ (s : Shared) (us : List Value), us.length = ps.length → BindsTo s fd ⟨us, []⟩ (ps.zip us)) ∧
        ∀ base : Heap, (K w.params).In base → base.Ns mainGlobals mg → FnOk r.prog w (K w.params) mg base CX k fa fd ps (sp (K w.params)))
    (hsp : ∀ (K : PySem.W.Frag) (H : Hp) (xs : List V) (a : Codec.denoteAll r.args), OnlyF H → Codec.withinAll r.args a = true → Codec.app r.args r.asked a = true → DwAll K H xs (Codec.encAll r.args a) →
      sp K xs H (fun v H' => Dw K H' v (r.ret.enc (Codec.app r.args r.f a))) fun _ _ _ => False)
    (hCX : ∀ (H : Hp) (s : Shared) (e : Value) (s' : Shared), CX [] H s (fun _ _ _ => False) e s' → False) :
    PySem.W.WalkOS q loose XP YP r d [] (fun f vs => PySem.call f vs) :=
  walk_spec (K := K) (CX := fun _ => CX) (sp := fun w => sp (K w.params)) hwell hdf hlen hr hY F (fun w H xs a h1 h2 h3 h4 => hsp (K w.params) H xs a h1 h2 h3 h4) fun _ H s e s' => hCX H s e s'
end L2
end
end
section
set_option Elab.async false
set_option linter.all false
set_option maxRecDepth 100000
namespace SxR
open PySem
theorem nolen_lri : typeLookup (.type "list_reverseiterator") "__len__" = pure none := by rw [typeLookup_type, builtinLookup_eq_fast]; kernel_rfl
theorem hint_lri : typeLookup (.type "list_reverseiterator") "__length_hint__" = pure (some (.builtin "list_reverseiterator.__length_hint__")) := by rw [typeLookup_type, builtinLookup_eq_fast]; kernel_rfl
section
variable {prog : Program} {w : World} {A : Around} {E : Value → Shared → Prop} {s : Shared}
theorem extend_rev {R : Result → Shared → Prop} {I l : Addr} {items : Array Value} (hh : A.handled = none) (hit : s.heap.IsRevIter I l ((items.size : Int) - 1)) (hl : s.heap.IsList l items) (hlI : l ≠ I) (hsz : items.size ≤ sizeLine)
    (S : Addr) (res : Value) (c0 : Nat) (hSI : S ≠ I) (hSl : S ≠ l) (hS : s.heap.get? S = some { cls := .type "list", data := .seq #[] c0 })
    (hR : ∀ h' tk acc' c', (∀ b o, b ≠ S → b ≠ I → s.heap.get? b = some o → h'.get? b = some o) → h'.get? S = some { cls := .type "list", dict := none, data := .seq acc' c', slots := #[] } →
      ItemsOf (fun i v => items[items.size - 1 - i]? = some v) acc' items.size → R (.ok (.ret res)) { s with heap := h', toks := tk }) :
    wpAny (model prog w) A.in1 (Builtin.List.listExtendWith (.ref S) (.ref I) res)
      (fun fin s' => match fin with | .done f => R (.ok f) s' | .again c' => c'.quiet = true ∧ codeAny (model prog w) A c' R s') (fun e s' => R (.error e) s') s := by
  have W := (Walks.listRev (prog := prog) (w := w) (A := A.in1) hh I l hlI items).toS
  have hSf : S ∉ [I, l] := fun hm => by
    rcases List.mem_cons.mp hm with e | hm
    · exact hSI e
    · exact hSl (List.mem_singleton.mp hm)
  have h1 : Builtin.List.listSameRef (.ref S) (.ref I) = false := by simp [Builtin.List.listSameRef, hSI]
  have st0 : (0 : Nat) ≤ items.size ∧ s.heap.IsRevIter I l ((items.size : Int) - 1 - ((0 : Nat) : Int)) ∧ s.heap.IsList l items := by
    refine ⟨Nat.zero_le _, ?_, hl⟩
    have e : (items.size : Int) - 1 - ((0 : Nat) : Int) = (items.size : Int) - 1 := by omega
    rw [e]
    exact hit
  unfold Builtin.List.listExtendWith
  refine wpAny_bind (wpAny_typeOf hit.typeIs ?_)
  rw [if_neg (by rw [h1]; decide)]
  refine wpAny_bind (wpAny_pyIter_revIter hit ?_)
  refine wpAny_bind (wpAny_holding ?_)
  unfold Builtin.List.listLengthHint
  refine wpAny_bind (wpAny_specialOf hit.typeIs nolen_lri ?_)
  show wpAny _ A.in1 (specialOf (Value.ref I) (Str.ofString "__length_hint__") >>= _) _ _ _
  refine wpAny_bind (wpAny_specialOf hit.typeIs hint_lri ?_)
  (generalize hid : ("list_reverseiterator.__length_hint__" : String) = id0; (fail_if_success (clear hid id0)); wp_delta; rw [show splitId id0 = some ("list_reverseiterator", "__length_hint__") from by subst hid; decide +kernel]; subst hid)
  refine wpAny_bind (wpAny_isInstance (b := true) hit.typeIs (by rw [isSubtype_type]; kernel_rfl) ?_)
  refine wpAny_pure ?_
  rw [if_neg (by decide)]
  refine wpAny_pure ⟨plainId_quiet F.plain_extend_loop _, codeAny_extend_loopS W hsz S hSf res items.size 0 _ #[] c0 (by omega) (Nat.zero_le _) st0 hS (ItemsOf.nil _) fun s' acc' c' hm hS' hacc => ?_⟩
  rw [Moved.eq_with hm]
  refine hR s'.heap s'.toks acc' c' (fun b o hb hbI e => hm.heap b o (fun hmem => ?_) e) hS' hacc
  rcases List.mem_cons.mp hmem with e' | hmem
  · exact hb e'
  · exact hbI (List.mem_singleton.mp hmem)
theorem list_init_rev {R : Result → Shared → Prop} {I l : Addr} {items : Array Value} (hh : A.handled = none) (hit : s.heap.IsRevIter I l ((items.size : Int) - 1)) (hl : s.heap.IsList l items) (hlI : l ≠ I) (hsz : items.size ≤ sizeLine)
    (S : Addr) (hSI : S ≠ I) (hSl : S ≠ l) (hS : s.heap.get? S = some { cls := .type "list", data := .seq #[] })
    (hR : ∀ h' tk acc' c', (∀ b o, b ≠ S → b ≠ I → s.heap.get? b = some o → h'.get? b = some o) → h'.get? S = some { cls := .type "list", dict := none, data := .seq acc' c', slots := #[] } →
      ItemsOf (fun i v => items[items.size - 1 - i]? = some v) acc' items.size → R (.ok (.ret .none)) { s with heap := h', toks := tk }) :
    wpAny (model prog w) A.in1 (Builtin.«list.__init__» ⟨[.ref S, .ref I], []⟩)
      (fun fin s' => match fin with | .done f => R (.ok f) s' | .again c' => c'.quiet = true ∧ codeAny (model prog w) A c' R s') (fun e s' => R (.error e) s') s := by
  show wpAny _ _ (do let old ← Builtin.List.listItems (.ref S); Builtin.List.listUpdate (.ref S) (fun _ => #[]); letGo old.toList.reverse; Builtin.List.listExtendWith (.ref S) (.ref I) .none) _ _ s
  refine wpAny_bind ?_
  unfold Builtin.List.listItems
  refine wpAny_bind (wpAny_seqItems hS rfl (wpAny_pure ?_))
  show wpAny _ _ (updateSeq S (fun _ => #[]) >>= fun _ => letGo (#[] : Array Value).toList.reverse >>= fun _ => Builtin.List.listExtendWith (.ref S) (.ref I) .none) _ _ s
  refine wpAny_bind (wpAny_updateSeq hS rfl ?_)
  have hS2 := Heap.get?_update_self (Obj.mapSeq (fun _ => (#[] : Array Value))) hS rfl
  have oth : ∀ b o, b ≠ S → s.heap.get? b = some o → (s.heap.update S (Obj.mapSeq (fun _ => (#[] : Array Value)))).get? b = some o :=
    fun b o hb e => (Heap.get?_update_other _ _ (Ne.symm hb)).trans e
  refine wpAny_bind (wpAny_letGo ?_)
  refine extend_rev (s := { s with heap := s.heap.update S (Obj.mapSeq (fun _ => (#[] : Array Value))) }) hh (hit.at fun o e => oth I o (Ne.symm hSI) e) (hl.at fun o e => oth l o (Ne.symm hSl) e) hlI hsz S .none _ hSI hSl hS2 fun h' tk acc' c' hk hS' hacc => ?_
  exact hR h' tk acc' c' (fun b o hb hbI e => hk b o hb hbI (oth b o hb e)) hS' hacc
theorem call_list_rev {Q : Value → Shared → Prop} {I l : Addr} {items : Array Value} (hh : A.handled = none) (hit : s.heap.IsRevIter I l ((items.size : Int) - 1)) (hl : s.heap.IsList l items) (hlI : l ≠ I) (hsz : items.size ≤ sizeLine)
    (hQ : ∀ h' tk acc' c', (∀ b o, b ≠ I → s.heap.get? b = some o → h'.get? b = some o) →
      h'.get? s.heap.objs.size = some { cls := .type "list", dict := none, data := .seq acc' c', slots := #[] } → ItemsOf (fun i v => items[items.size - 1 - i]? = some v) acc' items.size → Q (.ref s.heap.objs.size) { s with heap := h', toks := tk }) :
    wpAny (model prog w) A (call (.type "list") [.ref I]) Q E s := by
  refine callType_codes (Q₁ := fun obj s₁ => obj = .ref s.heap.objs.size ∧ s₁ = { s with heap := s.heap.push { cls := .type "list", data := .seq #[] } }) F.called_list (F.typeCall_list_1 _) F.entry_list_init
    (code_list_new _ ⟨rfl, rfl⟩) fun obj s₁ h₁ => ?_
  obtain ⟨rfl, rfl⟩ := h₁
  have hS : (s.heap.push { cls := .type "list", data := .seq #[] }).get? s.heap.objs.size = some { cls := .type "list", data := .seq #[] } := Heap.get?_push_size _ rfl
  have hI : s.heap.objs.size ≠ I := by obtain ⟨o, e, _⟩ := hit; exact Nat.ne_of_gt (Heap.lt_size e)
  have hL : s.heap.objs.size ≠ l := by obtain ⟨o, e, _⟩ := hl; exact Nat.ne_of_gt (Heap.lt_size e)
  refine ⟨⟨_, hS, rfl⟩, F.args_list_init_2 _ _, list_init_rev (A := A.in1) (s := { s with heap := s.heap.push { cls := .type "list", data := .seq #[] } }) hh (hit.at fun o e => Heap.get?_push_of_some _ e) (hl.at fun o e => Heap.get?_push_of_some _ e) hlI hsz _ hI hL hS fun h' tk acc' c' hk hS' hacc => ?_⟩
  exact ⟨rfl, hQ h' tk acc' c' (fun b o hbI e => hk b o (Nat.ne_of_lt (Heap.lt_size e)) hbI (Heap.get?_push_of_some _ e)) hS' hacc⟩
end
end SxR
namespace L2
open PySem PySem.Spec PyProof.Rows
section
variable {X : Cx}
/-- << of a number of at most 1024 bits -/
def CShl (i j : Int) : Prop := 0 ≤ j ∧ j ≤ 1000000 ∧ i.natAbs < 2 ^ 1024
theorem op_shlB : OpR X (binaryOp .LShift) (rI CShl fun i j => .int (i * 2 ^ j.toNat)) := opI fun i j _ _ _ _ _ hc q => by
  have h1 := intBits_le (a := i) (k := 1024) hc.2.2
  have h2 := hc.2.1
  exact lshift_int hc.1 (by omega) q
/-- a call of a value: a def that the proof names there -/
def tCallV (X : Cx) (tf : TE) (t : TA) : TE := fun σ H Q => tf σ H fun x H1 => ∃ (f : Addr) (fd : FuncData) (ps : List Str) (sp : Sp) (k : Nat), x = .ref f ∧ FnOk X.prog X.w X.K X.mg X.base CX0 k f fd ps sp ∧ Room k X.A ∧
  PySem.W.keepIn X.K (.ref f) = true ∧ Binds X.K fd ps [] ∧ t σ H1 fun vs H2 => sp vs H2 Q E0
theorem pe_callV {fe e : Expr} {es : List Expr} {tf : TE} {t : TA} {pos : Pos} (hf : PE X fe tf) (ha : PA X (e :: es) t)
    (hc : eval (.Call fe (e :: es) [] pos) X.env = (do callWith pos (← eval fe X.env) [] (backTo pos (starEach (e :: es) X.env)) (backToKw pos (keywordEach [] X.env))) := by rfl)
    (he : starEach (e :: es) X.env = (false, eval e X.env) :: starEach es X.env := by rfl) (hpl : (backTo pos (starEach es X.env)).any (·.1) = false := by rfl) : PE X (.Call fe (e :: es) [] pos) (tCallV X tf t) := by
  intro pins s σ H Q I h
  refine Call_ (thn (hf pins s σ H _ I h) fun v s1 ⟨x, H1, I1, r1, f, fd, ps, sp, k, ex, F, hr, hk, hb, q⟩ => ?_) hc
  subst ex
  cases r1
  refine PySem.W.callWith_K (h₀ := X.base) I.ok.mod.kin hk (thn (ha pos pins s1 σ H1 _ I1 q) fun us s2 ⟨vs, H2, I2, r, q2⟩ => ⟨I2.kIn, ?_⟩) he hpl
  exact run_fn (dvs := []) (ds := []) F hr hb .nil pass0 I2 r (by rw [List.append_nil]; exact q2)
/-- list(reversed(e)) -/
def tListRev (K : PySem.W.Frag) (ta : TA) : TE := fun σ H Q => ta σ H fun vs H1 => ∃ a xs, vs = [.ref a] ∧ SqL K H1 a xs ∧ ∀ l, H1 l = none → Q (.ref l) (upd H1 l (.lst xs.reverse))
theorem vals_rev {xs : List V} {its : List Value} {acc : Array Value} (r : Vals xs its) (h : ItemsOf (fun i v => its.toArray[its.toArray.size - 1 - i]? = some v) acc its.toArray.size) : Vals xs.reverse acc.toList := by
  have e : acc.toList = its.reverse := by
    apply List.ext_getElem?
    intro i
    have hs : acc.size = its.length := h.1.trans (by simp)
    by_cases hi : i < its.length
    · obtain ⟨v, hv⟩ : ∃ v, acc[i]? = some v := ⟨_, Array.getElem?_eq_getElem (by omega)⟩
      have q := h.2 i v hv
      rw [List.getElem?_reverse hi]
      rw [Array.getElem?_toList, hv]
      simpa using q.symm
    · rw [List.getElem?_eq_none_iff.mpr (by simp; omega), List.getElem?_eq_none_iff.mpr (by simp; omega)]
  rw [e]
  exact r.reverse
theorem pe_listrev {e : Expr} {ta : TA} {p p2 pos pos2 : Pos} (hc : X.calm = true) (hg : Gl X "list") (hm : X.mg "list" = none) (hg2 : Gl X "reversed") (hm2 : X.mg "reversed" = none) (ha : PA X [e] ta)
    (hs : starEach [e] X.env = [(false, eval e X.env)] := by rfl)
    (hs2 : starEach [.Call (.Name "reversed" p2) [e] [] pos2] X.env = [(false, eval (.Call (.Name "reversed" p2) [e] [] pos2) X.env)] := by rfl) :
    PE X (.Call (.Name "list" p) [.Call (.Name "reversed" p2) [e] [] pos2] [] pos) (tListRev X.K ta) := by
  intro pins s σ H Q I h
  refine Call_ (ld_blt I hg hm PyProof.Rows.boot_list (PyProof.Rows.callWith_type1 ?_ hs2 rfl))
  rw [hs2]
  refine Calls.spliced_cons (Call_ (ld_blt I hg2 hm2 boot_reversed5 (PyProof.Rows.callWith_type1 (thn (ha pos2 pins s σ H _ I h) fun us s1 ⟨vs, H1, I1, r1, q1⟩ => ?_) hs rfl)))
  obtain ⟨a, xs, e, hq, q⟩ := q1
  subst e
  cases r1 with
  | cons r rr =>
    cases rr
    cases r
    obtain ⟨its, rv, p', hz⟩ := I1.list hq
    have hl := rv.length
    refine call_reversed_list p'.isList (Calls.spliced_nil ?_)
    have lta : a < s1.heap.objs.size := p'.lt
    have hne : a ≠ s1.heap.objs.size := Nat.ne_of_lt lta
    refine SxR.call_list_rev (items := its.toArray) (l := a) (s := { s1 with heap := s1.heap.push (revObj a ((its.toArray.size : Int) - 1)) }) (I.ok.hd hc) ⟨_, Heap.get?_push_size _ rfl, rfl, rfl⟩ (p'.isList.at fun o e => Heap.get?_push_of_some _ e) hne (by rw [List.size_toArray]; omega) fun h' tk acc' c' kp e hit => ?_
    have I2 : Inv X pins σ (upd H1 ((s1.heap.push (revObj a ((its.toArray.size : Int) - 1))).objs.size) (.lst xs.reverse)) { s1 with heap := h', toks := tk } := by
      refine I1.laid (fun b u q => kp b u (Nat.ne_of_lt (Heap.lt_size q)) (Heap.get?_push_of_some _ q)) (by rw [Heap.size_push]; exact Nat.le_succ _) ?_
      exact ⟨by rw [List.length_reverse]; exact hz, acc'.toList, c', vals_rev rv hit, e⟩
    exact ⟨.ref _, _, I2, rfl, q _ (I1.hok.fresh (by rw [Heap.size_push]; exact Nat.le_succ _))⟩
end
end L2
end
section
set_option Elab.async false
set_option linter.all false
set_option maxRecDepth 100000
namespace Sx
/-! ### bits of naturals -/
theorem xor_and_add : ∀ (n a b : Nat), a ≤ n → (a ^^^ b) + 2 * (a &&& b) = a + b
  | 0, a, b, h => by
    have e : a = 0 := by omega
    subst e
    simp
  | n + 1, a, b, h => by
    by_cases h0 : a = 0
    · subst h0; simp
    · have ih := xor_and_add n (a / 2) (b / 2) (by omega)
      have e1 : (a ^^^ b) / 2 = a / 2 ^^^ b / 2 := Nat.xor_div_two
      have e2 : (a &&& b) / 2 = a / 2 &&& b / 2 := Nat.and_div_two
      have m1 := @Nat.xor_mod_two_eq_one a b
      have m2 := @Nat.and_mod_two_eq_one a b
      rw [← e1, ← e2] at ih
      omega
theorem or_and_add : ∀ (n a b : Nat), a ≤ n → (a ||| b) + (a &&& b) = a + b
  | 0, a, b, h => by
    have e : a = 0 := by omega
    subst e
    simp
  | n + 1, a, b, h => by
    by_cases h0 : a = 0
    · subst h0; simp
    · have ih := or_and_add n (a / 2) (b / 2) (by omega)
      have e1 : (a ||| b) / 2 = a / 2 ||| b / 2 := Nat.or_div_two
      have e2 : (a &&& b) / 2 = a / 2 &&& b / 2 := Nat.and_div_two
      have m1 := @Nat.or_mod_two_eq_one a b
      have m2 := @Nat.and_mod_two_eq_one a b
      rw [← e1, ← e2] at ih
      omega
open PySem PyProof.Rows
theorem xor_nat (a b : Nat) : Builtin.bitXor (a : Int) (b : Int) = ((a ^^^ b : Nat) : Int) := by
  rw [bitXor_and, bitAnd_pp (Int.natCast_nonneg a) (Int.natCast_nonneg b)]
  have h := xor_and_add a a b (Nat.le_refl _)
  simp only [Int.toNat_natCast]
  omega
theorem or_nat (a b : Nat) : Builtin.bitOr (a : Int) (b : Int) = ((a ||| b : Nat) : Int) := by
  rw [bitOr_and, bitAnd_pp (Int.natCast_nonneg a) (Int.natCast_nonneg b)]
  have h := or_and_add a a b (Nat.le_refl _)
  simp only [Int.toNat_natCast]
  omega
end Sx
namespace L2
open PySem PySem.Spec PyProof.Rows
/-- a natural as a value -/
abbrev vn (n : Nat) : V := .int (n : Int)
def nvs (ns : List Nat) : List V := ns.map vn
theorem nvs_len (ns : List Nat) : (nvs ns).length = ns.length := List.length_map ..
theorem nvs_get {ns : List Nat} {j n : Nat} (h : ns[j]? = some n) : (nvs ns)[j]? = some (vn n) := by
  unfold nvs
  rw [List.getElem?_map, h] <;> rfl
theorem nvs_of {ns : List Nat} {j : Nat} {v : V} (h : (nvs ns)[j]? = some v) : ∃ n, ns[j]? = some n ∧ v = vn n := by
  unfold nvs at h
  rw [List.getElem?_map] at h
  cases e : ns[j]? with
  | none => rw [e] at h; cases h
  | some n => rw [e] at h; exact ⟨n, rfl, (Option.some.inj h).symm⟩
def rN (C : Nat → Nat → Prop) (g : Nat → Nat → Nat) : R2 := fun x y H Q => ∃ i j : Nat, x = vn i ∧ y = vn j ∧ C i j ∧ Q (vn (g i j)) H
def rN0 (g : Nat → Nat → Nat) : R2 := fun x y H Q => ∃ i j : Nat, x = vn i ∧ y = vn j ∧ Q (vn (g i j)) H
def rNB (p : Nat → Nat → Prop) [∀ i j, Decidable (p i j)] : R2 := fun x y H Q => ∃ i j : Nat, x = vn i ∧ y = vn j ∧ Q (.bl (decide (p i j))) H
def rIB (p : Int → Int → Prop) [∀ i j, Decidable (p i j)] : R2 := fun x y H Q => ∃ i j : Int, x = .int i ∧ y = .int j ∧ Q (.bl (decide (p i j))) H
section
variable {X : Cx}
theorem OpR.imp {f : Value → Value → Sem Value} {r r' : R2} (h : OpR X f r) (q : ∀ x y H Q, r' x y H Q → r x y H Q) : OpR X f r' :=
  fun pins s σ H x y v u Q I rx ry z => h pins s σ H x y v u Q I rx ry (q x y H Q z)
theorem op_addN : OpR X (binaryOp .Add) (rN0 fun i j => i + j) := op_add.imp fun x y H Q ⟨i, j, e1, e2, q⟩ => ⟨i, j, e1, e2, by dsimp only; rw [← Int.natCast_add]; exact q⟩
theorem op_subN : OpR X (binaryOp .Sub) (rN (fun i j => j ≤ i) fun i j => i - j) := op_sub.imp fun x y H Q ⟨i, j, e1, e2, c, q⟩ => ⟨i, j, e1, e2, by dsimp only; rw [← Int.ofNat_sub c]; exact q⟩
theorem op_mulN : OpR X (binaryOp .Mult) (rN (fun i j => i < 2 ^ 64 ∨ j < 2 ^ 64) fun i j => i * j) := op_mul.imp fun x y H Q ⟨i, j, e1, e2, c, q⟩ => ⟨i, j, e1, e2, by
  unfold CMul
  rcases c with c | c
  · left; omega
  · right; omega, by dsimp only; rw [← Int.natCast_mul]; exact q⟩
theorem op_modN' : OpR X (binaryOp .Mod) (rN (fun _ j => 0 < j) fun i j => i % j) := op_mod.imp fun x y H Q ⟨i, j, e1, e2, c, q⟩ => ⟨i, j, e1, e2, by omega, by dsimp only; rw [← Int.natCast_emod]; exact q⟩
theorem op_divN' : OpR X (binaryOp .FloorDiv) (rN (fun _ j => 0 < j ∧ j < 1073741824) fun i j => i / j) := op_fdiv.imp fun x y H Q ⟨i, j, e1, e2, c, q⟩ => ⟨i, j, e1, e2, ⟨by omega, by omega⟩, by dsimp only; rw [← Int.natCast_ediv]; exact q⟩
theorem op_shlN : OpR X (binaryOp .LShift) (rN (fun i j => j ≤ 1000000 ∧ i < 2 ^ 1024) fun i j => i * 2 ^ j) := op_shlB.imp fun x y H Q ⟨i, j, e1, e2, c, q⟩ => ⟨i, j, e1, e2, ⟨by omega, by omega, by rw [Int.natAbs_natCast]; exact c.2⟩, by
  dsimp only; rw [Int.toNat_natCast, two_pow_cast, ← Int.natCast_mul]; exact q⟩
theorem op_shrN : OpR X (binaryOp .RShift) (rN0 fun i j => i / 2 ^ j) := op_shr.imp fun x y H Q ⟨i, j, e1, e2, q⟩ => ⟨i, j, e1, e2, by omega, by
  dsimp only; rw [Int.toNat_natCast, two_pow_cast, ← Int.natCast_ediv]; exact q⟩
theorem op_orN : OpR X (binaryOp .BitOr) (rN0 fun i j => i ||| j) := op_or.imp fun x y H Q ⟨i, j, e1, e2, q⟩ => ⟨i, j, e1, e2, by dsimp only; rw [Sx.or_nat]; exact q⟩
theorem op_xorN : OpR X (binaryOp .BitXor) (rN0 fun i j => i ^^^ j) := op_xor.imp fun x y H Q ⟨i, j, e1, e2, q⟩ => ⟨i, j, e1, e2, by dsimp only; rw [Sx.xor_nat]; exact q⟩
/-- (a - b) % m -/
def rSM : R2 := fun w z H Q => ∃ i j m : Nat, w = .int ((i : Int) - (j : Int)) ∧ z = vn m ∧ 0 < m ∧ j ≤ m ∧ Q (vn ((i + (m - j)) % m)) H
theorem op_modSM : OpR X (binaryOp .Mod) rSM := op_mod.imp fun x y H Q ⟨i, j, m, e1, e2, c, d, q⟩ => ⟨_, _, e1, e2, by omega, by
  have e : ((i : Int) - j) % (m : Int) = (((i + (m - j)) % m : Nat) : Int) := by
    rw [Int.natCast_emod, Int.natCast_add, Int.ofNat_sub d]
    have : (i : Int) + ((m : Int) - j) = ((i : Int) - j) + m := by omega
    rw [this, Int.add_emod_right]
  show Q (.int _) H
  rw [e]; exact q⟩
theorem op_eqN : OpR X (compareOp .Eq) (rNB fun i j => i = j) := fun pins s σ H x y v u Q I rx ry ⟨i, j, e1, e2, q⟩ => by
  subst e1; subst e2
  obtain ⟨t, rfl⟩ := rx
  obtain ⟨t', rfl⟩ := ry
  exact eq_int ⟨.bl (decide (i = j)), H, I, by
    show _ = _
    have e : ((i : Int) == (j : Int)) = decide (i = j) := by
      rw [Bool.beq_eq_decide_eq]
      exact decide_eq_decide.mpr (by omega)
    rw [e], q⟩
theorem op_ltI : OpR X (compareOp .Lt) (rIB fun i j => i < j) := opB0 fun _ _ _ _ _ _ _ h => lt_int h
theorem op_gtI : OpR X (compareOp .Gt) (rIB fun i j => j < i) := opB0 fun _ _ _ _ _ _ _ h => gt_int h
theorem op_eqI : OpR X (compareOp .Eq) (rIB fun i j => i = j) := opB0 fun _ _ _ _ _ _ _ h => eq_int (by rw [Bool.beq_eq_decide_eq]; exact h)
theorem op_neI : OpR X (compareOp .NotEq) (rIB fun i j => i ≠ j) := opB0 fun i j _ _ _ _ _ h => ne_int (by
  have e : (i != j) = decide (i ≠ j) := by
    by_cases z : i = j
    · subst z; simp
    · simp [z]
  rw [e]; exact h)
theorem IxR.imp {r r' : R2} (h : IxR X r) (q : ∀ x y H Q, r' x y H Q → r x y H Q) : IxR X r' :=
  fun value slice pins s σ H x y v u Q I rx ry z hs => h value slice pins s σ H x y v u Q I rx ry (q x y H Q z) hs
/-- an item of a list, of a tuple, by a natural -/
def rIxLN (K : PySem.W.Frag) : R2 := fun x y H Q => ∃ (p : Addr) (xs : List V) (j : Nat) (v : V), x = .ref p ∧ y = vn j ∧ SqL K H p xs ∧ xs[j]? = some v ∧ Q v H
def rIxTN (K : PySem.W.Frag) : R2 := fun x y H Q => ∃ (p : Addr) (xs : List V) (j : Nat) (v : V), x = .ref p ∧ y = vn j ∧ SqT K H p xs ∧ xs[j]? = some v ∧ Q v H
theorem ix_listN : IxR X (rIxLN X.K) := ix_list.imp fun x y H Q ⟨p, xs, j, v, e1, e2, h, e, q⟩ => ⟨p, xs, j, v, e1, e2, h, atI_nat e, q⟩
theorem ix_tupN : IxR X (rIxTN X.K) := ix_tup.imp fun x y H Q ⟨p, xs, j, v, e1, e2, h, e, q⟩ => ⟨p, xs, j, v, e1, e2, h, atI_nat e, q⟩
/-- a written natural -/
theorem pe_nat (n : Nat) {j pos} : PE X (.Constant (.int (n : Int)) j pos) (tC (vn n)) := pe_int
end
/-! ### heaps -/
theorem Same.upd {H : Hp} {p : Addr} {o : HO} (h : H p = none) : Same H (L2.upd H p o) := fun b u e => by
  rw [upd_ne (ne_of_none e h)]
  exact e
theorem Same.none_ne {H H' : Hp} (s : Same H H') {p q : Addr} (hp : H p = none) {o : HO} (hq : H q = some o) : q ≠ p := ne_of_none hq hp
/-- a new list, forgotten how -/
theorem new_lst {H : Hp} {xs : List V} {Q : VK} (k : ∀ (H' : Hp) (p : Addr), Same H H' → H p = none → H' p = some (.lst xs) → Q (.ref p) H') : ∀ p, H p = none → Q (.ref p) (upd H p (.lst xs)) :=
  fun p hp => k _ p (Same.upd hp) hp upd_same
theorem new_tup {H : Hp} {xs : List V} {Q : VK} (k : ∀ (H' : Hp) (p : Addr), Same H H' → H p = none → H' p = some (.tup xs) → Q (.ref p) H') : ∀ p, H p = none → Q (.ref p) (upd H p (.tup xs)) :=
  fun p hp => k _ p (Same.upd hp) hp upd_same
/-- a store into an object that an older heap did not have -/
theorem Same.over {H H' : Hp} {p : Addr} {o : HO} (s : Same H H') (h : H p = none) : Same H (L2.upd H' p o) := fun b u e => by
  rw [upd_ne (ne_of_none e h)]
  exact s b u e
/-! ### loops -/
theorem for_rev {K : PySem.W.Frag} {a : Addr} {xs : List V} {g : TG} {tb : TS} {D : Ends} {σ : St} {H : Hp} (Pv : Nat → St → Hp → Prop) (h0 : Pv 0 σ H) (hl : ∀ i σ H, i ≤ xs.length → Pv i σ H → SqL K H a xs)
    (hs : ∀ i x σ H, i < xs.length → xs[xs.length - 1 - i]? = some x → Pv i σ H → g x σ H fun σ2 H2 => tb { D with nx := Pv (i + 1), ct := Pv (i + 1), bk := D.nx } σ2 H2) (hd : ∀ σ H, Pv xs.length σ H → D.nx σ H) :
    ∃ W : Nat → Nat → St → Hp → Prop, (∃ m, W 0 m σ H) ∧ ∀ i m σ H, W i m σ H →
      ((Itv K a xs.length).stop i H ∧ D.nx σ H) ∨ ((Itv K a xs.length).go i H ∧ ∃ N : St → Hp → Prop, (∀ σ' H', N σ' H' → ∃ m', m' < m ∧ W (i + 1) m' σ' H') ∧ ∀ x H', (Itv K a xs.length).yld i H x H' → g x σ H' fun σ2 H2 => tb { D with nx := N, ct := N, bk := D.nx } σ2 H2) := by
  refine ⟨fun i m σ H => m = xs.length - i ∧ i ≤ xs.length ∧ Pv i σ H, ⟨xs.length, by simp, Nat.zero_le _, h0⟩, ?_⟩
  rintro i m σ H ⟨rfl, hi, p⟩
  have q := hl i σ H hi p
  by_cases hlt : i < xs.length
  · refine .inr ⟨⟨hlt, xs, xs[xs.length - 1 - i]'(by omega), q, List.getElem?_eq_getElem (by omega)⟩, Pv (i + 1), fun σ' H' p' => ⟨xs.length - (i + 1), by omega, rfl, hlt, p'⟩, fun x H' y => ?_⟩
    obtain ⟨e, y⟩ := y
    subst e
    exact hs i x σ _ hlt (y xs q) p
  · have e : i = xs.length := by omega
    subst e
    exact .inl ⟨Nat.le_refl _, hd σ H p⟩
/-- a comprehension without a test: n items, the i-th is f i -/
theorem lc_end {J : It} {g : TG} {te : TE} {vs : List Nat} {σ : St} {H1 : Hp} {Q : VK} {D : Addr} (n : Nat) (f : Nat → V) (hD : H1 D = none) (hn : n ≤ sizeLine)
    (hgo : ∀ i H', i < n → Same H1 H' → J.go i H') (hst : ∀ H', Same H1 H' → J.stop n H')
    (hstep : ∀ i x H' H'' Qp, i < n → Same H1 H' → J.yld i H' x H'' → (∀ H4, Same H' H4 → Qp (f i) H4) → g x (wipe σ vs) H'' fun σ2 H2 => wipe σ2 vs = wipe σ vs ∧ te σ2 H2 Qp)
    (k : ∀ H', Same H1 H' → H' D = some (.lst ((List.range n).map f)) → Q (.ref D) H') :
    ∃ W : Nat → Nat → Hp → Prop, (∃ m, W 0 m (upd H1 D (.lst []))) ∧ ∀ i m H, W i m H →
      (J.stop i H ∧ Q (.ref D) H) ∨ (J.go i H ∧ ∃ Nx : Hp → Prop, (∀ H', Nx H' → ∃ m', m' < m ∧ W (i + 1) m' H') ∧ ∀ x H', J.yld i H x H' → g x (wipe σ vs) H' fun σ2 H2 => wipe σ2 vs = wipe σ vs ∧ tYes σ2 H2 fun b H3 =>
        if b = true then te σ2 H3 fun y H4 => ∃ acc, H4 D = some (.lst acc) ∧ acc.length < sizeLine ∧ Nx (upd H4 D (.lst (acc ++ [y]))) else Nx H3) := by
  refine ⟨fun i m H => m = n - i ∧ i ≤ n ∧ Same H1 H ∧ H D = some (.lst ((List.range i).map f)), ⟨n, by simp, Nat.zero_le _, Same.upd hD, by rw [upd_same]; rfl⟩, ?_⟩
  rintro i m H ⟨rfl, hi, s, hH⟩
  by_cases hlt : i < n
  · refine .inr ⟨hgo i H hlt s, fun H' => Same H1 H' ∧ H' D = some (.lst ((List.range (i + 1)).map f)), fun H' p => ⟨n - (i + 1), by omega, rfl, hlt, p.1, p.2⟩, fun x H' y => ?_⟩
    show g x (wipe σ vs) H' fun σ2 H2 => wipe σ2 vs = wipe σ vs ∧ te σ2 H2 fun y H4 => ∃ acc, H4 D = some (.lst acc) ∧ acc.length < sizeLine ∧ (Same H1 (upd H4 D (.lst (acc ++ [y]))) ∧ (upd H4 D (.lst (acc ++ [y]))) D = some (.lst ((List.range (i + 1)).map f)))
    refine hstep i x H H' _ hlt s y fun H4 s4 => ?_
    refine ⟨_, s4 _ _ hH, ?_, (s.trans s4).over hD, ?_⟩
    · rw [List.length_map, List.length_range]; omega
    · rw [upd_same, List.range_succ, List.map_append] <;> rfl
  · have e : i = n := by omega
    subst e
    exact .inl ⟨hst H s, k H s hH⟩
end L2
end
section
set_option Elab.async false
set_option linter.all false
set_option maxRecDepth 100000
set_option maxHeartbeats 2000000
namespace Sx
open PySem PySem.Spec PyProof.Rows L2
def top (i : Nat) : Stmt := PySem.Challenge.pw_sixciphers_s01_answers.main.body.getD i (.Pass ⟨0, 0, 0, 0⟩)
abbrev s_number_from : Stmt := top 12
abbrev s_row_from : Stmt := top 13
abbrev s_highest_first : Stmt := top 14
abbrev s_lowest_first : Stmt := top 15
abbrev s_exclusive_or : Stmt := top 16
abbrev s_turned_left : Stmt := top 17
abbrev s_turned_right : Stmt := top 18
abbrev s_idea_product : Stmt := top 19
abbrev s_idea_inverse : Stmt := top 20
abbrev s_idea_undoing : Stmt := top 21
abbrev s_idea_spread : Stmt := top 22
abbrev s_idea_keyed : Stmt := top 23
abbrev s_idea_mixed : Stmt := top 24
abbrev s_idea_swapped : Stmt := top 25
abbrev s_idea_seal : Stmt := top 26
abbrev s_idea_unseal : Stmt := top 27
abbrev s_xtea_spread : Stmt := top 28
abbrev s_xtea_mixed : Stmt := top 29
abbrev s_xtea_seal : Stmt := top 30
abbrev s_xtea_unseal : Stmt := top 31
abbrev s_rc_spread : Stmt := top 32
abbrev s_rc5_spread : Stmt := top 33
abbrev s_rc5_seal : Stmt := top 34
abbrev s_rc5_unseal : Stmt := top 35
abbrev s_rc6_spread : Stmt := top 36
abbrev s_rc6_turned : Stmt := top 37
abbrev s_rc6_round : Stmt := top 38
abbrev s_rc6_unround : Stmt := top 39
abbrev s_rc6_seal : Stmt := top 40
abbrev s_rc6_unseal : Stmt := top 41
abbrev s_speck_round : Stmt := top 42
abbrev s_speck_spread : Stmt := top 43
abbrev s_speck_seal : Stmt := top 44
abbrev s_speck_unseal : Stmt := top 45
abbrev s_threefish_sum : Stmt := top 46
abbrev s_threefish_difference : Stmt := top 47
abbrev s_threefish_spread : Stmt := top 48
abbrev s_threefish_round : Stmt := top 49
abbrev s_threefish_unround : Stmt := top 50
abbrev s_threefish_seal : Stmt := top 51
abbrev s_threefish_unseal : Stmt := top 52
abbrev s___init__ : Stmt := inClass (top 59) 0
abbrev s_block_size : Stmt := inClass (top 59) 1
abbrev s_take_key : Stmt := inClass (top 59) 2
abbrev s_take_start : Stmt := inClass (top 59) 3
abbrev s_run_blocks : Stmt := inClass (top 59) 4
abbrev s_run_block : Stmt := inClass (top 59) 5
abbrev s_sealed : Stmt := inClass (top 59) 6
abbrev s_unsealed : Stmt := inClass (top 59) 7
abbrev s_worked : Stmt := inClass (top 59) 8
abbrev s_call_end : Stmt := top 60
abbrev s_call_answer : Stmt := top 61
abbrev s_answers : Stmt := top 62
/-- where the top has put its objects -/
structure Ad where
  C : Addr
  f_number_from : Addr
  d_number_from : FuncData
  f_row_from : Addr
  d_row_from : FuncData
  f_highest_first : Addr
  d_highest_first : FuncData
  f_lowest_first : Addr
  d_lowest_first : FuncData
  f_exclusive_or : Addr
  d_exclusive_or : FuncData
  f_turned_left : Addr
  d_turned_left : FuncData
  f_turned_right : Addr
  d_turned_right : FuncData
  f_idea_product : Addr
  d_idea_product : FuncData
  f_idea_inverse : Addr
  d_idea_inverse : FuncData
  f_idea_undoing : Addr
  d_idea_undoing : FuncData
  f_idea_spread : Addr
  d_idea_spread : FuncData
  f_idea_keyed : Addr
  d_idea_keyed : FuncData
  f_idea_mixed : Addr
  d_idea_mixed : FuncData
  f_idea_swapped : Addr
  d_idea_swapped : FuncData
  f_idea_seal : Addr
  d_idea_seal : FuncData
  f_idea_unseal : Addr
  d_idea_unseal : FuncData
  f_xtea_spread : Addr
  d_xtea_spread : FuncData
  f_xtea_mixed : Addr
  d_xtea_mixed : FuncData
  f_xtea_seal : Addr
  d_xtea_seal : FuncData
  f_xtea_unseal : Addr
  d_xtea_unseal : FuncData
  f_rc_spread : Addr
  d_rc_spread : FuncData
  f_rc5_spread : Addr
  d_rc5_spread : FuncData
  f_rc5_seal : Addr
  d_rc5_seal : FuncData
  f_rc5_unseal : Addr
  d_rc5_unseal : FuncData
  f_rc6_spread : Addr
  d_rc6_spread : FuncData
  f_rc6_turned : Addr
  d_rc6_turned : FuncData
  f_rc6_round : Addr
  d_rc6_round : FuncData
  f_rc6_unround : Addr
  d_rc6_unround : FuncData
  f_rc6_seal : Addr
  d_rc6_seal : FuncData
  f_rc6_unseal : Addr
  d_rc6_unseal : FuncData
  f_speck_round : Addr
  d_speck_round : FuncData
  f_speck_spread : Addr
  d_speck_spread : FuncData
  f_speck_seal : Addr
  d_speck_seal : FuncData
  f_speck_unseal : Addr
  d_speck_unseal : FuncData
  f_threefish_sum : Addr
  d_threefish_sum : FuncData
  f_threefish_difference : Addr
  d_threefish_difference : FuncData
  f_threefish_spread : Addr
  d_threefish_spread : FuncData
  f_threefish_round : Addr
  d_threefish_round : FuncData
  f_threefish_unround : Addr
  d_threefish_unround : FuncData
  f_threefish_seal : Addr
  d_threefish_seal : FuncData
  f_threefish_unseal : Addr
  d_threefish_unseal : FuncData
  f___init__ : Addr
  d___init__ : FuncData
  f_block_size : Addr
  d_block_size : FuncData
  f_take_key : Addr
  d_take_key : FuncData
  f_take_start : Addr
  d_take_start : FuncData
  f_run_blocks : Addr
  d_run_blocks : FuncData
  f_run_block : Addr
  d_run_block : FuncData
  f_sealed : Addr
  d_sealed : FuncData
  f_unsealed : Addr
  d_unsealed : FuncData
  f_worked : Addr
  d_worked : FuncData
  f_call_end : Addr
  d_call_end : FuncData
  f_call_answer : Addr
  d_call_answer : FuncData
  f_answers : Addr
  d_answers : FuncData
  t_COUNT_PLACES : Addr
  t_BLOCK_SIZES : Addr
  t_WORD_BITS : Addr
  t_REGROUPS : Addr
  t_SPREADS : Addr
  t_SEALS : Addr
  t_UNSEALS : Addr
  t_THREEFISH_TURNS : Addr
  tt0 : Addr
  tt1 : Addr
  tt2 : Addr
  tt3 : Addr
  tt4 : Addr
  tt5 : Addr
  tt6 : Addr
  tt7 : Addr
structure Fn (K : PySem.W.Frag) (mg : Str → Option Value) (x : Str) (st : Stmt) (ps : List Str) (f : Addr) (fd : FuncData) : Prop where
  F : Fun K x x st f fd
  b : Binds K fd ps []
  m : mg x = some (.ref f)
structure Mt (K : PySem.W.Frag) (C : Addr) (x qual : Str) (st : Stmt) (ps : List Str) (f : Addr) (fd : FuncData) : Prop where
  F : Fun K x qual st f fd
  b : Binds K fd ps []
  m : Meth K C x f
def CI (mg : Str → Option Value) (x : Str) (n : Nat) : Prop := ∃ t, mg x = some (.int (n : Int) t)
theorem pc {X : Cx} {x : Str} {n : Nat} {pos : Pos} (h : CI X.mg x n) (hg : Gl X x := by rfl) (hd : (x == ("__debug__" : Str)) = false := by decide) : PE X (.Name x pos) (tC (vn n)) := let ⟨t, e⟩ := h; pe_glob hg e ⟨t, rfl⟩ hd
def Tp (K : PySem.W.Frag) (p : Addr) (xs : List V) : Prop := ∃ (o : Obj) (its : Array Value) (n : Nat), K.lookup p = some o ∧ o.cls = .type "tuple" ∧ o.data = .seq its n ∧ its.size ≤ sizeLine ∧ Vals xs its.toList
theorem Tp.sq {K : PySem.W.Frag} {p : Addr} {xs : List V} (h : Tp K p xs) {H : Hp} : SqT K H p xs := .inr h
/-- what the top has written -/
structure Txt (K : PySem.W.Frag) (mg : Str → Option Value) (a : Ad) : Prop where
  number_from : Fn K mg "number_from" s_number_from ["row", "bits"] a.f_number_from a.d_number_from
  row_from : Fn K mg "row_from" s_row_from ["number", "count", "bits"] a.f_row_from a.d_row_from
  highest_first : Fn K mg "highest_first" s_highest_first ["row", "bits", "new_bits"] a.f_highest_first a.d_highest_first
  lowest_first : Fn K mg "lowest_first" s_lowest_first ["row", "bits", "new_bits"] a.f_lowest_first a.d_lowest_first
  exclusive_or : Fn K mg "exclusive_or" s_exclusive_or ["row", "other"] a.f_exclusive_or a.d_exclusive_or
  turned_left : Fn K mg "turned_left" s_turned_left ["x", "k", "bits"] a.f_turned_left a.d_turned_left
  turned_right : Fn K mg "turned_right" s_turned_right ["x", "k", "bits"] a.f_turned_right a.d_turned_right
  idea_product : Fn K mg "idea_product" s_idea_product ["x", "y"] a.f_idea_product a.d_idea_product
  idea_inverse : Fn K mg "idea_inverse" s_idea_inverse ["x"] a.f_idea_inverse a.d_idea_inverse
  idea_undoing : Fn K mg "idea_undoing" s_idea_undoing ["keys"] a.f_idea_undoing a.d_idea_undoing
  idea_spread : Fn K mg "idea_spread" s_idea_spread ["key"] a.f_idea_spread a.d_idea_spread
  idea_keyed : Fn K mg "idea_keyed" s_idea_keyed ["words", "k"] a.f_idea_keyed a.d_idea_keyed
  idea_mixed : Fn K mg "idea_mixed" s_idea_mixed ["words", "k"] a.f_idea_mixed a.d_idea_mixed
  idea_swapped : Fn K mg "idea_swapped" s_idea_swapped ["words"] a.f_idea_swapped a.d_idea_swapped
  idea_seal : Fn K mg "idea_seal" s_idea_seal ["words", "schedule"] a.f_idea_seal a.d_idea_seal
  idea_unseal : Fn K mg "idea_unseal" s_idea_unseal ["words", "schedule"] a.f_idea_unseal a.d_idea_unseal
  xtea_spread : Fn K mg "xtea_spread" s_xtea_spread ["key"] a.f_xtea_spread a.d_xtea_spread
  xtea_mixed : Fn K mg "xtea_mixed" s_xtea_mixed ["v", "keyed_sum"] a.f_xtea_mixed a.d_xtea_mixed
  xtea_seal : Fn K mg "xtea_seal" s_xtea_seal ["words", "sums"] a.f_xtea_seal a.d_xtea_seal
  xtea_unseal : Fn K mg "xtea_unseal" s_xtea_unseal ["words", "sums"] a.f_xtea_unseal a.d_xtea_unseal
  rc_spread : Fn K mg "rc_spread" s_rc_spread ["key", "t"] a.f_rc_spread a.d_rc_spread
  rc5_spread : Fn K mg "rc5_spread" s_rc5_spread ["key"] a.f_rc5_spread a.d_rc5_spread
  rc5_seal : Fn K mg "rc5_seal" s_rc5_seal ["words", "s"] a.f_rc5_seal a.d_rc5_seal
  rc5_unseal : Fn K mg "rc5_unseal" s_rc5_unseal ["words", "s"] a.f_rc5_unseal a.d_rc5_unseal
  rc6_spread : Fn K mg "rc6_spread" s_rc6_spread ["key"] a.f_rc6_spread a.d_rc6_spread
  rc6_turned : Fn K mg "rc6_turned" s_rc6_turned ["x"] a.f_rc6_turned a.d_rc6_turned
  rc6_round : Fn K mg "rc6_round" s_rc6_round ["words", "k0", "k1"] a.f_rc6_round a.d_rc6_round
  rc6_unround : Fn K mg "rc6_unround" s_rc6_unround ["words", "k0", "k1"] a.f_rc6_unround a.d_rc6_unround
  rc6_seal : Fn K mg "rc6_seal" s_rc6_seal ["words", "s"] a.f_rc6_seal a.d_rc6_seal
  rc6_unseal : Fn K mg "rc6_unseal" s_rc6_unseal ["words", "s"] a.f_rc6_unseal a.d_rc6_unseal
  speck_round : Fn K mg "speck_round" s_speck_round ["words", "k"] a.f_speck_round a.d_speck_round
  speck_spread : Fn K mg "speck_spread" s_speck_spread ["key"] a.f_speck_spread a.d_speck_spread
  speck_seal : Fn K mg "speck_seal" s_speck_seal ["words", "keys"] a.f_speck_seal a.d_speck_seal
  speck_unseal : Fn K mg "speck_unseal" s_speck_unseal ["words", "keys"] a.f_speck_unseal a.d_speck_unseal
  threefish_sum : Fn K mg "threefish_sum" s_threefish_sum ["words", "keys"] a.f_threefish_sum a.d_threefish_sum
  threefish_difference : Fn K mg "threefish_difference" s_threefish_difference ["words", "keys"] a.f_threefish_difference a.d_threefish_difference
  threefish_spread : Fn K mg "threefish_spread" s_threefish_spread ["key"] a.f_threefish_spread a.d_threefish_spread
  threefish_round : Fn K mg "threefish_round" s_threefish_round ["words", "turns"] a.f_threefish_round a.d_threefish_round
  threefish_unround : Fn K mg "threefish_unround" s_threefish_unround ["words", "turns"] a.f_threefish_unround a.d_threefish_unround
  threefish_seal : Fn K mg "threefish_seal" s_threefish_seal ["words", "schedule"] a.f_threefish_seal a.d_threefish_seal
  threefish_unseal : Fn K mg "threefish_unseal" s_threefish_unseal ["words", "schedule"] a.f_threefish_unseal a.d_threefish_unseal
  call_end : Fn K mg "call_end" s_call_end ["calls", "at"] a.f_call_end a.d_call_end
  call_answer : Fn K mg "call_answer" s_call_answer ["sealer", "call"] a.f_call_answer a.d_call_answer
  answers : Fn K mg "answers" s_answers ["calls"] a.f_answers a.d_answers
  __init__ : Mt K a.C "__init__" "Sealer.__init__" s___init__ ["self"] a.f___init__ a.d___init__
  block_size : Mt K a.C "block_size" "Sealer.block_size" s_block_size ["self"] a.f_block_size a.d_block_size
  take_key : Mt K a.C "take_key" "Sealer.take_key" s_take_key ["self", "cipher", "key"] a.f_take_key a.d_take_key
  take_start : Mt K a.C "take_start" "Sealer.take_start" s_take_start ["self", "iv"] a.f_take_start a.d_take_start
  run_blocks : Mt K a.C "run_blocks" "Sealer.run_blocks" s_run_blocks ["self", "way", "n", "data"] a.f_run_blocks a.d_run_blocks
  run_block : Mt K a.C "run_block" "Sealer.run_block" s_run_block ["self", "way", "block"] a.f_run_block a.d_run_block
  sealed : Mt K a.C "sealed" "Sealer.sealed" s_sealed ["self", "block"] a.f_sealed a.d_sealed
  unsealed : Mt K a.C "unsealed" "Sealer.unsealed" s_unsealed ["self", "block"] a.f_unsealed a.d_unsealed
  worked : Mt K a.C "worked" "Sealer.worked" s_worked ["self", "work", "block"] a.f_worked a.d_worked
  c_CK_KEY : CI mg "CK_KEY" 1
  c_CK_START : CI mg "CK_START" 2
  c_CK_RUN : CI mg "CK_RUN" 3
  c_CK_BLOCK : CI mg "CK_BLOCK" 4
  c_LARGEST_RUN : CI mg "LARGEST_RUN" 16777216
  c_TWO_16 : CI mg "TWO_16" 65536
  c_TWO_32 : CI mg "TWO_32" Sz25.M
  c_TWO_64 : CI mg "TWO_64" Sz25.L
  c_GOLDEN : CI mg "GOLDEN" Sz25.GOLD
  g_COUNT_PLACES : mg "COUNT_PLACES" = some (.ref a.t_COUNT_PLACES)
  q_COUNT_PLACES : Tp K a.t_COUNT_PLACES (nvs [0, 2, 1, 3])
  g_BLOCK_SIZES : mg "BLOCK_SIZES" = some (.ref a.t_BLOCK_SIZES)
  q_BLOCK_SIZES : Tp K a.t_BLOCK_SIZES (nvs [8, 8, 8, 16, 16, 32])
  g_WORD_BITS : mg "WORD_BITS" = some (.ref a.t_WORD_BITS)
  q_WORD_BITS : Tp K a.t_WORD_BITS (nvs [16, 32, 32, 32, 64, 64])
  g_REGROUPS : mg "REGROUPS" = some (.ref a.t_REGROUPS)
  q_REGROUPS : Tp K a.t_REGROUPS ([.ref a.f_highest_first, .ref a.f_highest_first, .ref a.f_lowest_first, .ref a.f_lowest_first, .ref a.f_lowest_first, .ref a.f_lowest_first])
  g_SPREADS : mg "SPREADS" = some (.ref a.t_SPREADS)
  q_SPREADS : Tp K a.t_SPREADS ([.ref a.f_idea_spread, .ref a.f_xtea_spread, .ref a.f_rc5_spread, .ref a.f_rc6_spread, .ref a.f_speck_spread, .ref a.f_threefish_spread])
  g_SEALS : mg "SEALS" = some (.ref a.t_SEALS)
  q_SEALS : Tp K a.t_SEALS ([.ref a.f_idea_seal, .ref a.f_xtea_seal, .ref a.f_rc5_seal, .ref a.f_rc6_seal, .ref a.f_speck_seal, .ref a.f_threefish_seal])
  g_UNSEALS : mg "UNSEALS" = some (.ref a.t_UNSEALS)
  q_UNSEALS : Tp K a.t_UNSEALS ([.ref a.f_idea_unseal, .ref a.f_xtea_unseal, .ref a.f_rc5_unseal, .ref a.f_rc6_unseal, .ref a.f_speck_unseal, .ref a.f_threefish_unseal])
  g_THREEFISH_TURNS : mg "THREEFISH_TURNS" = some (.ref a.t_THREEFISH_TURNS)
  q_THREEFISH_TURNS : Tp K a.t_THREEFISH_TURNS ([.ref a.tt0, .ref a.tt1, .ref a.tt2, .ref a.tt3, .ref a.tt4, .ref a.tt5, .ref a.tt6, .ref a.tt7])
  q_tt0 : Tp K a.tt0 (nvs [14, 16])
  q_tt1 : Tp K a.tt1 (nvs [52, 57])
  q_tt2 : Tp K a.tt2 (nvs [23, 40])
  q_tt3 : Tp K a.tt3 (nvs [5, 37])
  q_tt4 : Tp K a.tt4 (nvs [25, 33])
  q_tt5 : Tp K a.tt5 (nvs [46, 12])
  q_tt6 : Tp K a.tt6 (nvs [58, 22])
  q_tt7 : Tp K a.tt7 (nvs [32, 32])
  n_range : mg "range" = none
  n_len : mg "len" = none
  n_list : mg "list" = none
  n_reversed : mg "reversed" = none
  n_zip : mg "zip" = none
  n_enumerate : mg "enumerate" = none
  cl : Cls K a.C
  mkS : Mk K a.C a.f___init__
  g_Sealer : mg "Sealer" = some (.ref a.C)
  na_cipher : NoAttr K a.C "cipher"
  na_schedule : NoAttr K a.C "schedule"
  na_standing : NoAttr K a.C "standing"
theorem sc_number_from : FnScope ["row", "bits", "number", "part"] ["row", "bits"] (defScope s_number_from) := ⟨rfl, rfl, rfl, by decide +kernel, rfl, by decide +kernel, by decide +kernel⟩
theorem sc_row_from : FnScope ["number", "count", "bits", "place"] ["number", "count", "bits"] (defScope s_row_from) := ⟨rfl, rfl, rfl, by decide +kernel, rfl, by decide +kernel, by decide +kernel⟩
theorem sc_highest_first : FnScope ["row", "bits", "new_bits"] ["row", "bits", "new_bits"] (defScope s_highest_first) := ⟨rfl, rfl, rfl, by decide +kernel, rfl, by decide +kernel, by decide +kernel⟩
theorem sc_lowest_first : FnScope ["row", "bits", "new_bits"] ["row", "bits", "new_bits"] (defScope s_lowest_first) := ⟨rfl, rfl, rfl, by decide +kernel, rfl, by decide +kernel, by decide +kernel⟩
theorem sc_exclusive_or : FnScope ["row", "other", "x", "y"] ["row", "other"] (defScope s_exclusive_or) := ⟨rfl, rfl, rfl, by decide +kernel, rfl, by decide +kernel, by decide +kernel⟩
theorem sc_turned_left : FnScope ["x", "k", "bits"] ["x", "k", "bits"] (defScope s_turned_left) := ⟨rfl, rfl, rfl, by decide +kernel, rfl, by decide +kernel, by decide +kernel⟩
theorem sc_turned_right : FnScope ["x", "k", "bits"] ["x", "k", "bits"] (defScope s_turned_right) := ⟨rfl, rfl, rfl, by decide +kernel, rfl, by decide +kernel, by decide +kernel⟩
theorem sc_idea_product : FnScope ["x", "y"] ["x", "y"] (defScope s_idea_product) := ⟨rfl, rfl, rfl, by decide +kernel, rfl, by decide +kernel, by decide +kernel⟩
theorem sc_idea_inverse : FnScope ["x", "inverse", "step"] ["x"] (defScope s_idea_inverse) := ⟨rfl, rfl, rfl, by decide +kernel, rfl, by decide +kernel, by decide +kernel⟩
theorem sc_idea_undoing : FnScope ["keys", "undoing", "i", "k"] ["keys"] (defScope s_idea_undoing) := ⟨rfl, rfl, rfl, by decide +kernel, rfl, by decide +kernel, by decide +kernel⟩
theorem sc_idea_spread : FnScope ["key", "number", "keys"] ["key"] (defScope s_idea_spread) := ⟨rfl, rfl, rfl, by decide +kernel, rfl, by decide +kernel, by decide +kernel⟩
theorem sc_idea_keyed : FnScope ["words", "k", "b", "c"] ["words", "k"] (defScope s_idea_keyed) := ⟨rfl, rfl, rfl, by decide +kernel, rfl, by decide +kernel, by decide +kernel⟩
theorem sc_idea_mixed : FnScope ["words", "k", "e", "f", "g"] ["words", "k"] (defScope s_idea_mixed) := ⟨rfl, rfl, rfl, by decide +kernel, rfl, by decide +kernel, by decide +kernel⟩
theorem sc_idea_swapped : FnScope ["words"] ["words"] (defScope s_idea_swapped) := ⟨rfl, rfl, rfl, by decide +kernel, rfl, by decide +kernel, by decide +kernel⟩
theorem sc_idea_seal : FnScope ["words", "schedule", "keys", "at", "k"] ["words", "schedule"] (defScope s_idea_seal) := ⟨rfl, rfl, rfl, by decide +kernel, rfl, by decide +kernel, by decide +kernel⟩
theorem sc_idea_unseal : FnScope ["words", "schedule", "keys", "at", "k"] ["words", "schedule"] (defScope s_idea_unseal) := ⟨rfl, rfl, rfl, by decide +kernel, rfl, by decide +kernel, by decide +kernel⟩
theorem sc_xtea_spread : FnScope ["key", "k", "sums", "i", "s"] ["key"] (defScope s_xtea_spread) := ⟨rfl, rfl, rfl, by decide +kernel, rfl, by decide +kernel, by decide +kernel⟩
theorem sc_xtea_mixed : FnScope ["v", "keyed_sum"] ["v", "keyed_sum"] (defScope s_xtea_mixed) := ⟨rfl, rfl, rfl, by decide +kernel, rfl, by decide +kernel, by decide +kernel⟩
theorem sc_xtea_seal : FnScope ["words", "sums", "keyed_sum"] ["words", "sums"] (defScope s_xtea_seal) := ⟨rfl, rfl, rfl, by decide +kernel, rfl, by decide +kernel, by decide +kernel⟩
theorem sc_xtea_unseal : FnScope ["words", "sums", "keyed_sum"] ["words", "sums"] (defScope s_xtea_unseal) := ⟨rfl, rfl, rfl, by decide +kernel, rfl, by decide +kernel, by decide +kernel⟩
theorem sc_rc_spread : FnScope ["key", "t", "s", "key_words", "a", "b", "n", "i"] ["key", "t"] (defScope s_rc_spread) := ⟨rfl, rfl, rfl, by decide +kernel, rfl, by decide +kernel, by decide +kernel⟩
theorem sc_rc5_spread : FnScope ["key"] ["key"] (defScope s_rc5_spread) := ⟨rfl, rfl, rfl, by decide +kernel, rfl, by decide +kernel, by decide +kernel⟩
theorem sc_rc5_seal : FnScope ["words", "s", "k"] ["words", "s"] (defScope s_rc5_seal) := ⟨rfl, rfl, rfl, by decide +kernel, rfl, by decide +kernel, by decide +kernel⟩
theorem sc_rc5_unseal : FnScope ["words", "s", "k"] ["words", "s"] (defScope s_rc5_unseal) := ⟨rfl, rfl, rfl, by decide +kernel, rfl, by decide +kernel, by decide +kernel⟩
theorem sc_rc6_spread : FnScope ["key"] ["key"] (defScope s_rc6_spread) := ⟨rfl, rfl, rfl, by decide +kernel, rfl, by decide +kernel, by decide +kernel⟩
theorem sc_rc6_turned : FnScope ["x"] ["x"] (defScope s_rc6_turned) := ⟨rfl, rfl, rfl, by decide +kernel, rfl, by decide +kernel, by decide +kernel⟩
theorem sc_rc6_round : FnScope ["words", "k0", "k1", "t", "u", "a", "c"] ["words", "k0", "k1"] (defScope s_rc6_round) := ⟨rfl, rfl, rfl, by decide +kernel, rfl, by decide +kernel, by decide +kernel⟩
theorem sc_rc6_unround : FnScope ["words", "k0", "k1", "t", "u", "a", "c"] ["words", "k0", "k1"] (defScope s_rc6_unround) := ⟨rfl, rfl, rfl, by decide +kernel, rfl, by decide +kernel, by decide +kernel⟩
theorem sc_rc6_seal : FnScope ["words", "s", "i"] ["words", "s"] (defScope s_rc6_seal) := ⟨rfl, rfl, rfl, by decide +kernel, rfl, by decide +kernel, by decide +kernel⟩
theorem sc_rc6_unseal : FnScope ["words", "s", "i"] ["words", "s"] (defScope s_rc6_unseal) := ⟨rfl, rfl, rfl, by decide +kernel, rfl, by decide +kernel, by decide +kernel⟩
theorem sc_speck_round : FnScope ["words", "k", "x"] ["words", "k"] (defScope s_speck_round) := ⟨rfl, rfl, rfl, by decide +kernel, rfl, by decide +kernel, by decide +kernel⟩
theorem sc_speck_spread : FnScope ["key", "words", "keys", "i"] ["key"] (defScope s_speck_spread) := ⟨rfl, rfl, rfl, by decide +kernel, rfl, by decide +kernel, by decide +kernel⟩
theorem sc_speck_seal : FnScope ["words", "keys", "k"] ["words", "keys"] (defScope s_speck_seal) := ⟨rfl, rfl, rfl, by decide +kernel, rfl, by decide +kernel, by decide +kernel⟩
theorem sc_speck_unseal : FnScope ["words", "keys", "k", "y"] ["words", "keys"] (defScope s_speck_unseal) := ⟨rfl, rfl, rfl, by decide +kernel, rfl, by decide +kernel, by decide +kernel⟩
theorem sc_threefish_sum : FnScope ["words", "keys", "word", "k"] ["words", "keys"] (defScope s_threefish_sum) := ⟨rfl, rfl, rfl, by decide +kernel, rfl, by decide +kernel, by decide +kernel⟩
theorem sc_threefish_difference : FnScope ["words", "keys", "word", "k"] ["words", "keys"] (defScope s_threefish_difference) := ⟨rfl, rfl, rfl, by decide +kernel, rfl, by decide +kernel, by decide +kernel⟩
theorem sc_threefish_spread : FnScope ["key", "k", "t", "schedule", "s", "untweaked"] ["key"] (defScope s_threefish_spread) := ⟨rfl, rfl, rfl, by decide +kernel, rfl, by decide +kernel, by decide +kernel⟩
theorem sc_threefish_round : FnScope ["words", "turns", "a", "b", "c", "d"] ["words", "turns"] (defScope s_threefish_round) := ⟨rfl, rfl, rfl, by decide +kernel, rfl, by decide +kernel, by decide +kernel⟩
theorem sc_threefish_unround : FnScope ["words", "turns", "b", "d"] ["words", "turns"] (defScope s_threefish_unround) := ⟨rfl, rfl, rfl, by decide +kernel, rfl, by decide +kernel, by decide +kernel⟩
theorem sc_threefish_seal : FnScope ["words", "schedule", "i"] ["words", "schedule"] (defScope s_threefish_seal) := ⟨rfl, rfl, rfl, by decide +kernel, rfl, by decide +kernel, by decide +kernel⟩
theorem sc_threefish_unseal : FnScope ["words", "schedule", "i"] ["words", "schedule"] (defScope s_threefish_unseal) := ⟨rfl, rfl, rfl, by decide +kernel, rfl, by decide +kernel, by decide +kernel⟩
theorem sc___init__ : FnScope ["self"] ["self"] (defScope s___init__) := ⟨rfl, rfl, rfl, by decide +kernel, rfl, by decide +kernel, by decide +kernel⟩
theorem sc_block_size : FnScope ["self"] ["self"] (defScope s_block_size) := ⟨rfl, rfl, rfl, by decide +kernel, rfl, by decide +kernel, by decide +kernel⟩
theorem sc_take_key : FnScope ["self", "cipher", "key"] ["self", "cipher", "key"] (defScope s_take_key) := ⟨rfl, rfl, rfl, by decide +kernel, rfl, by decide +kernel, by decide +kernel⟩
theorem sc_take_start : FnScope ["self", "iv"] ["self", "iv"] (defScope s_take_start) := ⟨rfl, rfl, rfl, by decide +kernel, rfl, by decide +kernel, by decide +kernel⟩
theorem sc_run_blocks : FnScope ["self", "way", "n", "data", "size", "answer", "at"] ["self", "way", "n", "data"] (defScope s_run_blocks) := ⟨rfl, rfl, rfl, by decide +kernel, rfl, by decide +kernel, by decide +kernel⟩
theorem sc_run_block : FnScope ["self", "way", "block", "before"] ["self", "way", "block"] (defScope s_run_block) := ⟨rfl, rfl, rfl, by decide +kernel, rfl, by decide +kernel, by decide +kernel⟩
theorem sc_sealed : FnScope ["self", "block"] ["self", "block"] (defScope s_sealed) := ⟨rfl, rfl, rfl, by decide +kernel, rfl, by decide +kernel, by decide +kernel⟩
theorem sc_unsealed : FnScope ["self", "block"] ["self", "block"] (defScope s_unsealed) := ⟨rfl, rfl, rfl, by decide +kernel, rfl, by decide +kernel, by decide +kernel⟩
theorem sc_worked : FnScope ["self", "work", "block", "regroup", "bits"] ["self", "work", "block"] (defScope s_worked) := ⟨rfl, rfl, rfl, by decide +kernel, rfl, by decide +kernel, by decide +kernel⟩
theorem sc_call_end : FnScope ["calls", "at", "count_at"] ["calls", "at"] (defScope s_call_end) := ⟨rfl, rfl, rfl, by decide +kernel, rfl, by decide +kernel, by decide +kernel⟩
theorem sc_call_answer : FnScope ["sealer", "call"] ["sealer", "call"] (defScope s_call_answer) := ⟨rfl, rfl, rfl, by decide +kernel, rfl, by decide +kernel, by decide +kernel⟩
theorem sc_answers : FnScope ["calls", "sealer", "found", "at", "end", "answer"] ["calls"] (defScope s_answers) := ⟨rfl, rfl, rfl, by decide +kernel, rfl, by decide +kernel, by decide +kernel⟩
theorem Fn.call {X : Cx} {k : Nat} {x : Str} {st : Stmt} {ps : List Str} {f : Addr} {fd : FuncData} {sp : Sp} {e : Expr} {es : List Expr} {t : TA} {p pos : Pos} (T : Fn X.K X.mg x st ps f fd) (G : FnOk X.prog X.w X.K X.mg X.base CX0 k f fd ps sp) (hr : Room k X.A)
    (ha : PA X (e :: es) t) (hg : Gl X x := by rfl) (hdb : (x == ("__debug__" : Str)) = false := by decide) (he : starEach (e :: es) X.env = (false, eval e X.env) :: starEach es X.env := by rfl) (hpl : (backTo pos (starEach es X.env)).any (·.1) = false := by rfl) :
    PE X (.Call (.Name x p) (e :: es) [] pos) (tCall sp [] E0 t) := pe_call G hr hg T.m T.F.kp T.b .nil pass0 ha hdb he hpl
end Sx
end
section
set_option Elab.async false
set_option linter.all false
set_option maxRecDepth 100000
set_option maxHeartbeats 0
namespace Sx
open PySem PySem.Spec PyProof.Rows L2
open PySem.W (kHook Hook LeftO xlAt recOk topRun topStub openSeen openGood)
/-- the text without its first row, a remark -/
noncomputable def vw : Program := { PySem.Challenge.pw_sixciphers_s01_answers with main := { PySem.Challenge.pw_sixciphers_s01_answers.main with body := PySem.Challenge.pw_sixciphers_s01_answers.main.body.drop 1 } }
/-! ### what the top leaves -/
abbrev tp (l : Array Value) : Obj := Obj.mk (.type "tuple") Option.none (Data.seq l 0) #[]
abbrev co (l : Array Value) : Obj := Obj.mk (.type "code") Option.none (Data.fields l) #[]
abbrev fo (f : FuncData) : Obj := Obj.mk (.type "function") Option.none (Data.func f) #[]
abbrev fu (x q : Str) (s : Stmt) (c : Addr) : FuncData := PySem.W.fnOf x q (defArgs s) (defBody s) (defScope s) .none .none .none (.str "sixciphers.blocks" 187) Option.none (.ref c) .none
abbrev fc (x q : Str) (s : Stmt) : Obj := Obj.mk .none Option.none (Data.func (FuncData.mk x q (defArgs s) (.stmts (defBody s)) (defScope s) 0 [] .none .none .none .none Option.none .none .none 0)) #[]
noncomputable abbrev de (P : Params) (n : Str) (k : Nat) (v : Value) : DictEntry := DictEntry.mk (PyData.keyHash P n) (.str n k) v
noncomputable def k_2 (P : Params) : Obj := PySem.W.boot_o_2 P
noncomputable def k_3 (P : Params) : Obj := (Obj.mk (.type "dict") Option.none (Data.dict #[(de P "__name__" 165 (.str "sixciphers.blocks" 187)), (de P "__doc__" 166 .none), (de P "__package__" 167 .none), (de P "__loader__" 168 (.builtin "__main__.__loader__#opaque")), (de P "__spec__" 169 .none), (de P "__annotations__" 170 (.ref 6)), (de P "__builtins__" 171 (.ref 4)), (de P "__file__" 173 (.str "/claim/cut.py" 172)), (de P "__cached__" 174 .none), (de P "CK_KEY" 190 (.int 1 189)), (de P "CK_START" 192 (.int 2 191)), (de P "CK_RUN" 194 (.int 3 193)), (de P "CK_BLOCK" 196 (.int 4 195)), (de P "COUNT_PLACES" 201 (.ref 15)), (de P "LARGEST_RUN" 203 (.int 16777216 202)), (de P "TWO_16" 205 (.int 65536 204)), (de P "TWO_32" 207 (.int 4294967296 206)), (de P "TWO_64" 209 (.int 18446744073709551616 208)), (de P "GOLDEN" 211 (.int 2654435769 210)), (de P "THREEFISH_TURNS" 228 (.ref 24)), (de P "number_from" 238 (.ref 31)), (de P "row_from" 244 (.ref 36)), (de P "highest_first" 253 (.ref 43)), (de P "lowest_first" 262 (.ref 50)), (de P "exclusive_or" 268 (.ref 55)), (de P "turned_left" 277 (.ref 62)), (de P "turned_right" 286 (.ref 69)), (de P "idea_product" 294 (.ref 76)), (de P "idea_inverse" 303 (.ref 83)), (de P "idea_undoing" 313 (.ref 90)), (de P "idea_spread" 322 (.ref 97)), (de P "idea_keyed" 332 (.ref 104)), (de P "idea_mixed" 343 (.ref 111)), (de P "idea_swapped" 350 (.ref 118)), (de P "idea_seal" 361 (.ref 125)), (de P "idea_unseal" 372 (.ref 132)), (de P "xtea_spread" 383 (.ref 139)), (de P "xtea_mixed" 391 (.ref 146)), (de P "xtea_seal" 400 (.ref 153)), (de P "xtea_unseal" 409 (.ref 160)), (de P "rc_spread" 415 (.ref 165)), (de P "rc5_spread" 422 (.ref 172)), (de P "rc5_seal" 431 (.ref 179)), (de P "rc5_unseal" 440 (.ref 186)), (de P "rc6_spread" 447 (.ref 193)), (de P "rc6_turned" 454 (.ref 200)), (de P "rc6_round" 467 (.ref 207)), (de P "rc6_unround" 480 (.ref 214)), (de P "rc6_seal" 489 (.ref 221)), (de P "rc6_unseal" 498 (.ref 228)), (de P "speck_round" 507 (.ref 235)), (de P "speck_spread" 517 (.ref 242)), (de P "speck_seal" 526 (.ref 249)), (de P "speck_unseal" 536 (.ref 256)), (de P "threefish_sum" 542 (.ref 261)), (de P "threefish_difference" 548 (.ref 266)), (de P "threefish_spread" 560 (.ref 273)), (de P "threefish_round" 572 (.ref 280)), (de P "threefish_unround" 582 (.ref 287)), (de P "threefish_seal" 591 (.ref 294)), (de P "threefish_unseal" 600 (.ref 301)), (de P "BLOCK_SIZES" 607 (.ref 302)), (de P "WORD_BITS" 614 (.ref 303)), (de P "REGROUPS" 615 (.ref 304)), (de P "SPREADS" 616 (.ref 305)), (de P "SEALS" 617 (.ref 306)), (de P "UNSEALS" 618 (.ref 307)), (de P "Sealer" 722 (.ref 380)), (de P "call_end" 731 (.ref 391)), (de P "call_answer" 739 (.ref 398)), (de P "answers" 751 (.ref 405))] 71) #[])
noncomputable def k_15 (P : Params) : Obj := (tp #[(.int 0 197), (.int 2 198), (.int 1 199), (.int 3 200)])
noncomputable def k_16 (P : Params) : Obj := (tp #[(.int 14 212), (.int 16 213)])
noncomputable def k_17 (P : Params) : Obj := (tp #[(.int 52 214), (.int 57 215)])
noncomputable def k_18 (P : Params) : Obj := (tp #[(.int 23 216), (.int 40 217)])
noncomputable def k_19 (P : Params) : Obj := (tp #[(.int 5 218), (.int 37 219)])
noncomputable def k_20 (P : Params) : Obj := (tp #[(.int 25 220), (.int 33 221)])
noncomputable def k_21 (P : Params) : Obj := (tp #[(.int 46 222), (.int 12 223)])
noncomputable def k_22 (P : Params) : Obj := (tp #[(.int 58 224), (.int 22 225)])
noncomputable def k_23 (P : Params) : Obj := (tp #[(.int 32 226), (.int 32 227)])
noncomputable def k_24 (P : Params) : Obj := (tp #[(.ref 16), (.ref 17), (.ref 18), (.ref 19), (.ref 20), (.ref 21), (.ref 22), (.ref 23)])
noncomputable def k_30 (P : Params) : Obj := (co #[(.str "number_from" 229), (.str "number_from" 230), (.str "/claim/cut.py" 231), (.int 13 0), (.int 2 0), (.int 0 0), (.int 0 0), (.int 3 0), (.ref 25), (.bool Bool.true), (.int 181 0), (.ref 26), .none, (.ref 27), (.ref 28), (.ref 29), (.int 236 0), (.int 13 0), (.str "/claim/cut.py" 237)])
noncomputable def k_31 (P : Params) : Obj := (fo (fu "number_from" "number_from" s_number_from 30))
noncomputable def k_35 (P : Params) : Obj := (co #[(.str "row_from" 239), (.str "row_from" 240), (.str "/claim/cut.py" 241), (.int 18 0), (.int 3 0), (.int 0 0), (.int 0 0), (.int 3 0), (.ref 32), (.bool Bool.true), (.int 181 0), (.ref 33), .none, .none, .none, (.ref 34), (.int 242 0), (.int 18 0), (.str "/claim/cut.py" 243)])
noncomputable def k_36 (P : Params) : Obj := (fo (fu "row_from" "row_from" s_row_from 35))
noncomputable def k_42 (P : Params) : Obj := (co #[(.str "highest_first" 245), (.str "highest_first" 246), (.str "/claim/cut.py" 247), (.int 20 0), (.int 3 0), (.int 0 0), (.int 0 0), (.int 3 0), (.ref 37), (.bool Bool.true), (.int 181 0), (.ref 38), .none, (.ref 39), (.ref 40), (.ref 41), (.int 251 0), (.int 20 0), (.str "/claim/cut.py" 252)])
noncomputable def k_43 (P : Params) : Obj := (fo (fu "highest_first" "highest_first" s_highest_first 42))
noncomputable def k_49 (P : Params) : Obj := (co #[(.str "lowest_first" 254), (.str "lowest_first" 255), (.str "/claim/cut.py" 256), (.int 22 0), (.int 3 0), (.int 0 0), (.int 0 0), (.int 3 0), (.ref 44), (.bool Bool.true), (.int 181 0), (.ref 45), .none, (.ref 46), (.ref 47), (.ref 48), (.int 260 0), (.int 22 0), (.str "/claim/cut.py" 261)])
noncomputable def k_50 (P : Params) : Obj := (fo (fu "lowest_first" "lowest_first" s_lowest_first 49))
noncomputable def k_54 (P : Params) : Obj := (co #[(.str "exclusive_or" 263), (.str "exclusive_or" 264), (.str "/claim/cut.py" 265), (.int 24 0), (.int 2 0), (.int 0 0), (.int 0 0), (.int 3 0), (.ref 51), (.bool Bool.true), (.int 181 0), (.ref 52), .none, .none, .none, (.ref 53), (.int 266 0), (.int 24 0), (.str "/claim/cut.py" 267)])
noncomputable def k_55 (P : Params) : Obj := (fo (fu "exclusive_or" "exclusive_or" s_exclusive_or 54))
noncomputable def k_61 (P : Params) : Obj := (co #[(.str "turned_left" 269), (.str "turned_left" 270), (.str "/claim/cut.py" 271), (.int 26 0), (.int 3 0), (.int 0 0), (.int 0 0), (.int 3 0), (.ref 56), (.bool Bool.true), (.int 181 0), (.ref 57), .none, (.ref 58), (.ref 59), (.ref 60), (.int 275 0), (.int 26 0), (.str "/claim/cut.py" 276)])
noncomputable def k_62 (P : Params) : Obj := (fo (fu "turned_left" "turned_left" s_turned_left 61))
noncomputable def k_68 (P : Params) : Obj := (co #[(.str "turned_right" 278), (.str "turned_right" 279), (.str "/claim/cut.py" 280), (.int 29 0), (.int 3 0), (.int 0 0), (.int 0 0), (.int 3 0), (.ref 63), (.bool Bool.true), (.int 181 0), (.ref 64), .none, (.ref 65), (.ref 66), (.ref 67), (.int 284 0), (.int 29 0), (.str "/claim/cut.py" 285)])
noncomputable def k_69 (P : Params) : Obj := (fo (fu "turned_right" "turned_right" s_turned_right 68))
noncomputable def k_75 (P : Params) : Obj := (co #[(.str "idea_product" 287), (.str "idea_product" 288), (.str "/claim/cut.py" 289), (.int 31 0), (.int 2 0), (.int 0 0), (.int 0 0), (.int 3 0), (.ref 70), (.bool Bool.true), (.int 181 0), (.ref 71), .none, (.ref 72), (.ref 73), (.ref 74), (.int 292 0), (.int 31 0), (.str "/claim/cut.py" 293)])
noncomputable def k_76 (P : Params) : Obj := (fo (fu "idea_product" "idea_product" s_idea_product 75))
noncomputable def k_82 (P : Params) : Obj := (co #[(.str "idea_inverse" 295), (.str "idea_inverse" 296), (.str "/claim/cut.py" 297), (.int 35 0), (.int 1 0), (.int 0 0), (.int 0 0), (.int 3 0), (.ref 77), (.bool Bool.true), (.int 181 0), (.ref 78), .none, (.ref 79), (.ref 80), (.ref 81), (.int 301 0), (.int 35 0), (.str "/claim/cut.py" 302)])
noncomputable def k_83 (P : Params) : Obj := (fo (fu "idea_inverse" "idea_inverse" s_idea_inverse 82))
noncomputable def k_89 (P : Params) : Obj := (co #[(.str "idea_undoing" 304), (.str "idea_undoing" 305), (.str "/claim/cut.py" 306), (.int 40 0), (.int 1 0), (.int 0 0), (.int 0 0), (.int 3 0), (.ref 84), (.bool Bool.true), (.int 181 0), (.ref 85), .none, (.ref 86), (.ref 87), (.ref 88), (.int 311 0), (.int 40 0), (.str "/claim/cut.py" 312)])
noncomputable def k_90 (P : Params) : Obj := (fo (fu "idea_undoing" "idea_undoing" s_idea_undoing 89))
noncomputable def k_96 (P : Params) : Obj := (co #[(.str "idea_spread" 314), (.str "idea_spread" 315), (.str "/claim/cut.py" 316), (.int 48 0), (.int 1 0), (.int 0 0), (.int 0 0), (.int 3 0), (.ref 91), (.bool Bool.true), (.int 181 0), (.ref 92), .none, (.ref 93), (.ref 94), (.ref 95), (.int 320 0), (.int 48 0), (.str "/claim/cut.py" 321)])
noncomputable def k_97 (P : Params) : Obj := (fo (fu "idea_spread" "idea_spread" s_idea_spread 96))
noncomputable def k_103 (P : Params) : Obj := (co #[(.str "idea_keyed" 323), (.str "idea_keyed" 324), (.str "/claim/cut.py" 325), (.int 56 0), (.int 2 0), (.int 0 0), (.int 0 0), (.int 3 0), (.ref 98), (.bool Bool.true), (.int 181 0), (.ref 99), .none, (.ref 100), (.ref 101), (.ref 102), (.int 330 0), (.int 56 0), (.str "/claim/cut.py" 331)])
noncomputable def k_104 (P : Params) : Obj := (fo (fu "idea_keyed" "idea_keyed" s_idea_keyed 103))
noncomputable def k_110 (P : Params) : Obj := (co #[(.str "idea_mixed" 333), (.str "idea_mixed" 334), (.str "/claim/cut.py" 335), (.int 60 0), (.int 2 0), (.int 0 0), (.int 0 0), (.int 3 0), (.ref 105), (.bool Bool.true), (.int 181 0), (.ref 106), .none, (.ref 107), (.ref 108), (.ref 109), (.int 341 0), (.int 60 0), (.str "/claim/cut.py" 342)])
noncomputable def k_111 (P : Params) : Obj := (fo (fu "idea_mixed" "idea_mixed" s_idea_mixed 110))
noncomputable def k_117 (P : Params) : Obj := (co #[(.str "idea_swapped" 344), (.str "idea_swapped" 345), (.str "/claim/cut.py" 346), (.int 65 0), (.int 1 0), (.int 0 0), (.int 0 0), (.int 3 0), (.ref 112), (.bool Bool.true), (.int 181 0), (.ref 113), .none, (.ref 114), (.ref 115), (.ref 116), (.int 348 0), (.int 65 0), (.str "/claim/cut.py" 349)])
noncomputable def k_118 (P : Params) : Obj := (fo (fu "idea_swapped" "idea_swapped" s_idea_swapped 117))
noncomputable def k_124 (P : Params) : Obj := (co #[(.str "idea_seal" 351), (.str "idea_seal" 352), (.str "/claim/cut.py" 353), (.int 67 0), (.int 2 0), (.int 0 0), (.int 0 0), (.int 3 0), (.ref 119), (.bool Bool.true), (.int 181 0), (.ref 120), .none, (.ref 121), (.ref 122), (.ref 123), (.int 359 0), (.int 67 0), (.str "/claim/cut.py" 360)])
noncomputable def k_125 (P : Params) : Obj := (fo (fu "idea_seal" "idea_seal" s_idea_seal 124))
noncomputable def k_131 (P : Params) : Obj := (co #[(.str "idea_unseal" 362), (.str "idea_unseal" 363), (.str "/claim/cut.py" 364), (.int 73 0), (.int 2 0), (.int 0 0), (.int 0 0), (.int 3 0), (.ref 126), (.bool Bool.true), (.int 181 0), (.ref 127), .none, (.ref 128), (.ref 129), (.ref 130), (.int 370 0), (.int 73 0), (.str "/claim/cut.py" 371)])
noncomputable def k_132 (P : Params) : Obj := (fo (fu "idea_unseal" "idea_unseal" s_idea_unseal 131))
noncomputable def k_138 (P : Params) : Obj := (co #[(.str "xtea_spread" 373), (.str "xtea_spread" 374), (.str "/claim/cut.py" 375), (.int 80 0), (.int 1 0), (.int 0 0), (.int 0 0), (.int 3 0), (.ref 133), (.bool Bool.true), (.int 181 0), (.ref 134), .none, (.ref 135), (.ref 136), (.ref 137), (.int 381 0), (.int 80 0), (.str "/claim/cut.py" 382)])
noncomputable def k_139 (P : Params) : Obj := (fo (fu "xtea_spread" "xtea_spread" s_xtea_spread 138))
noncomputable def k_145 (P : Params) : Obj := (co #[(.str "xtea_mixed" 384), (.str "xtea_mixed" 385), (.str "/claim/cut.py" 386), (.int 89 0), (.int 2 0), (.int 0 0), (.int 0 0), (.int 3 0), (.ref 140), (.bool Bool.true), (.int 181 0), (.ref 141), .none, (.ref 142), (.ref 143), (.ref 144), (.int 389 0), (.int 89 0), (.str "/claim/cut.py" 390)])
noncomputable def k_146 (P : Params) : Obj := (fo (fu "xtea_mixed" "xtea_mixed" s_xtea_mixed 145))
noncomputable def k_152 (P : Params) : Obj := (co #[(.str "xtea_seal" 392), (.str "xtea_seal" 393), (.str "/claim/cut.py" 394), (.int 91 0), (.int 2 0), (.int 0 0), (.int 0 0), (.int 3 0), (.ref 147), (.bool Bool.true), (.int 181 0), (.ref 148), .none, (.ref 149), (.ref 150), (.ref 151), (.int 398 0), (.int 91 0), (.str "/claim/cut.py" 399)])
noncomputable def k_153 (P : Params) : Obj := (fo (fu "xtea_seal" "xtea_seal" s_xtea_seal 152))
noncomputable def k_159 (P : Params) : Obj := (co #[(.str "xtea_unseal" 401), (.str "xtea_unseal" 402), (.str "/claim/cut.py" 403), (.int 95 0), (.int 2 0), (.int 0 0), (.int 0 0), (.int 3 0), (.ref 154), (.bool Bool.true), (.int 181 0), (.ref 155), .none, (.ref 156), (.ref 157), (.ref 158), (.int 407 0), (.int 95 0), (.str "/claim/cut.py" 408)])
noncomputable def k_160 (P : Params) : Obj := (fo (fu "xtea_unseal" "xtea_unseal" s_xtea_unseal 159))
noncomputable def k_164 (P : Params) : Obj := (co #[(.str "rc_spread" 410), (.str "rc_spread" 411), (.str "/claim/cut.py" 412), (.int 99 0), (.int 2 0), (.int 0 0), (.int 0 0), (.int 3 0), (.ref 161), (.bool Bool.true), (.int 181 0), (.ref 162), .none, .none, .none, (.ref 163), (.int 413 0), (.int 99 0), (.str "/claim/cut.py" 414)])
noncomputable def k_165 (P : Params) : Obj := (fo (fu "rc_spread" "rc_spread" s_rc_spread 164))
noncomputable def k_171 (P : Params) : Obj := (co #[(.str "rc5_spread" 416), (.str "rc5_spread" 417), (.str "/claim/cut.py" 418), (.int 110 0), (.int 1 0), (.int 0 0), (.int 0 0), (.int 3 0), (.ref 166), (.bool Bool.true), (.int 181 0), (.ref 167), .none, (.ref 168), (.ref 169), (.ref 170), (.int 420 0), (.int 110 0), (.str "/claim/cut.py" 421)])
noncomputable def k_172 (P : Params) : Obj := (fo (fu "rc5_spread" "rc5_spread" s_rc5_spread 171))
noncomputable def k_178 (P : Params) : Obj := (co #[(.str "rc5_seal" 423), (.str "rc5_seal" 424), (.str "/claim/cut.py" 425), (.int 112 0), (.int 2 0), (.int 0 0), (.int 0 0), (.int 3 0), (.ref 173), (.bool Bool.true), (.int 181 0), (.ref 174), .none, (.ref 175), (.ref 176), (.ref 177), (.int 429 0), (.int 112 0), (.str "/claim/cut.py" 430)])
noncomputable def k_179 (P : Params) : Obj := (fo (fu "rc5_seal" "rc5_seal" s_rc5_seal 178))
noncomputable def k_185 (P : Params) : Obj := (co #[(.str "rc5_unseal" 432), (.str "rc5_unseal" 433), (.str "/claim/cut.py" 434), (.int 117 0), (.int 2 0), (.int 0 0), (.int 0 0), (.int 3 0), (.ref 180), (.bool Bool.true), (.int 181 0), (.ref 181), .none, (.ref 182), (.ref 183), (.ref 184), (.int 438 0), (.int 117 0), (.str "/claim/cut.py" 439)])
noncomputable def k_186 (P : Params) : Obj := (fo (fu "rc5_unseal" "rc5_unseal" s_rc5_unseal 185))
noncomputable def k_192 (P : Params) : Obj := (co #[(.str "rc6_spread" 441), (.str "rc6_spread" 442), (.str "/claim/cut.py" 443), (.int 121 0), (.int 1 0), (.int 0 0), (.int 0 0), (.int 3 0), (.ref 187), (.bool Bool.true), (.int 181 0), (.ref 188), .none, (.ref 189), (.ref 190), (.ref 191), (.int 445 0), (.int 121 0), (.str "/claim/cut.py" 446)])
noncomputable def k_193 (P : Params) : Obj := (fo (fu "rc6_spread" "rc6_spread" s_rc6_spread 192))
noncomputable def k_199 (P : Params) : Obj := (co #[(.str "rc6_turned" 448), (.str "rc6_turned" 449), (.str "/claim/cut.py" 450), (.int 123 0), (.int 1 0), (.int 0 0), (.int 0 0), (.int 3 0), (.ref 194), (.bool Bool.true), (.int 181 0), (.ref 195), .none, (.ref 196), (.ref 197), (.ref 198), (.int 452 0), (.int 123 0), (.str "/claim/cut.py" 453)])
noncomputable def k_200 (P : Params) : Obj := (fo (fu "rc6_turned" "rc6_turned" s_rc6_turned 199))
noncomputable def k_206 (P : Params) : Obj := (co #[(.str "rc6_round" 455), (.str "rc6_round" 456), (.str "/claim/cut.py" 457), (.int 125 0), (.int 3 0), (.int 0 0), (.int 0 0), (.int 3 0), (.ref 201), (.bool Bool.true), (.int 181 0), (.ref 202), .none, (.ref 203), (.ref 204), (.ref 205), (.int 465 0), (.int 125 0), (.str "/claim/cut.py" 466)])
noncomputable def k_207 (P : Params) : Obj := (fo (fu "rc6_round" "rc6_round" s_rc6_round 206))
noncomputable def k_213 (P : Params) : Obj := (co #[(.str "rc6_unround" 468), (.str "rc6_unround" 469), (.str "/claim/cut.py" 470), (.int 131 0), (.int 3 0), (.int 0 0), (.int 0 0), (.int 3 0), (.ref 208), (.bool Bool.true), (.int 181 0), (.ref 209), .none, (.ref 210), (.ref 211), (.ref 212), (.int 478 0), (.int 131 0), (.str "/claim/cut.py" 479)])
noncomputable def k_214 (P : Params) : Obj := (fo (fu "rc6_unround" "rc6_unround" s_rc6_unround 213))
noncomputable def k_220 (P : Params) : Obj := (co #[(.str "rc6_seal" 481), (.str "rc6_seal" 482), (.str "/claim/cut.py" 483), (.int 137 0), (.int 2 0), (.int 0 0), (.int 0 0), (.int 3 0), (.ref 215), (.bool Bool.true), (.int 181 0), (.ref 216), .none, (.ref 217), (.ref 218), (.ref 219), (.int 487 0), (.int 137 0), (.str "/claim/cut.py" 488)])
noncomputable def k_221 (P : Params) : Obj := (fo (fu "rc6_seal" "rc6_seal" s_rc6_seal 220))
noncomputable def k_227 (P : Params) : Obj := (co #[(.str "rc6_unseal" 490), (.str "rc6_unseal" 491), (.str "/claim/cut.py" 492), (.int 142 0), (.int 2 0), (.int 0 0), (.int 0 0), (.int 3 0), (.ref 222), (.bool Bool.true), (.int 181 0), (.ref 223), .none, (.ref 224), (.ref 225), (.ref 226), (.int 496 0), (.int 142 0), (.str "/claim/cut.py" 497)])
noncomputable def k_228 (P : Params) : Obj := (fo (fu "rc6_unseal" "rc6_unseal" s_rc6_unseal 227))
noncomputable def k_234 (P : Params) : Obj := (co #[(.str "speck_round" 499), (.str "speck_round" 500), (.str "/claim/cut.py" 501), (.int 147 0), (.int 2 0), (.int 0 0), (.int 0 0), (.int 3 0), (.ref 229), (.bool Bool.true), (.int 181 0), (.ref 230), .none, (.ref 231), (.ref 232), (.ref 233), (.int 505 0), (.int 147 0), (.str "/claim/cut.py" 506)])
noncomputable def k_235 (P : Params) : Obj := (fo (fu "speck_round" "speck_round" s_speck_round 234))
noncomputable def k_241 (P : Params) : Obj := (co #[(.str "speck_spread" 508), (.str "speck_spread" 509), (.str "/claim/cut.py" 510), (.int 150 0), (.int 1 0), (.int 0 0), (.int 0 0), (.int 3 0), (.ref 236), (.bool Bool.true), (.int 181 0), (.ref 237), .none, (.ref 238), (.ref 239), (.ref 240), (.int 515 0), (.int 150 0), (.str "/claim/cut.py" 516)])
noncomputable def k_242 (P : Params) : Obj := (fo (fu "speck_spread" "speck_spread" s_speck_spread 241))
noncomputable def k_248 (P : Params) : Obj := (co #[(.str "speck_seal" 518), (.str "speck_seal" 519), (.str "/claim/cut.py" 520), (.int 157 0), (.int 2 0), (.int 0 0), (.int 0 0), (.int 3 0), (.ref 243), (.bool Bool.true), (.int 181 0), (.ref 244), .none, (.ref 245), (.ref 246), (.ref 247), (.int 524 0), (.int 157 0), (.str "/claim/cut.py" 525)])
noncomputable def k_249 (P : Params) : Obj := (fo (fu "speck_seal" "speck_seal" s_speck_seal 248))
noncomputable def k_255 (P : Params) : Obj := (co #[(.str "speck_unseal" 527), (.str "speck_unseal" 528), (.str "/claim/cut.py" 529), (.int 161 0), (.int 2 0), (.int 0 0), (.int 0 0), (.int 3 0), (.ref 250), (.bool Bool.true), (.int 181 0), (.ref 251), .none, (.ref 252), (.ref 253), (.ref 254), (.int 534 0), (.int 161 0), (.str "/claim/cut.py" 535)])
noncomputable def k_256 (P : Params) : Obj := (fo (fu "speck_unseal" "speck_unseal" s_speck_unseal 255))
noncomputable def k_260 (P : Params) : Obj := (co #[(.str "threefish_sum" 537), (.str "threefish_sum" 538), (.str "/claim/cut.py" 539), (.int 166 0), (.int 2 0), (.int 0 0), (.int 0 0), (.int 3 0), (.ref 257), (.bool Bool.true), (.int 181 0), (.ref 258), .none, .none, .none, (.ref 259), (.int 540 0), (.int 166 0), (.str "/claim/cut.py" 541)])
noncomputable def k_261 (P : Params) : Obj := (fo (fu "threefish_sum" "threefish_sum" s_threefish_sum 260))
noncomputable def k_265 (P : Params) : Obj := (co #[(.str "threefish_difference" 543), (.str "threefish_difference" 544), (.str "/claim/cut.py" 545), (.int 168 0), (.int 2 0), (.int 0 0), (.int 0 0), (.int 3 0), (.ref 262), (.bool Bool.true), (.int 181 0), (.ref 263), .none, .none, .none, (.ref 264), (.int 546 0), (.int 168 0), (.str "/claim/cut.py" 547)])
noncomputable def k_266 (P : Params) : Obj := (fo (fu "threefish_difference" "threefish_difference" s_threefish_difference 265))
noncomputable def k_272 (P : Params) : Obj := (co #[(.str "threefish_spread" 549), (.str "threefish_spread" 550), (.str "/claim/cut.py" 551), (.int 170 0), (.int 1 0), (.int 0 0), (.int 0 0), (.int 3 0), (.ref 267), (.bool Bool.true), (.int 181 0), (.ref 268), .none, (.ref 269), (.ref 270), (.ref 271), (.int 558 0), (.int 170 0), (.str "/claim/cut.py" 559)])
noncomputable def k_273 (P : Params) : Obj := (fo (fu "threefish_spread" "threefish_spread" s_threefish_spread 272))
noncomputable def k_279 (P : Params) : Obj := (co #[(.str "threefish_round" 561), (.str "threefish_round" 562), (.str "/claim/cut.py" 563), (.int 180 0), (.int 2 0), (.int 0 0), (.int 0 0), (.int 3 0), (.ref 274), (.bool Bool.true), (.int 181 0), (.ref 275), .none, (.ref 276), (.ref 277), (.ref 278), (.int 570 0), (.int 180 0), (.str "/claim/cut.py" 571)])
noncomputable def k_280 (P : Params) : Obj := (fo (fu "threefish_round" "threefish_round" s_threefish_round 279))
noncomputable def k_286 (P : Params) : Obj := (co #[(.str "threefish_unround" 573), (.str "threefish_unround" 574), (.str "/claim/cut.py" 575), (.int 186 0), (.int 2 0), (.int 0 0), (.int 0 0), (.int 3 0), (.ref 281), (.bool Bool.true), (.int 181 0), (.ref 282), .none, (.ref 283), (.ref 284), (.ref 285), (.int 580 0), (.int 186 0), (.str "/claim/cut.py" 581)])
noncomputable def k_287 (P : Params) : Obj := (fo (fu "threefish_unround" "threefish_unround" s_threefish_unround 286))
noncomputable def k_293 (P : Params) : Obj := (co #[(.str "threefish_seal" 583), (.str "threefish_seal" 584), (.str "/claim/cut.py" 585), (.int 190 0), (.int 2 0), (.int 0 0), (.int 0 0), (.int 3 0), (.ref 288), (.bool Bool.true), (.int 181 0), (.ref 289), .none, (.ref 290), (.ref 291), (.ref 292), (.int 589 0), (.int 190 0), (.str "/claim/cut.py" 590)])
noncomputable def k_294 (P : Params) : Obj := (fo (fu "threefish_seal" "threefish_seal" s_threefish_seal 293))
noncomputable def k_300 (P : Params) : Obj := (co #[(.str "threefish_unseal" 592), (.str "threefish_unseal" 593), (.str "/claim/cut.py" 594), (.int 196 0), (.int 2 0), (.int 0 0), (.int 0 0), (.int 3 0), (.ref 295), (.bool Bool.true), (.int 181 0), (.ref 296), .none, (.ref 297), (.ref 298), (.ref 299), (.int 598 0), (.int 196 0), (.str "/claim/cut.py" 599)])
noncomputable def k_301 (P : Params) : Obj := (fo (fu "threefish_unseal" "threefish_unseal" s_threefish_unseal 300))
noncomputable def k_302 (P : Params) : Obj := (tp #[(.int 8 601), (.int 8 602), (.int 8 603), (.int 16 604), (.int 16 605), (.int 32 606)])
noncomputable def k_303 (P : Params) : Obj := (tp #[(.int 16 608), (.int 32 609), (.int 32 610), (.int 32 611), (.int 64 612), (.int 64 613)])
noncomputable def k_304 (P : Params) : Obj := (tp #[(.ref 43), (.ref 43), (.ref 50), (.ref 50), (.ref 50), (.ref 50)])
noncomputable def k_305 (P : Params) : Obj := (tp #[(.ref 97), (.ref 139), (.ref 172), (.ref 193), (.ref 242), (.ref 273)])
noncomputable def k_306 (P : Params) : Obj := (tp #[(.ref 125), (.ref 153), (.ref 179), (.ref 221), (.ref 249), (.ref 294)])
noncomputable def k_307 (P : Params) : Obj := (tp #[(.ref 132), (.ref 160), (.ref 186), (.ref 228), (.ref 256), (.ref 301)])
noncomputable def k_320 (P : Params) : Obj := (co #[(.str "__init__" 631), (.str "Sealer.__init__" 632), (.str "/claim/cut.py" 633), (.int 211 0), (.int 1 0), (.int 0 0), (.int 0 0), (.int 3 0), (.ref 315), (.bool Bool.true), (.int 181 0), (.ref 316), .none, (.ref 317), (.ref 318), (.ref 319), (.int 635 0), (.int 211 0), (.str "/claim/cut.py" 636)])
noncomputable def k_321 (P : Params) : Obj := (fo (fu "__init__" "Sealer.__init__" s___init__ 320))
noncomputable def k_327 (P : Params) : Obj := (co #[(.str "block_size" 638), (.str "Sealer.block_size" 639), (.str "/claim/cut.py" 640), (.int 216 0), (.int 1 0), (.int 0 0), (.int 0 0), (.int 3 0), (.ref 322), (.bool Bool.true), (.int 181 0), (.ref 323), .none, (.ref 324), (.ref 325), (.ref 326), (.int 642 0), (.int 216 0), (.str "/claim/cut.py" 643)])
noncomputable def k_328 (P : Params) : Obj := (fo (fu "block_size" "Sealer.block_size" s_block_size 327))
noncomputable def k_334 (P : Params) : Obj := (co #[(.str "take_key" 645), (.str "Sealer.take_key" 646), (.str "/claim/cut.py" 647), (.int 219 0), (.int 3 0), (.int 0 0), (.int 0 0), (.int 3 0), (.ref 329), (.bool Bool.true), (.int 181 0), (.ref 330), .none, (.ref 331), (.ref 332), (.ref 333), (.int 651 0), (.int 219 0), (.str "/claim/cut.py" 652)])
noncomputable def k_335 (P : Params) : Obj := (fo (fu "take_key" "Sealer.take_key" s_take_key 334))
noncomputable def k_341 (P : Params) : Obj := (co #[(.str "take_start" 654), (.str "Sealer.take_start" 655), (.str "/claim/cut.py" 656), (.int 227 0), (.int 2 0), (.int 0 0), (.int 0 0), (.int 3 0), (.ref 336), (.bool Bool.true), (.int 181 0), (.ref 337), .none, (.ref 338), (.ref 339), (.ref 340), (.int 659 0), (.int 227 0), (.str "/claim/cut.py" 660)])
noncomputable def k_342 (P : Params) : Obj := (fo (fu "take_start" "Sealer.take_start" s_take_start 341))
noncomputable def k_348 (P : Params) : Obj := (co #[(.str "run_blocks" 662), (.str "Sealer.run_blocks" 663), (.str "/claim/cut.py" 664), (.int 231 0), (.int 4 0), (.int 0 0), (.int 0 0), (.int 3 0), (.ref 343), (.bool Bool.true), (.int 181 0), (.ref 344), .none, (.ref 345), (.ref 346), (.ref 347), (.int 672 0), (.int 231 0), (.str "/claim/cut.py" 673)])
noncomputable def k_349 (P : Params) : Obj := (fo (fu "run_blocks" "Sealer.run_blocks" s_run_blocks 348))
noncomputable def k_355 (P : Params) : Obj := (co #[(.str "run_block" 675), (.str "Sealer.run_block" 676), (.str "/claim/cut.py" 677), (.int 240 0), (.int 3 0), (.int 0 0), (.int 0 0), (.int 3 0), (.ref 350), (.bool Bool.true), (.int 181 0), (.ref 351), .none, (.ref 352), (.ref 353), (.ref 354), (.int 682 0), (.int 240 0), (.str "/claim/cut.py" 683)])
noncomputable def k_356 (P : Params) : Obj := (fo (fu "run_block" "Sealer.run_block" s_run_block 355))
noncomputable def k_362 (P : Params) : Obj := (co #[(.str "sealed" 685), (.str "Sealer.sealed" 686), (.str "/claim/cut.py" 687), (.int 255 0), (.int 2 0), (.int 0 0), (.int 0 0), (.int 3 0), (.ref 357), (.bool Bool.true), (.int 181 0), (.ref 358), .none, (.ref 359), (.ref 360), (.ref 361), (.int 690 0), (.int 255 0), (.str "/claim/cut.py" 691)])
noncomputable def k_363 (P : Params) : Obj := (fo (fu "sealed" "Sealer.sealed" s_sealed 362))
noncomputable def k_369 (P : Params) : Obj := (co #[(.str "unsealed" 693), (.str "Sealer.unsealed" 694), (.str "/claim/cut.py" 695), (.int 258 0), (.int 2 0), (.int 0 0), (.int 0 0), (.int 3 0), (.ref 364), (.bool Bool.true), (.int 181 0), (.ref 365), .none, (.ref 366), (.ref 367), (.ref 368), (.int 698 0), (.int 258 0), (.str "/claim/cut.py" 699)])
noncomputable def k_370 (P : Params) : Obj := (fo (fu "unsealed" "Sealer.unsealed" s_unsealed 369))
noncomputable def k_376 (P : Params) : Obj := (co #[(.str "worked" 701), (.str "Sealer.worked" 702), (.str "/claim/cut.py" 703), (.int 261 0), (.int 3 0), (.int 0 0), (.int 0 0), (.int 3 0), (.ref 371), (.bool Bool.true), (.int 181 0), (.ref 372), .none, (.ref 373), (.ref 374), (.ref 375), (.int 709 0), (.int 261 0), (.str "/claim/cut.py" 710)])
noncomputable def k_377 (P : Params) : Obj := (fo (fu "worked" "Sealer.worked" s_worked 376))
noncomputable def k_379 (P : Params) : Obj := (Obj.mk (.type "dict") Option.none (Data.dict #[(de P "__module__" 626 (.str "sixciphers.blocks" 187)), (de P "__firstlineno__" 630 (.int 209 629)), (de P "__init__" 637 (.ref 321)), (de P "block_size" 644 (.ref 328)), (de P "take_key" 653 (.ref 335)), (de P "take_start" 661 (.ref 342)), (de P "run_blocks" 674 (.ref 349)), (de P "run_block" 684 (.ref 356)), (de P "sealed" 692 (.ref 363)), (de P "unsealed" 700 (.ref 370)), (de P "worked" 711 (.ref 377)), (de P "__static_attributes__" 715 (.ref 378)), (de P "__dict__" 717 (.ref 381)), (de P "__weakref__" 719 (.ref 382)), (de P "__doc__" 720 .none)] 4) #[])
noncomputable def k_380 (P : Params) : Obj := (Obj.mk (.type "type") Option.none (Data.cls (ClassData.mk "Sealer" [(.type "object")] [(.ref 380), (.type "object")] 379 "Sealer" Bool.true [] [] Bool.false Option.none Bool.false)) #[Option.none, Option.none, (Option.some (.str "Sealer" 619)), (Option.some (.str "Sealer" 627)), (Option.some (.builtin "object.__new__")), (Option.some (.bool Bool.true))])
noncomputable def k_381 (P : Params) : Obj := (Obj.mk (.type "getset_descriptor") Option.none (Data.fields #[(.str "__dict__" 716), (.ref 380), (.builtin "function.__dict__"), (.builtin "function.__dict__#set")]) #[])
noncomputable def k_382 (P : Params) : Obj := (Obj.mk (.type "getset_descriptor") Option.none (Data.fields #[(.str "__weakref__" 718), (.ref 380), (.builtin "ExceptionGroup.__weakref__"), .none]) #[])
noncomputable def k_390 (P : Params) : Obj := (co #[(.str "call_end" 723), (.str "call_end" 724), (.str "/claim/cut.py" 725), (.int 265 0), (.int 2 0), (.int 0 0), (.int 0 0), (.int 3 0), (.ref 385), (.bool Bool.true), (.int 181 0), (.ref 386), .none, (.ref 387), (.ref 388), (.ref 389), (.int 729 0), (.int 265 0), (.str "/claim/cut.py" 730)])
noncomputable def k_391 (P : Params) : Obj := (fo (fu "call_end" "call_end" s_call_end 390))
noncomputable def k_397 (P : Params) : Obj := (co #[(.str "call_answer" 732), (.str "call_answer" 733), (.str "/claim/cut.py" 734), (.int 270 0), (.int 2 0), (.int 0 0), (.int 0 0), (.int 3 0), (.ref 392), (.bool Bool.true), (.int 181 0), (.ref 393), .none, (.ref 394), (.ref 395), (.ref 396), (.int 737 0), (.int 270 0), (.str "/claim/cut.py" 738)])
noncomputable def k_398 (P : Params) : Obj := (fo (fu "call_answer" "call_answer" s_call_answer 397))
noncomputable def k_404 (P : Params) : Obj := (co #[(.str "answers" 740), (.str "answers" 741), (.str "/claim/cut.py" 742), (.int 278 0), (.int 1 0), (.int 0 0), (.int 0 0), (.int 3 0), (.ref 399), (.bool Bool.true), (.int 181 0), (.ref 400), .none, (.ref 401), (.ref 402), (.ref 403), (.int 749 0), (.int 278 0), (.str "/claim/cut.py" 750)])
noncomputable def k_405 (P : Params) : Obj := (fo (fu "answers" "answers" s_answers 404))
noncomputable def heapF : Params → Heap := fun P => Heap.mk (.mk (
PySem.W.boot_o_0 P ::
PySem.W.boot_o_1 P ::
k_2 P ::
k_3 P ::
PySem.W.boot_o_4 P ::
PySem.W.boot_o_5 P ::
PySem.W.boot_o_6 P ::
PySem.W.boot_o_7 P ::
PySem.W.boot_o_8 P ::
PySem.W.boot_o_9 P ::
PySem.W.boot_o_10 P ::
(tp #[]) ::
(Obj.mk .none Option.none (Data.fields #[(.int 13 0), (.int 0 0), (.ref 30), (.int 18 0), (.int 0 0), (.ref 35), (.int 20 0), (.int 0 0), (.ref 42), (.int 22 0), (.int 0 0), (.ref 49), (.int 24 0), (.int 0 0), (.ref 54), (.int 26 0), (.int 0 0), (.ref 61), (.int 29 0), (.int 0 0), (.ref 68), (.int 31 0), (.int 0 0), (.ref 75), (.int 35 0), (.int 0 0), (.ref 82), (.int 40 0), (.int 0 0), (.ref 89), (.int 48 0), (.int 0 0), (.ref 96), (.int 56 0), (.int 0 0), (.ref 103), (.int 60 0), (.int 0 0), (.ref 110), (.int 65 0), (.int 0 0), (.ref 117), (.int 67 0), (.int 0 0), (.ref 124), (.int 73 0), (.int 0 0), (.ref 131), (.int 80 0), (.int 0 0), (.ref 138), (.int 89 0), (.int 0 0), (.ref 145), (.int 91 0), (.int 0 0), (.ref 152), (.int 95 0), (.int 0 0), (.ref 159), (.int 99 0), (.int 0 0), (.ref 164), (.int 110 0), (.int 0 0), (.ref 171), (.int 112 0), (.int 0 0), (.ref 178), (.int 117 0), (.int 0 0), (.ref 185), (.int 121 0), (.int 0 0), (.ref 192), (.int 123 0), (.int 0 0), (.ref 199), (.int 125 0), (.int 0 0), (.ref 206), (.int 131 0), (.int 0 0), (.ref 213), (.int 137 0), (.int 0 0), (.ref 220), (.int 142 0), (.int 0 0), (.ref 227), (.int 147 0), (.int 0 0), (.ref 234), (.int 150 0), (.int 0 0), (.ref 241), (.int 157 0), (.int 0 0), (.ref 248), (.int 161 0), (.int 0 0), (.ref 255), (.int 166 0), (.int 0 0), (.ref 260), (.int 168 0), (.int 0 0), (.ref 265), (.int 170 0), (.int 0 0), (.ref 272), (.int 180 0), (.int 0 0), (.ref 279), (.int 186 0), (.int 0 0), (.ref 286), (.int 190 0), (.int 0 0), (.ref 293), (.int 196 0), (.int 0 0), (.ref 300), (.int 209 0), (.int 0 0), (.ref 313), (.int 265 0), (.int 0 0), (.ref 390), (.int 270 0), (.int 0 0), (.ref 397), (.int 278 0), (.int 0 0), (.ref 404)]) #[]) ::
(co #[(.str "<module>" 182), (.str "<module>" 183), (.str "/claim/cut.py" 184), (.int 1 0), (.int 0 0), (.int 0 0), (.int 0 0), (.int 0 0), (.ref 11), (.bool Bool.false), (.int 181 0), (.ref 12), .none, .none, .none, .none, (.int 185 0), (.int 1 0), (.str "/claim/cut.py" 186)]) ::
(Obj.mk (.type "frame") Option.none Data.plain #[(Option.some (.ref 13)), (Option.some (.ref 3)), (Option.some (.ref 3)), Option.none, (Option.some (.str "__main__" 164)), Option.none, (Option.some (.ref 0))]) ::
k_15 P ::
k_16 P ::
k_17 P ::
k_18 P ::
k_19 P ::
k_20 P ::
k_21 P ::
k_22 P ::
k_23 P ::
k_24 P ::
(tp #[]) ::
(Obj.mk .none Option.none (Data.fields #[]) #[]) ::
(tp #[(.str "row" 232), (.str "bits" 233), (.str "number" 234), (.str "part" 235)]) ::
(tp #[]) ::
(fc "number_from" "number_from" s_number_from) ::
k_30 P ::
k_31 P ::
(tp #[]) ::
(Obj.mk .none Option.none (Data.fields #[]) #[]) ::
(fc "row_from" "row_from" s_row_from) ::
k_35 P ::
k_36 P ::
(tp #[]) ::
(Obj.mk .none Option.none (Data.fields #[]) #[]) ::
(tp #[(.str "row" 248), (.str "bits" 249), (.str "new_bits" 250)]) ::
(tp #[]) ::
(fc "highest_first" "highest_first" s_highest_first) ::
k_42 P ::
k_43 P ::
(tp #[]) ::
(Obj.mk .none Option.none (Data.fields #[]) #[]) ::
(tp #[(.str "row" 257), (.str "bits" 258), (.str "new_bits" 259)]) ::
(tp #[]) ::
(fc "lowest_first" "lowest_first" s_lowest_first) ::
k_49 P ::
k_50 P ::
(tp #[]) ::
(Obj.mk .none Option.none (Data.fields #[]) #[]) ::
(fc "exclusive_or" "exclusive_or" s_exclusive_or) ::
k_54 P ::
k_55 P ::
(tp #[]) ::
(Obj.mk .none Option.none (Data.fields #[]) #[]) ::
(tp #[(.str "x" 272), (.str "k" 273), (.str "bits" 274)]) ::
(tp #[]) ::
(fc "turned_left" "turned_left" s_turned_left) ::
k_61 P ::
k_62 P ::
(tp #[]) ::
(Obj.mk .none Option.none (Data.fields #[]) #[]) ::
(tp #[(.str "x" 281), (.str "k" 282), (.str "bits" 283)]) ::
(tp #[]) ::
(fc "turned_right" "turned_right" s_turned_right) ::
k_68 P ::
k_69 P ::
(tp #[]) ::
(Obj.mk .none Option.none (Data.fields #[]) #[]) ::
(tp #[(.str "x" 290), (.str "y" 291)]) ::
(tp #[]) ::
(fc "idea_product" "idea_product" s_idea_product) ::
k_75 P ::
k_76 P ::
(tp #[]) ::
(Obj.mk .none Option.none (Data.fields #[]) #[]) ::
(tp #[(.str "x" 298), (.str "inverse" 299), (.str "step" 300)]) ::
(tp #[]) ::
(fc "idea_inverse" "idea_inverse" s_idea_inverse) ::
k_82 P ::
k_83 P ::
(tp #[]) ::
(Obj.mk .none Option.none (Data.fields #[]) #[]) ::
(tp #[(.str "keys" 307), (.str "undoing" 308), (.str "i" 309), (.str "k" 310)]) ::
(tp #[]) ::
(fc "idea_undoing" "idea_undoing" s_idea_undoing) ::
k_89 P ::
k_90 P ::
(tp #[]) ::
(Obj.mk .none Option.none (Data.fields #[]) #[]) ::
(tp #[(.str "key" 317), (.str "number" 318), (.str "keys" 319)]) ::
(tp #[]) ::
(fc "idea_spread" "idea_spread" s_idea_spread) ::
k_96 P ::
k_97 P ::
(tp #[]) ::
(Obj.mk .none Option.none (Data.fields #[]) #[]) ::
(tp #[(.str "words" 326), (.str "k" 327), (.str "b" 328), (.str "c" 329)]) ::
(tp #[]) ::
(fc "idea_keyed" "idea_keyed" s_idea_keyed) ::
k_103 P ::
k_104 P ::
(tp #[]) ::
(Obj.mk .none Option.none (Data.fields #[]) #[]) ::
(tp #[(.str "words" 336), (.str "k" 337), (.str "e" 338), (.str "f" 339), (.str "g" 340)]) ::
(tp #[]) ::
(fc "idea_mixed" "idea_mixed" s_idea_mixed) ::
k_110 P ::
k_111 P ::
(tp #[]) ::
(Obj.mk .none Option.none (Data.fields #[]) #[]) ::
(tp #[(.str "words" 347)]) ::
(tp #[]) ::
(fc "idea_swapped" "idea_swapped" s_idea_swapped) ::
k_117 P ::
k_118 P ::
(tp #[]) ::
(Obj.mk .none Option.none (Data.fields #[]) #[]) ::
(tp #[(.str "words" 354), (.str "schedule" 355), (.str "keys" 356), (.str "at" 357), (.str "k" 358)]) ::
(tp #[]) ::
(fc "idea_seal" "idea_seal" s_idea_seal) ::
k_124 P ::
k_125 P ::
(tp #[]) ::
(Obj.mk .none Option.none (Data.fields #[]) #[]) ::
(tp #[(.str "words" 365), (.str "schedule" 366), (.str "keys" 367), (.str "at" 368), (.str "k" 369)]) ::
(tp #[]) ::
(fc "idea_unseal" "idea_unseal" s_idea_unseal) ::
k_131 P ::
k_132 P ::
(tp #[]) ::
(Obj.mk .none Option.none (Data.fields #[]) #[]) ::
(tp #[(.str "key" 376), (.str "k" 377), (.str "sums" 378), (.str "i" 379), (.str "s" 380)]) ::
(tp #[]) ::
(fc "xtea_spread" "xtea_spread" s_xtea_spread) ::
k_138 P ::
k_139 P ::
(tp #[]) ::
(Obj.mk .none Option.none (Data.fields #[]) #[]) ::
(tp #[(.str "v" 387), (.str "keyed_sum" 388)]) ::
(tp #[]) ::
(fc "xtea_mixed" "xtea_mixed" s_xtea_mixed) ::
k_145 P ::
k_146 P ::
(tp #[]) ::
(Obj.mk .none Option.none (Data.fields #[]) #[]) ::
(tp #[(.str "words" 395), (.str "sums" 396), (.str "keyed_sum" 397)]) ::
(tp #[]) ::
(fc "xtea_seal" "xtea_seal" s_xtea_seal) ::
k_152 P ::
k_153 P ::
(tp #[]) ::
(Obj.mk .none Option.none (Data.fields #[]) #[]) ::
(tp #[(.str "words" 404), (.str "sums" 405), (.str "keyed_sum" 406)]) ::
(tp #[]) ::
(fc "xtea_unseal" "xtea_unseal" s_xtea_unseal) ::
k_159 P ::
k_160 P ::
(tp #[]) ::
(Obj.mk .none Option.none (Data.fields #[]) #[]) ::
(fc "rc_spread" "rc_spread" s_rc_spread) ::
k_164 P ::
k_165 P ::
(tp #[]) ::
(Obj.mk .none Option.none (Data.fields #[]) #[]) ::
(tp #[(.str "key" 419)]) ::
(tp #[]) ::
(fc "rc5_spread" "rc5_spread" s_rc5_spread) ::
k_171 P ::
k_172 P ::
(tp #[]) ::
(Obj.mk .none Option.none (Data.fields #[]) #[]) ::
(tp #[(.str "words" 426), (.str "s" 427), (.str "k" 428)]) ::
(tp #[]) ::
(fc "rc5_seal" "rc5_seal" s_rc5_seal) ::
k_178 P ::
k_179 P ::
(tp #[]) ::
(Obj.mk .none Option.none (Data.fields #[]) #[]) ::
(tp #[(.str "words" 435), (.str "s" 436), (.str "k" 437)]) ::
(tp #[]) ::
(fc "rc5_unseal" "rc5_unseal" s_rc5_unseal) ::
k_185 P ::
k_186 P ::
(tp #[]) ::
(Obj.mk .none Option.none (Data.fields #[]) #[]) ::
(tp #[(.str "key" 444)]) ::
(tp #[]) ::
(fc "rc6_spread" "rc6_spread" s_rc6_spread) ::
k_192 P ::
k_193 P ::
(tp #[]) ::
(Obj.mk .none Option.none (Data.fields #[]) #[]) ::
(tp #[(.str "x" 451)]) ::
(tp #[]) ::
(fc "rc6_turned" "rc6_turned" s_rc6_turned) ::
k_199 P ::
k_200 P ::
(tp #[]) ::
(Obj.mk .none Option.none (Data.fields #[]) #[]) ::
(tp #[(.str "words" 458), (.str "k0" 459), (.str "k1" 460), (.str "t" 461), (.str "u" 462), (.str "a" 463), (.str "c" 464)]) ::
(tp #[]) ::
(fc "rc6_round" "rc6_round" s_rc6_round) ::
k_206 P ::
k_207 P ::
(tp #[]) ::
(Obj.mk .none Option.none (Data.fields #[]) #[]) ::
(tp #[(.str "words" 471), (.str "k0" 472), (.str "k1" 473), (.str "t" 474), (.str "u" 475), (.str "a" 476), (.str "c" 477)]) ::
(tp #[]) ::
(fc "rc6_unround" "rc6_unround" s_rc6_unround) ::
k_213 P ::
k_214 P ::
(tp #[]) ::
(Obj.mk .none Option.none (Data.fields #[]) #[]) ::
(tp #[(.str "words" 484), (.str "s" 485), (.str "i" 486)]) ::
(tp #[]) ::
(fc "rc6_seal" "rc6_seal" s_rc6_seal) ::
k_220 P ::
k_221 P ::
(tp #[]) ::
(Obj.mk .none Option.none (Data.fields #[]) #[]) ::
(tp #[(.str "words" 493), (.str "s" 494), (.str "i" 495)]) ::
(tp #[]) ::
(fc "rc6_unseal" "rc6_unseal" s_rc6_unseal) ::
k_227 P ::
k_228 P ::
(tp #[]) ::
(Obj.mk .none Option.none (Data.fields #[]) #[]) ::
(tp #[(.str "words" 502), (.str "k" 503), (.str "x" 504)]) ::
(tp #[]) ::
(fc "speck_round" "speck_round" s_speck_round) ::
k_234 P ::
k_235 P ::
(tp #[]) ::
(Obj.mk .none Option.none (Data.fields #[]) #[]) ::
(tp #[(.str "key" 511), (.str "words" 512), (.str "keys" 513), (.str "i" 514)]) ::
(tp #[]) ::
(fc "speck_spread" "speck_spread" s_speck_spread) ::
k_241 P ::
k_242 P ::
(tp #[]) ::
(Obj.mk .none Option.none (Data.fields #[]) #[]) ::
(tp #[(.str "words" 521), (.str "keys" 522), (.str "k" 523)]) ::
(tp #[]) ::
(fc "speck_seal" "speck_seal" s_speck_seal) ::
k_248 P ::
k_249 P ::
(tp #[]) ::
(Obj.mk .none Option.none (Data.fields #[]) #[]) ::
(tp #[(.str "words" 530), (.str "keys" 531), (.str "k" 532), (.str "y" 533)]) ::
(tp #[]) ::
(fc "speck_unseal" "speck_unseal" s_speck_unseal) ::
k_255 P ::
k_256 P ::
(tp #[]) ::
(Obj.mk .none Option.none (Data.fields #[]) #[]) ::
(fc "threefish_sum" "threefish_sum" s_threefish_sum) ::
k_260 P ::
k_261 P ::
(tp #[]) ::
(Obj.mk .none Option.none (Data.fields #[]) #[]) ::
(fc "threefish_difference" "threefish_difference" s_threefish_difference) ::
k_265 P ::
k_266 P ::
(tp #[]) ::
(Obj.mk .none Option.none (Data.fields #[]) #[]) ::
(tp #[(.str "key" 552), (.str "k" 553), (.str "t" 554), (.str "schedule" 555), (.str "s" 556), (.str "untweaked" 557)]) ::
(tp #[]) ::
(fc "threefish_spread" "threefish_spread" s_threefish_spread) ::
k_272 P ::
k_273 P ::
(tp #[]) ::
(Obj.mk .none Option.none (Data.fields #[]) #[]) ::
(tp #[(.str "words" 564), (.str "turns" 565), (.str "a" 566), (.str "b" 567), (.str "c" 568), (.str "d" 569)]) ::
(tp #[]) ::
(fc "threefish_round" "threefish_round" s_threefish_round) ::
k_279 P ::
k_280 P ::
(tp #[]) ::
(Obj.mk .none Option.none (Data.fields #[]) #[]) ::
(tp #[(.str "words" 576), (.str "turns" 577), (.str "b" 578), (.str "d" 579)]) ::
(tp #[]) ::
(fc "threefish_unround" "threefish_unround" s_threefish_unround) ::
k_286 P ::
k_287 P ::
(tp #[]) ::
(Obj.mk .none Option.none (Data.fields #[]) #[]) ::
(tp #[(.str "words" 586), (.str "schedule" 587), (.str "i" 588)]) ::
(tp #[]) ::
(fc "threefish_seal" "threefish_seal" s_threefish_seal) ::
k_293 P ::
k_294 P ::
(tp #[]) ::
(Obj.mk .none Option.none (Data.fields #[]) #[]) ::
(tp #[(.str "words" 595), (.str "schedule" 596), (.str "i" 597)]) ::
(tp #[]) ::
(fc "threefish_unseal" "threefish_unseal" s_threefish_unseal) ::
k_300 P ::
k_301 P ::
k_302 P ::
k_303 P ::
k_304 P ::
k_305 P ::
k_306 P ::
k_307 P ::
(tp #[]) ::
(Obj.mk (.type "builtin_function_or_method") Option.none (Data.fields #[(.builtin "type.__prepare__"), (.type "type")]) #[]) ::
(Obj.mk (.type "dict") Option.none (Data.dict #[(de P "__module__" 626 (.str "sixciphers.blocks" 187)), (de P "__qualname__" 628 (.str "Sealer" 627)), (de P "__firstlineno__" 630 (.int 209 629)), (de P "__init__" 637 (.ref 321)), (de P "block_size" 644 (.ref 328)), (de P "take_key" 653 (.ref 335)), (de P "take_start" 661 (.ref 342)), (de P "run_blocks" 674 (.ref 349)), (de P "run_block" 684 (.ref 356)), (de P "sealed" 692 (.ref 363)), (de P "unsealed" 700 (.ref 370)), (de P "worked" 711 (.ref 377)), (de P "__static_attributes__" 715 (.ref 378))] 13) #[]) ::
(tp #[]) ::
(Obj.mk .none Option.none (Data.fields #[(.int 211 0), (.int 4 0), (.ref 320), (.int 216 0), (.int 4 0), (.ref 327), (.int 219 0), (.int 4 0), (.ref 334), (.int 227 0), (.int 4 0), (.ref 341), (.int 231 0), (.int 4 0), (.ref 348), (.int 240 0), (.int 4 0), (.ref 355), (.int 255 0), (.int 4 0), (.ref 362), (.int 258 0), (.int 4 0), (.ref 369), (.int 261 0), (.int 4 0), (.ref 376)]) #[]) ::
(co #[(.str "Sealer" 621), (.str "Sealer" 622), (.str "/claim/cut.py" 623), (.int 209 0), (.int 0 0), (.int 0 0), (.int 0 0), (.int 0 0), (.ref 311), (.bool Bool.false), (.int 181 0), (.ref 312), .none, .none, .none, .none, (.int 624 0), (.int 209 0), (.str "/claim/cut.py" 625)]) ::
(Obj.mk (.type "frame") Option.none Data.plain #[(Option.some (.ref 313)), (Option.some (.ref 3)), (Option.some (.ref 310)), Option.none, (Option.some (.str "sixciphers.blocks" 187)), Option.none, (Option.some (.ref 0))]) ::
(tp #[]) ::
(Obj.mk .none Option.none (Data.fields #[]) #[]) ::
(tp #[(.str "self" 634)]) ::
(tp #[]) ::
(fc "__init__" "Sealer.__init__" s___init__) ::
k_320 P ::
k_321 P ::
(tp #[]) ::
(Obj.mk .none Option.none (Data.fields #[]) #[]) ::
(tp #[(.str "self" 641)]) ::
(tp #[]) ::
(fc "block_size" "Sealer.block_size" s_block_size) ::
k_327 P ::
k_328 P ::
(tp #[]) ::
(Obj.mk .none Option.none (Data.fields #[]) #[]) ::
(tp #[(.str "self" 648), (.str "cipher" 649), (.str "key" 650)]) ::
(tp #[]) ::
(fc "take_key" "Sealer.take_key" s_take_key) ::
k_334 P ::
k_335 P ::
(tp #[]) ::
(Obj.mk .none Option.none (Data.fields #[]) #[]) ::
(tp #[(.str "self" 657), (.str "iv" 658)]) ::
(tp #[]) ::
(fc "take_start" "Sealer.take_start" s_take_start) ::
k_341 P ::
k_342 P ::
(tp #[]) ::
(Obj.mk .none Option.none (Data.fields #[]) #[]) ::
(tp #[(.str "self" 665), (.str "way" 666), (.str "n" 667), (.str "data" 668), (.str "size" 669), (.str "answer" 670), (.str "at" 671)]) ::
(tp #[]) ::
(fc "run_blocks" "Sealer.run_blocks" s_run_blocks) ::
k_348 P ::
k_349 P ::
(tp #[]) ::
(Obj.mk .none Option.none (Data.fields #[]) #[]) ::
(tp #[(.str "self" 678), (.str "way" 679), (.str "block" 680), (.str "before" 681)]) ::
(tp #[]) ::
(fc "run_block" "Sealer.run_block" s_run_block) ::
k_355 P ::
k_356 P ::
(tp #[]) ::
(Obj.mk .none Option.none (Data.fields #[]) #[]) ::
(tp #[(.str "self" 688), (.str "block" 689)]) ::
(tp #[]) ::
(fc "sealed" "Sealer.sealed" s_sealed) ::
k_362 P ::
k_363 P ::
(tp #[]) ::
(Obj.mk .none Option.none (Data.fields #[]) #[]) ::
(tp #[(.str "self" 696), (.str "block" 697)]) ::
(tp #[]) ::
(fc "unsealed" "Sealer.unsealed" s_unsealed) ::
k_369 P ::
k_370 P ::
(tp #[]) ::
(Obj.mk .none Option.none (Data.fields #[]) #[]) ::
(tp #[(.str "self" 704), (.str "work" 705), (.str "block" 706), (.str "regroup" 707), (.str "bits" 708)]) ::
(tp #[]) ::
(fc "worked" "Sealer.worked" s_worked) ::
k_376 P ::
k_377 P ::
(tp #[(.str "cipher" 712), (.str "schedule" 713), (.str "standing" 714)]) ::
k_379 P ::
k_380 P ::
k_381 P ::
k_382 P ::
(Obj.mk (.type "super") Option.none (Data.fields #[(.ref 380), (.ref 380), (.ref 380)]) #[]) ::
(Obj.mk (.type "builtin_function_or_method") Option.none (Data.fields #[(.builtin "object.__init_subclass__"), (.ref 380)]) #[]) ::
(tp #[]) ::
(Obj.mk .none Option.none (Data.fields #[]) #[]) ::
(tp #[(.str "calls" 726), (.str "at" 727), (.str "count_at" 728)]) ::
(tp #[]) ::
(fc "call_end" "call_end" s_call_end) ::
k_390 P ::
k_391 P ::
(tp #[]) ::
(Obj.mk .none Option.none (Data.fields #[]) #[]) ::
(tp #[(.str "sealer" 735), (.str "call" 736)]) ::
(tp #[]) ::
(fc "call_answer" "call_answer" s_call_answer) ::
k_397 P ::
k_398 P ::
(tp #[]) ::
(Obj.mk .none Option.none (Data.fields #[]) #[]) ::
(tp #[(.str "calls" 743), (.str "sealer" 744), (.str "found" 745), (.str "at" 746), (.str "end" 747), (.str "answer" 748)]) ::
(tp #[]) ::
(fc "answers" "answers" s_answers) ::
k_404 P ::
k_405 P ::
[])) {}
noncomputable def heapK : PySem.Params → PySem.W.Frag := fun P => (nat_lit 2, k_2 P) :: (nat_lit 3, k_3 P) :: (nat_lit 15, k_15 P) :: (nat_lit 16, k_16 P) :: (nat_lit 17, k_17 P) :: (nat_lit 18, k_18 P) :: (nat_lit 19, k_19 P) :: (nat_lit 20, k_20 P) :: (nat_lit 21, k_21 P) :: (nat_lit 22, k_22 P) :: (nat_lit 23, k_23 P) :: (nat_lit 24, k_24 P) :: (nat_lit 30, k_30 P) :: (nat_lit 31, k_31 P) :: (nat_lit 35, k_35 P) :: (nat_lit 36, k_36 P) :: (nat_lit 42, k_42 P) :: (nat_lit 43, k_43 P) :: (nat_lit 49, k_49 P) :: (nat_lit 50, k_50 P) :: (nat_lit 54, k_54 P) :: (nat_lit 55, k_55 P) :: (nat_lit 61, k_61 P) :: (nat_lit 62, k_62 P) :: (nat_lit 68, k_68 P) :: (nat_lit 69, k_69 P) :: (nat_lit 75, k_75 P) :: (nat_lit 76, k_76 P) :: (nat_lit 82, k_82 P) :: (nat_lit 83, k_83 P) :: (nat_lit 89, k_89 P) :: (nat_lit 90, k_90 P) :: (nat_lit 96, k_96 P) :: (nat_lit 97, k_97 P) :: (nat_lit 103, k_103 P) :: (nat_lit 104, k_104 P) :: (nat_lit 110, k_110 P) :: (nat_lit 111, k_111 P) :: (nat_lit 117, k_117 P) :: (nat_lit 118, k_118 P) :: (nat_lit 124, k_124 P) :: (nat_lit 125, k_125 P) :: (nat_lit 131, k_131 P) :: (nat_lit 132, k_132 P) :: (nat_lit 138, k_138 P) :: (nat_lit 139, k_139 P) :: (nat_lit 145, k_145 P) :: (nat_lit 146, k_146 P) :: (nat_lit 152, k_152 P) :: (nat_lit 153, k_153 P) :: (nat_lit 159, k_159 P) :: (nat_lit 160, k_160 P) :: (nat_lit 164, k_164 P) :: (nat_lit 165, k_165 P) :: (nat_lit 171, k_171 P) :: (nat_lit 172, k_172 P) :: (nat_lit 178, k_178 P) :: (nat_lit 179, k_179 P) :: (nat_lit 185, k_185 P) :: (nat_lit 186, k_186 P) :: (nat_lit 192, k_192 P) :: (nat_lit 193, k_193 P) :: (nat_lit 199, k_199 P) :: (nat_lit 200, k_200 P) :: (nat_lit 206, k_206 P) :: (nat_lit 207, k_207 P) :: (nat_lit 213, k_213 P) :: (nat_lit 214, k_214 P) :: (nat_lit 220, k_220 P) :: (nat_lit 221, k_221 P) :: (nat_lit 227, k_227 P) :: (nat_lit 228, k_228 P) :: (nat_lit 234, k_234 P) :: (nat_lit 235, k_235 P) :: (nat_lit 241, k_241 P) :: (nat_lit 242, k_242 P) :: (nat_lit 248, k_248 P) :: (nat_lit 249, k_249 P) :: (nat_lit 255, k_255 P) :: (nat_lit 256, k_256 P) :: (nat_lit 260, k_260 P) :: (nat_lit 261, k_261 P) :: (nat_lit 265, k_265 P) :: (nat_lit 266, k_266 P) :: (nat_lit 272, k_272 P) :: (nat_lit 273, k_273 P) :: (nat_lit 279, k_279 P) :: (nat_lit 280, k_280 P) :: (nat_lit 286, k_286 P) :: (nat_lit 287, k_287 P) :: (nat_lit 293, k_293 P) :: (nat_lit 294, k_294 P) :: (nat_lit 300, k_300 P) :: (nat_lit 301, k_301 P) :: (nat_lit 302, k_302 P) :: (nat_lit 303, k_303 P) :: (nat_lit 304, k_304 P) :: (nat_lit 305, k_305 P) :: (nat_lit 306, k_306 P) :: (nat_lit 307, k_307 P) :: (nat_lit 320, k_320 P) :: (nat_lit 321, k_321 P) :: (nat_lit 327, k_327 P) :: (nat_lit 328, k_328 P) :: (nat_lit 334, k_334 P) :: (nat_lit 335, k_335 P) :: (nat_lit 341, k_341 P) :: (nat_lit 342, k_342 P) :: (nat_lit 348, k_348 P) :: (nat_lit 349, k_349 P) :: (nat_lit 355, k_355 P) :: (nat_lit 356, k_356 P) :: (nat_lit 362, k_362 P) :: (nat_lit 363, k_363 P) :: (nat_lit 369, k_369 P) :: (nat_lit 370, k_370 P) :: (nat_lit 376, k_376 P) :: (nat_lit 377, k_377 P) :: (nat_lit 379, k_379 P) :: (nat_lit 380, k_380 P) :: (nat_lit 381, k_381 P) :: (nat_lit 382, k_382 P) :: (nat_lit 390, k_390 P) :: (nat_lit 391, k_391 P) :: (nat_lit 397, k_397 P) :: (nat_lit 398, k_398 P) :: (nat_lit 404, k_404 P) :: (nat_lit 405, k_405 P) :: []
def addrs : List Addr := 2 :: 3 :: 15 :: 16 :: 17 :: 18 :: 19 :: 20 :: 21 :: 22 :: 23 :: 24 :: 30 :: 31 :: 35 :: 36 :: 42 :: 43 :: 49 :: 50 :: 54 :: 55 :: 61 :: 62 :: 68 :: 69 :: 75 :: 76 :: 82 :: 83 :: 89 :: 90 :: 96 :: 97 :: 103 :: 104 :: 110 :: 111 :: 117 :: 118 :: 124 :: 125 :: 131 :: 132 :: 138 :: 139 :: 145 :: 146 :: 152 :: 153 :: 159 :: 160 :: 164 :: 165 :: 171 :: 172 :: 178 :: 179 :: 185 :: 186 :: 192 :: 193 :: 199 :: 200 :: 206 :: 207 :: 213 :: 214 :: 220 :: 221 :: 227 :: 228 :: 234 :: 235 :: 241 :: 242 :: 248 :: 249 :: 255 :: 256 :: 260 :: 261 :: 265 :: 266 :: 272 :: 273 :: 279 :: 280 :: 286 :: 287 :: 293 :: 294 :: 300 :: 301 :: 302 :: 303 :: 304 :: 305 :: 306 :: 307 :: 320 :: 321 :: 327 :: 328 :: 334 :: 335 :: 341 :: 342 :: 348 :: 349 :: 355 :: 356 :: 362 :: 363 :: 369 :: 370 :: 376 :: 377 :: 379 :: 380 :: 381 :: 382 :: 390 :: 391 :: 397 :: 398 :: 404 :: 405 :: []
theorem addrs_eq : ∀ P, addrs = (heapK P).map (·.1) := fun _ => by kernel_rfl
/-! ### the top's run -/
theorem h_open : ∀ w : World, (PySem.W.fencedOpening treeTable PySem.Challenge.rw_sixciphers_s01_answers.prog w 4354).map (fun s => (s.heap, s.gens, s.drawn, s.toks)) = some (PySem.W.boot_heap w.params, Array.mk [], PySem.W.boot_drawn, PySem.W.boot_toks) :=
  PySem.W.boot_open (by kernel_rfl) (by decide) (fun s => by kernel_rfl)
theorem h_size : ∀ w : World, ((PySem.W.boot_heap w.params).isNs mainGlobals && (Array.mk [] : Array GenState).size == 0, (PySem.W.boot_heap w.params).objs.size, (PySem.W.boot_heap w.params).nsMap mainGlobals "__annotations__") = (true, 11, some (.ref 6)) := fun w => by kernel_rfl
theorem h_run : ∀ (w : World) (os : OsState), topRun treeTable PySem.Challenge.rw_sixciphers_s01_answers.prog w 11 (some (.ref 6)) 2135 ⟨PySem.W.boot_heap w.params, Array.mk [], PySem.W.boot_drawn, PySem.W.boot_toks, os⟩ (topStub PySem.Challenge.rw_sixciphers_s01_answers.prog) = some ⟨heapF w.params, Array.mk [], {}, 752, os⟩ := fun w os => by
  rewrite [PySem.W.Fast.te14082659384304107361, PySem.W.Fast.te14364793385576792824]
  kernel_rfl
theorem h_stat : ∀ (w : World) (os : OsState), (PySem.W.staticsOk (importedModules PySem.Challenge.rw_sixciphers_s01_answers.prog.main.body) (PySem.W.boot_heap w.params) (heapF w.params) && PySem.W.namesBound PySem.Challenge.rw_sixciphers_s01_answers.prog (heapF w.params) && PySem.W.gensDone ⟨heapF w.params, Array.mk [], {}, 752, os⟩ && PySem.W.laidKept (PySem.W.boot_heap w.params) (heapF w.params)) = true := fun w os => by kernel_rfl
theorem h_seen : ∀ (w : World) (os : OsState), openSeen vw ["REGROUPS", "SPREADS", "SEALS", "UNSEALS"] (importedModules PySem.Challenge.rw_sixciphers_s01_answers.prog.main.body) (fun s => xlAt vw [] s && recOk [] s) true ⟨heapF w.params, Array.mk [], {}, 752, os⟩ = openGood vw ["REGROUPS", "SPREADS", "SEALS", "UNSEALS"] := fun w os => by
  rewrite [PySem.W.Fast.te4187177175401517315]
  kernel_rfl
theorem h_obs : ∀ (w : World) (os : OsState), Hook.obs (kHook heapK addrs addrs_eq) ⟨heapF w.params, Array.mk [], {}, 752, os⟩ = Hook.val (kHook heapK addrs addrs_eq) w := fun w os => by kernel_rfl
theorem topLeft : LeftO PySem.Challenge.rw_sixciphers_s01_answers.prog vw ["REGROUPS", "SPREADS", "SEALS", "UNSEALS"] (fun s => xlAt vw [] s && recOk [] s) (Hook.obs (kHook heapK addrs addrs_eq)) (Hook.val (kHook heapK addrs addrs_eq)) 4354 :=
  LeftO.of_pieces (H₀ := PySem.W.boot_heap) (H₁ := heapF) h_open h_size h_run (by decide) fun w => funext fun os => by
    rw [h_stat, h_seen, h_obs]
end Sx
end
section
set_option Elab.async false
set_option linter.all false
set_option maxRecDepth 100000
set_option maxHeartbeats 2000000
set_option exponentiation.threshold 2000
namespace L2
open PySem PySem.Spec PyProof.Rows
/-- a new list of naturals comes back, all that was tracked is as it was -/
def retL (H : Hp) (Q : VK) (r : List Nat) : Prop := ∀ (H' : Hp) (p : Addr), Same H H' → H p = none → H' p = some (.lst (nvs r)) → Q (.ref p) H'
def retV (H : Hp) (Q : VK) (r : List V) : Prop := ∀ (H' : Hp) (p : Addr), Same H H' → H p = none → H' p = some (.lst r) → Q (.ref p) H'
theorem Same.use {H H' : Hp} {b : Addr} {o : HO} (s : Same H H') (h : H b = some o) : H' b = some o := s b o h
theorem Same.after {H H1 H2 : Hp} (s2 : Same H1 H2) (s1 : Same H H1) : Same H H2 := s1.trans s2
theorem retL.new {H Hm : Hp} {Q : VK} {r : List Nat} (q : retL H Q r) (s : Same H Hm) : ∀ p, Hm p = none → Q (.ref p) (upd Hm p (.lst (nvs r))) :=
  fun p hp => q _ p (s.trans (Same.upd hp)) (s.free hp) upd_same
theorem retL.use {H H' : Hp} {Q : VK} {r : List Nat} {p : Addr} (q : retL H Q r) (s : Same H H') (n : H p = none) (h : H' p = some (.lst (nvs r))) : Q (.ref p) H' := q H' p s n h
theorem retL.mk {H : Hp} {Q : VK} {r : List Nat} (q : retL H Q r) : ∀ p, H p = none → Q (.ref p) (upd H p (.lst (nvs r))) := q.new (Same.refl H)
theorem retV.mk {H : Hp} {Q : VK} {r : List V} (q : retV H Q r) : ∀ p, H p = none → Q (.ref p) (upd H p (.lst r)) := fun p hp => q _ p (Same.upd hp) hp upd_same
theorem nvs_drop (ns : List Nat) (i : Nat) : (nvs ns).drop i = nvs (ns.drop i) := List.map_drop.symm
theorem nvs_take (ns : List Nat) (i : Nat) : (nvs ns).take i = nvs (ns.take i) := List.map_take.symm
theorem nvs_append (a b : List Nat) : nvs a ++ nvs b = nvs (a ++ b) := List.map_append.symm
theorem nvs_reverse (a : List Nat) : (nvs a).reverse = nvs a.reverse := List.map_reverse.symm
theorem nvs_set (a : List Nat) (i n : Nat) : (nvs a).set i (vn n) = nvs (a.set i n) := List.map_set.symm
section
variable {X : Cx}
theorem SlR.imp {r r' : V → Option Int → Option Int → Hp → VK → Prop} (h : SlR X r) (q : ∀ x lo hi H Q, r' x lo hi H Q → r x lo hi H Q) : SlR X r' :=
  fun pins s σ H x v vl vu lo hi sl Q I rx hs pl pu z => h pins s σ H x v vl vu lo hi sl Q I rx hs pl pu (q x lo hi H Q z)
theorem sIx_nat (n : Nat) (d i : Nat) : HT.sIx n d (some (i : Int)) = min i n := by
  simp only [HT.sIx]
  first
    | omega
    | (split <;> omega)
theorem sIx_none (n d : Nat) : HT.sIx n d none = d := by simp [HT.sIx]
theorem cut_i (xs : List V) (i : Nat) : cutV xs (some (i : Int)) none = xs.drop i := by
  unfold cutV
  rw [sIx_nat, sIx_none]
  apply List.ext_getElem?
  intro k
  simp only [List.getElem?_take, List.getElem?_drop]
  split
  · by_cases h : i ≤ xs.length
    · rw [Nat.min_eq_left h]
    · rw [List.getElem?_eq_none (by omega), List.getElem?_eq_none (by omega)]
  · rw [List.getElem?_eq_none (by omega)]
theorem cut_j (xs : List V) (j : Nat) : cutV xs none (some (j : Int)) = xs.take j := by
  unfold cutV
  rw [sIx_nat, sIx_none]
  apply List.ext_getElem?
  intro k
  simp only [List.getElem?_take, List.getElem?_drop]
  by_cases h : k < j
  · by_cases h2 : k < xs.length
    · rw [if_pos (by omega), if_pos h, Nat.zero_add]
    · rw [if_neg (by omega), if_pos h, List.getElem?_eq_none (by omega)]
  · rw [if_neg (by omega), if_neg h]
theorem cut_ij (xs : List V) (i j : Nat) : cutV xs (some (i : Int)) (some (j : Int)) = (xs.drop i).take (j - i) := by
  unfold cutV
  rw [sIx_nat, sIx_nat]
  apply List.ext_getElem?
  intro k
  simp only [List.getElem?_take, List.getElem?_drop]
  by_cases h : i ≤ xs.length
  · rw [Nat.min_eq_left h]
    by_cases h1 : k < j - i
    · by_cases h2 : i + k < xs.length
      · rw [if_pos (by omega), if_pos h1]
      · rw [if_neg (by omega), if_pos h1, List.getElem?_eq_none (by omega)]
    · rw [if_neg (by omega), if_neg h1]
  · rw [if_neg (by omega)]
    split
    · rw [List.getElem?_eq_none (by omega)]
    · rfl
def rSlI (K : PySem.W.Frag) : V → Option Int → Option Int → Hp → VK → Prop := fun x lo hi H Q => ∃ (a : Addr) (i : Nat), x = .ref a ∧ lo = some (i : Int) ∧ hi = none ∧ ∃ xs, SqL K H a xs ∧ retV H Q (xs.drop i)
def rSlJ (K : PySem.W.Frag) : V → Option Int → Option Int → Hp → VK → Prop := fun x lo hi H Q => ∃ (a : Addr) (j : Nat), x = .ref a ∧ hi = some (j : Int) ∧ lo = none ∧ ∃ xs, SqL K H a xs ∧ retV H Q (xs.take j)
def rSlIJ (K : PySem.W.Frag) : V → Option Int → Option Int → Hp → VK → Prop := fun x lo hi H Q => ∃ (a : Addr) (i j : Nat), x = .ref a ∧ lo = some (i : Int) ∧ hi = some (j : Int) ∧ ∃ xs, SqL K H a xs ∧ retV H Q ((xs.drop i).take (j - i))
theorem sl_i : SlR X (rSlI X.K) := sl_list.imp fun x lo hi H Q ⟨a, i, e1, e2, e3, xs, h, q⟩ => by
  subst e2 e3
  exact ⟨a, xs, e1, h, by rw [cut_i]; exact q.mk⟩
theorem sl_j : SlR X (rSlJ X.K) := sl_list.imp fun x lo hi H Q ⟨a, i, e1, e2, e3, xs, h, q⟩ => by
  subst e2 e3
  exact ⟨a, xs, e1, h, by rw [cut_j]; exact q.mk⟩
theorem sl_ij : SlR X (rSlIJ X.K) := sl_list.imp fun x lo hi H Q ⟨a, i, j, e1, e2, e3, xs, h, q⟩ => by
  subst e2 e3
  exact ⟨a, xs, e1, h, by rw [cut_ij]; exact q.mk⟩
end
theorem retV.nvs_drop {H : Hp} {Q : VK} {ns : List Nat} {i : Nat} (q : retL H Q (ns.drop i)) : retV H Q ((nvs ns).drop i) := by rw [L2.nvs_drop]; exact q
theorem retV.nvs_take {H : Hp} {Q : VK} {ns : List Nat} {i : Nat} (q : retL H Q (ns.take i)) : retV H Q ((nvs ns).take i) := by rw [L2.nvs_take]; exact q
theorem retV.nvs_cut {H : Hp} {Q : VK} {ns : List Nat} {i j : Nat} (q : retL H Q ((ns.drop i).take j)) : retV H Q (((nvs ns).drop i).take j) := by rw [L2.nvs_drop, L2.nvs_take]; exact q
end L2
namespace Sx
open PySem PySem.Spec PyProof.Rows L2
def AllLt (b : Nat) (l : List Nat) : Prop := ∀ x ∈ l, x < 2 ^ b
theorem at_get {l : List Nat} {i : Nat} (h : i < l.length) : l[i]? = some (Sz25.at_ l i) := by
  unfold Sz25.at_
  rw [List.getD_eq_getElem?_getD, List.getElem?_eq_getElem h] <;> rfl
theorem at_lt {b : Nat} {l : List Nat} {i : Nat} (h : AllLt b l) : Sz25.at_ l i < 2 ^ b := by
  by_cases hi : i < l.length
  · have e := at_get hi
    exact h _ (List.mem_of_getElem? e)
  · unfold Sz25.at_
    rw [List.getD_eq_getElem?_getD, List.getElem?_eq_none (by omega)]
    exact Nat.two_pow_pos _
theorem AllLt.nil {b : Nat} : AllLt b [] := fun _ h => by cases h
theorem AllLt.cons {b x : Nat} {l : List Nat} (h : x < 2 ^ b) (t : AllLt b l) : AllLt b (x :: l) := fun y hy => by
  rcases List.mem_cons.mp hy with e | hy
  · rw [e]; exact h
  · exact t y hy
theorem AllLt.drop {b i : Nat} {l : List Nat} (h : AllLt b l) : AllLt b (l.drop i) := fun x hx => h x (List.mem_of_mem_drop hx)
theorem AllLt.take {b i : Nat} {l : List Nat} (h : AllLt b l) : AllLt b (l.take i) := fun x hx => h x (List.mem_of_mem_take hx)
theorem AllLt.app {b : Nat} {l m : List Nat} (h : AllLt b l) (g : AllLt b m) : AllLt b (l ++ m) := fun x hx => (List.mem_append.mp hx).elim (h x) (g x)
theorem AllLt.rev {b : Nat} {l : List Nat} (h : AllLt b l) : AllLt b l.reverse := fun x hx => h x (List.mem_reverse.mp hx)
theorem AllLt.set {b i n : Nat} {l : List Nat} (h : AllLt b l) (g : n < 2 ^ b) : AllLt b (l.set i n) := fun x hx => by
  rcases List.mem_or_eq_of_mem_set hx with q | q
  · exact h x q
  · rw [q]; exact g
theorem mul_lt (x y : Nat) : Sz25.mul x y < 2 ^ 16 := Nat.mod_lt _ (by decide)
theorem lt64_of16 {x : Nat} (h : x < 2 ^ 16) : x < 2 ^ 64 := Nat.lt_trans h (by decide)
theorem pow_big {b : Nat} (h : b ≤ 1024) : 2 ^ b ≤ 2 ^ 1024 := Nat.pow_le_pow_right (by decide) h
theorem left_eq {b x k : Nat} (hx : x < 2 ^ b) (hb : 0 < b) : (x * 2 ^ (k % b) ||| x / 2 ^ (b - k % b)) % 2 ^ b = Sz25.left b x k := by
  unfold Sz25.left
  have hk : k % b < b := Nat.mod_lt _ hb
  generalize k % b = j at hk ⊢
  show _ = x * 2 ^ j % 2 ^ b + x / 2 ^ (b - j)
  have e1 : x / 2 ^ (b - j) < 2 ^ j := by
    rw [Nat.div_lt_iff_lt_mul (Nat.two_pow_pos _), ← Nat.pow_add]
    have : j + (b - j) = b := by omega
    rw [this]
    exact hx
  have e2 : x * 2 ^ j ||| x / 2 ^ (b - j) = x * 2 ^ j + x / 2 ^ (b - j) := by
    rw [Nat.mul_comm]
    exact (Nat.two_pow_add_eq_or_of_lt e1 x).symm
  rw [e2]
  have e3 : 2 ^ b = 2 ^ j * 2 ^ (b - j) := by rw [← Nat.pow_add]; congr 1; omega
  have e4 : x * 2 ^ j % 2 ^ b = 2 ^ j * (x % 2 ^ (b - j)) := by rw [e3, Nat.mul_comm x, Nat.mul_mod_mul_left]
  have e5 : (x * 2 ^ j + x / 2 ^ (b - j)) % 2 ^ b = (x * 2 ^ j % 2 ^ b + x / 2 ^ (b - j)) % 2 ^ b := by rw [Nat.mod_add_mod]
  rw [e5, Nat.mod_eq_of_lt]
  rw [e4]
  have e6 : x % 2 ^ (b - j) + 1 ≤ 2 ^ (b - j) := Nat.mod_lt _ (Nat.two_pow_pos _)
  have e7 : 2 ^ j * (x % 2 ^ (b - j) + 1) ≤ 2 ^ j * 2 ^ (b - j) := Nat.mul_le_mul_left _ e6
  rw [Nat.mul_add, Nat.mul_one] at e7
  omega
theorem left_lt {b x k : Nat} (hx : x < 2 ^ b) (hb : 0 < b) : Sz25.left b x k < 2 ^ b := by
  rw [← left_eq hx hb]
  exact Nat.mod_lt _ (Nat.two_pow_pos _)
theorem right_lt {b x k : Nat} (hx : x < 2 ^ b) (hb : 0 < b) : Sz25.right b x k < 2 ^ b := left_lt hx hb
theorem squared_lt {x : Nat} : Sz25.squared x < 2 ^ 32 := left_lt (Nat.mod_lt _ (by decide)) (by decide)
/-- the turns and products, shut: no step opens them -/
@[irreducible] def lft (b x k : Nat) : Nat := Sz25.left b x k
@[irreducible] def rgt (b x k : Nat) : Nat := Sz25.right b x k
@[irreducible] def mlt (x y : Nat) : Nat := Sz25.mul x y
@[irreducible] def sqd (x : Nat) : Nat := Sz25.squared x
theorem lft_def (b x k : Nat) : lft b x k = Sz25.left b x k := by unfold lft; rfl
theorem rgt_def (b x k : Nat) : rgt b x k = Sz25.right b x k := by unfold rgt; rfl
theorem mlt_def (x y : Nat) : mlt x y = Sz25.mul x y := by unfold mlt; rfl
theorem sqd_def (x : Nat) : sqd x = Sz25.squared x := by unfold sqd; rfl
theorem lft_lt {b x k : Nat} (hx : x < 2 ^ b) (hb : 0 < b) : lft b x k < 2 ^ b := by rw [lft_def]; exact left_lt hx hb
theorem rgt_lt {b x k : Nat} (hx : x < 2 ^ b) (hb : 0 < b) : rgt b x k < 2 ^ b := by rw [rgt_def]; exact right_lt hx hb
theorem mlt_lt (x y : Nat) : mlt x y < 2 ^ 16 := by rw [mlt_def]; exact mul_lt x y
theorem sqd_lt {x : Nat} : sqd x < 2 ^ 32 := by rw [sqd_def]; exact squared_lt
theorem leM {x : Nat} (h : x < 2 ^ 32) : x ≤ Sz25.M := Nat.le_of_lt h
theorem leL {x : Nat} (h : x < 2 ^ 64) : x ≤ Sz25.L := Nat.le_of_lt h
theorem foldl_range_succ {α : Type} (f : α → Nat → α) (x : α) (i : Nat) : (List.range (i + 1)).foldl f x = f ((List.range i).foldl f x) i := by
  rw [List.range_succ, List.foldl_append] <;> rfl
theorem take_snoc {α : Type} {l : List α} {i : Nat} {x : α} (h : l[i]? = some x) : l.take (i + 1) = l.take i ++ [x] := by
  rw [List.take_add_one, h] <;> rfl
theorem foldl_take_succ {α β : Type} (f : α → β → α) (a : α) {l : List β} {i : Nat} {x : β} (h : l[i]? = some x) : (l.take (i + 1)).foldl f a = f ((l.take i).foldl f a) x := by
  rw [take_snoc h, List.foldl_append] <;> rfl
theorem fold_inv {f : List Nat → Nat → List Nat} {x : List Nat} (p : List Nat → Prop) (h0 : p x) (hs : ∀ v i, p v → p (f v i)) : ∀ l : List Nat, p (l.foldl f x)
  | [] => h0
  | y :: l => fold_inv (f := f) (x := f x y) p (hs x y h0) hs l
end Sx
namespace L2
open PySem PySem.Spec PyProof.Rows
theorem for_rangeN {lo n : Nat} {g : TG} {tb : TS} {D : Ends} {σ : St} {H : Hp} (Pv : Nat → St → Hp → Prop) (h0 : Pv 0 σ H)
    (hs : ∀ i σ H, i < n → Pv i σ H → g (vn (lo + i)) σ H fun σ2 H2 => tb { D with nx := Pv (i + 1), ct := Pv (i + 1), bk := D.nx } σ2 H2) (hd : ∀ σ H, Pv n σ H → D.nx σ H) :
    ∃ W : Nat → Nat → St → Hp → Prop, (∃ m, W 0 m σ H) ∧ ∀ i m σ H, W i m σ H →
      ((Itr (lo : Int) n).stop i H ∧ D.nx σ H) ∨ ((Itr (lo : Int) n).go i H ∧ ∃ N : St → Hp → Prop, (∀ σ' H', N σ' H' → ∃ m', m' < m ∧ W (i + 1) m' σ' H') ∧ ∀ x H', (Itr (lo : Int) n).yld i H x H' → g x σ H' fun σ2 H2 => tb { D with nx := N, ct := N, bk := D.nx } σ2 H2) :=
  for_range (lo := (lo : Int)) Pv h0 (fun i σ H hi p => hs i σ H hi p) hd
theorem for_stepN {lo c : Int} {n : Nat} {g : TG} {tb : TS} {D : Ends} {σ : St} {H : Hp} (f : Nat → Nat) (hf : ∀ i : Nat, i < n → lo + (i : Int) * c = ((f i : Nat) : Int)) (Pv : Nat → St → Hp → Prop) (h0 : Pv 0 σ H)
    (hs : ∀ i σ H, i < n → Pv i σ H → g (vn (f i)) σ H fun σ2 H2 => tb { D with nx := Pv (i + 1), ct := Pv (i + 1), bk := D.nx } σ2 H2) (hd : ∀ σ H, Pv n σ H → D.nx σ H) :
    ∃ W : Nat → Nat → St → Hp → Prop, (∃ m, W 0 m σ H) ∧ ∀ i m σ H, W i m σ H →
      ((Itc lo c n).stop i H ∧ D.nx σ H) ∨ ((Itc lo c n).go i H ∧ ∃ N : St → Hp → Prop, (∀ σ' H', N σ' H' → ∃ m', m' < m ∧ W (i + 1) m' σ' H') ∧ ∀ x H', (Itc lo c n).yld i H x H' → g x σ H' fun σ2 H2 => tb { D with nx := N, ct := N, bk := D.nx } σ2 H2) :=
  for_rangeC Pv h0 (fun i σ H hi p => by rw [hf i hi]; exact hs i σ H hi p) hd
/-- over a list of naturals that the body leaves as it is -/
theorem for_nats {K : PySem.W.Frag} {a : Addr} {ks : List Nat} {g : TG} {tb : TS} {D : Ends} {σ : St} {H : Hp} (Pv : Nat → St → Hp → Prop) (h0 : Pv 0 σ H) (hl : ∀ i σ H, Pv i σ H → H a = some (.lst (nvs ks)))
    (hs : ∀ i k σ H, ks[i]? = some k → Pv i σ H → g (vn k) σ H fun σ2 H2 => tb { D with nx := Pv (i + 1), ct := Pv (i + 1), bk := D.nx } σ2 H2) (hd : ∀ σ H, Pv ks.length σ H → D.nx σ H) :
    ∃ W : Nat → Nat → St → Hp → Prop, (∃ m, W 0 m σ H) ∧ ∀ i m σ H, W i m σ H →
      ((Itl K a).stop i H ∧ D.nx σ H) ∨ ((Itl K a).go i H ∧ ∃ N : St → Hp → Prop, (∀ σ' H', N σ' H' → ∃ m', m' < m ∧ W (i + 1) m' σ' H') ∧ ∀ x H', (Itl K a).yld i H x H' → g x σ H' fun σ2 H2 => tb { D with nx := N, ct := N, bk := D.nx } σ2 H2) :=
  for_list (xs := nvs ks) Pv h0 (fun i σ H _ p => SqL.of (hl i σ H p)) (fun i x σ H e p => by obtain ⟨k, e1, rfl⟩ := nvs_of e; exact hs i k σ H e1 p) (fun σ H p => hd σ H (by rw [nvs_len] at p; exact p))
theorem for_natsR {K : PySem.W.Frag} {a : Addr} {ks : List Nat} {g : TG} {tb : TS} {D : Ends} {σ : St} {H : Hp} (Pv : Nat → St → Hp → Prop) (h0 : Pv 0 σ H) (hl : ∀ i σ H, Pv i σ H → H a = some (.lst (nvs ks)))
    (hs : ∀ i k σ H, ks.reverse[i]? = some k → Pv i σ H → g (vn k) σ H fun σ2 H2 => tb { D with nx := Pv (i + 1), ct := Pv (i + 1), bk := D.nx } σ2 H2) (hd : ∀ σ H, Pv ks.length σ H → D.nx σ H) :
    ∃ W : Nat → Nat → St → Hp → Prop, (∃ m, W 0 m σ H) ∧ ∀ i m σ H, W i m σ H →
      ((Itv K a (nvs ks).length).stop i H ∧ D.nx σ H) ∨ ((Itv K a (nvs ks).length).go i H ∧ ∃ N : St → Hp → Prop, (∀ σ' H', N σ' H' → ∃ m', m' < m ∧ W (i + 1) m' σ' H') ∧ ∀ x H', (Itv K a (nvs ks).length).yld i H x H' → g x σ H' fun σ2 H2 => tb { D with nx := N, ct := N, bk := D.nx } σ2 H2) :=
  for_rev (xs := nvs ks) Pv h0 (fun i σ H _ p => SqL.of (hl i σ H p)) (fun i x σ H hi e p => by
    obtain ⟨k, e1, rfl⟩ := nvs_of e
    rw [nvs_len] at e1 hi
    exact hs i k σ H (by rw [List.getElem?_reverse hi]; exact e1) p) (fun σ H p => hd σ H (by rw [nvs_len] at p; exact p))
/-- a word that no step opens -/
@[irreducible] def Hold (p : Prop) : Prop := p
theorem Hold.mk {p : Prop} (h : p) : Hold p := by unfold Hold; exact h
theorem Hold.out {p : Prop} (h : Hold p) : p := by unfold Hold at h; exact h
end L2
end
section
set_option Elab.async false
set_option linter.all false
set_option maxRecDepth 100000
set_option maxHeartbeats 2000000
set_option exponentiation.threshold 2000
namespace Sx
open PySem PySem.Spec PyProof.Rows L2
local macro_rules | `(tactic| walk_at "fa") => `(tactic| (first
  | assumption
  | (refine Same.use (H := ?m) ?s ?g; (case s => assumption); (case g => walk_at "fa"))))
local macro_rules | `(tactic| walk_at "sm") => `(tactic| (first
  | assumption
  | exact Same.refl _
  | (refine Same.after (H1 := ?m) ?s ?g; (case s => assumption); (case g => walk_at "sm"))))
local macro_rules | `(tactic| walk_at "lt") => `(tactic| (first
  | assumption
  | omega
  | exact Nat.mod_lt _ (by decide)
  | (refine at_lt ?_; walk_at "al")
  | exact mlt_lt _ _
  | exact sqd_lt
  | (refine Nat.xor_lt_two_pow ?_ ?_ <;> walk_at "lt")
  | (refine lft_lt ?_ (by decide); walk_at "lt")
  | (refine rgt_lt ?_ (by decide); walk_at "lt")
  | (refine lt64_of16 ?_; walk_at "lt")))
local macro_rules | `(tactic| walk_at "al") => `(tactic| (first
  | assumption
  | exact AllLt.nil
  | (refine AllLt.cons ?_ ?_; (walk_at "lt"); (walk_at "al"))
  | (refine AllLt.drop ?_; walk_at "al")
  | (refine AllLt.take ?_; walk_at "al")))
local macro_rules | `(tactic| walk_at "bd") => `(tactic| ((try dsimp only); first
  | (simp only [List.length_drop, List.length_take, List.length_cons, List.length_nil, List.length_map, List.length_range, nvs_len]; first | omega | decide)
  | omega
  | decide
  | ((with_reducible show AllLt _ _); walk_at "al")
  | walk_at "lt"
  | (refine leM ?_; walk_at "lt")
  | (refine leL ?_; walk_at "lt")
  | (refine ⟨?_, ?_⟩ <;> walk_at "bd")))
local macro_rules | `(tactic| walk_at "rd") => `(tactic| repeat (walk_at "r1"))
local macro_rules | `(tactic| walk_at "r1") => `(tactic| (first
  | refine ⟨_, rfl, ?_⟩
  | refine ⟨_, _, rfl, rfl, ?_⟩
  | refine ⟨_, _, _, rfl, rfl, ?_⟩
  | refine ⟨_, _, _, rfl, rfl, rfl, ?_⟩
  | refine ⟨_, _, rfl, rfl, rfl, ?_⟩
  | refine ⟨_, _, _, rfl, ?_⟩
  | refine ⟨_, _, rfl, ?_⟩
  | (refine And.intro ?c ?_; (case c => (with_reducible show _ = some _); walk_at "fa"))
  | (refine ⟨?ws, ?h, ?_⟩; (case h => (with_reducible show _ = some (HO.lst _)); walk_at "fa"))
  | (refine ⟨?ws, ?ks, ?h, ?g, ?_⟩; (case h => (with_reducible show _ = some (HO.lst _)); walk_at "fa"); (case g => (with_reducible show _ = some (HO.lst _)); walk_at "fa"))
  | (refine ⟨?ws, SqL.of ?h, ?_⟩; (case h => walk_at "fa"))
  | (refine And.intro ⟨?ws, SqL.of ?h⟩ ?_; (case h => walk_at "fa"))
  | (refine ⟨_, ?xs, rfl, SqL.of ?h, ?_⟩; (case h => walk_at "fa"))
  | (refine ⟨_, ?xs, rfl, Or.inl (SqL.of ?h), ?_⟩; (case h => walk_at "fa"))
  | (refine ⟨_, _, ?xs, ?ys, rfl, SqL.of ?h, SqL.of ?g, ?_⟩; (case h => walk_at "fa"); (case g => walk_at "fa"))
  | refine And.intro (by walk_at "bd") ?_
  | (refine ⟨_, ?xs, _, ?v, rfl, rfl, SqL.of ?h, ?e, ?_⟩; (case h => walk_at "fa"); (case e => first | exact rfl | (refine nvs_get (at_get ?_); walk_at "bd")))
  | (refine ⟨_, ?xs, _, ?v, rfl, rfl, SqT.of ?h, ?e, ?_⟩; (case h => walk_at "fa"); (case e => exact rfl))
  | refine retV.nvs_drop ?_
  | refine retV.nvs_take ?_
  | refine retV.nvs_cut ?_
  | ((with_reducible show retL _ _ _); intro Hn pn sn nn hn)))
def spTL : Sp := fun vs H Q _ => ∃ x k b : Nat, vs = [vn x, vn k, vn b] ∧ x < 2 ^ b ∧ 0 < b ∧ b ≤ 128 ∧ Q (vn (lft b x k)) H
def spTR : Sp := fun vs H Q _ => ∃ x k b : Nat, vs = [vn x, vn k, vn b] ∧ x < 2 ^ b ∧ 0 < b ∧ b ≤ 128 ∧ Q (vn (rgt b x k)) H
def spMul : Sp := fun vs H Q _ => ∃ x y : Nat, vs = [vn x, vn y] ∧ x < 2 ^ 64 ∧ y < 2 ^ 64 ∧ Q (vn (mlt x y)) H
def spSq : Sp := fun vs H Q _ => ∃ x : Nat, vs = [vn x] ∧ x < 2 ^ 32 ∧ Q (vn (sqd x)) H
def spXm : Sp := fun vs H Q _ => ∃ v s : Nat, vs = [vn v, vn s] ∧ v < 2 ^ 32 ∧ Q (vn (((((16 * v) % Sz25.M) ^^^ (v / 32)) + v) % Sz25.M ^^^ s)) H
/-- the power that undoes -/
def powM (x : Nat) : Nat → Nat
  | 0 => 1
  | n + 1 => mlt (mlt (powM x n) (powM x n)) x
theorem powM_lt (x n : Nat) : powM x n < 2 ^ 16 := by
  cases n with
  | zero => show 1 < 2 ^ 16; decide
  | succ n => exact mlt_lt _ _
def spInv : Sp := fun vs H Q _ => ∃ x : Nat, vs = [vn x] ∧ x < 2 ^ 16 ∧ Q (vn (powM x 16)) H
def keyedM (ws ks : List Nat) : List Nat := [mlt (Sz25.at_ ws 0) (Sz25.at_ ks 0), (Sz25.at_ ws 1 + Sz25.at_ ks 1) % 65536, (Sz25.at_ ws 2 + Sz25.at_ ks 2) % 65536, mlt (Sz25.at_ ws 3) (Sz25.at_ ks 3)]
def mixedM (ws ks : List Nat) : List Nat :=
  let e := mlt (Sz25.at_ ws 0 ^^^ Sz25.at_ ws 2) (Sz25.at_ ks 4)
  let f := mlt (((Sz25.at_ ws 1 ^^^ Sz25.at_ ws 3) + e) % 65536) (Sz25.at_ ks 5)
  let g := (e + f) % 65536
  [Sz25.at_ ws 0 ^^^ f, Sz25.at_ ws 1 ^^^ g, Sz25.at_ ws 2 ^^^ f, Sz25.at_ ws 3 ^^^ g]
def swapM (ws : List Nat) : List Nat := [Sz25.at_ ws 0, Sz25.at_ ws 2, Sz25.at_ ws 1, Sz25.at_ ws 3]
def spKeyed : Sp := fun vs H Q _ => ∃ p k, vs = [.ref p, .ref k] ∧ ∃ ws ks, H p = some (.lst (nvs ws)) ∧ H k = some (.lst (nvs ks)) ∧ ws.length = 4 ∧ 4 ≤ ks.length ∧ AllLt 16 ws ∧ AllLt 16 ks ∧ retL H Q (keyedM ws ks)
def spMixed : Sp := fun vs H Q _ => ∃ p k, vs = [.ref p, .ref k] ∧ ∃ ws ks, H p = some (.lst (nvs ws)) ∧ H k = some (.lst (nvs ks)) ∧ ws.length = 4 ∧ 6 ≤ ks.length ∧ AllLt 16 ws ∧ AllLt 16 ks ∧ retL H Q (mixedM ws ks)
def spSwap : Sp := fun vs H Q _ => ∃ p, vs = [.ref p] ∧ ∃ ws, H p = some (.lst (nvs ws)) ∧ ws.length = 4 ∧ retL H Q (swapM ws)
section
variable {P : Program} {w : World} {K : PySem.W.Frag} {mg : Str → Option Value} {base : Heap} {a : Ad}
theorem ok_turned_left (T : Txt K mg a) : FnOk P w K mg base CX0 1 a.f_turned_left a.d_turned_left ["x", "k", "bits"] spTL := by
  refine T.turned_left.F.ok sc_turned_left (fun vs H Q E h => ?_) (fun cdv A outer s H vs Q E hr h => ?_)
  · obtain ⟨_, _, _, rfl, _⟩ := h
    rfl
  · skip

    obtain ⟨x, k, b, rfl, hx, hb, hb2, q⟩ := h
    have hbig := pow_big (b := b) (by omega)
    have hk : k % b < b := Nat.mod_lt _ hb
    rw [lft_def, ← left_eq hx hb] at q
    have e1 : 1 * 2 ^ b = 2 ^ b := Nat.one_mul _
    have e2 : 0 < 1 * 2 ^ b := by rw [e1]; exact Nat.two_pow_pos _
    have e3 : 1 < 2 ^ 1024 := Nat.lt_of_lt_of_le (by decide) (pow_big (b := 1) (by decide))
    refine ⟨_, pss_cons (ps_set (i := 1) sc_turned_left.nd rfl (by first | exact Or.inl rfl | exact Or.inr rfl) (pe_op op_modN' (pv 1) (pv 2)))
      (pss_one (ps_ret (pe_op op_modN' (pe_op op_orN (pe_op op_shlN (pv 0) (pv 1)) (pe_op op_shrN (pv 0) (pe_op op_subN (pv 2) (pv 1)))) (pe_op op_shlN (pe_nat 1) (pv 2))))), ?_⟩
    walk_at "rd"
    dsimp only
    rw [e1]
    exact q
theorem ok_turned_right (T : Txt K mg a) : FnOk P w K mg base CX0 2 a.f_turned_right a.d_turned_right ["x", "k", "bits"] spTR := by
  refine T.turned_right.F.ok sc_turned_right (fun vs H Q E h => ?_) (fun cdv A outer s H vs Q E hr h => ?_)
  · obtain ⟨_, _, _, rfl, _⟩ := h
    rfl
  · skip
    have G_turned_left := ok_turned_left (P := P) (w := w) (base := base) T
    obtain ⟨x, k, b, rfl, hx, hb, hb2, q⟩ := h
    have hk : k % b < b := Nat.mod_lt _ hb
    rw [rgt_def] at q
    refine ⟨_, pss_one (ps_ret (T.turned_left.call G_turned_left (hr.mono (by decide)) (pa_cons (pv 0) (pa_cons (pe_op op_subN (pv 2) (pe_op op_modN' (pv 1) (pv 2))) (pa_cons (pv 2) pa_nil))))), ?_⟩
    walk_at "rd"
    rw [lft_def]
    exact q
theorem ok_idea_product (T : Txt K mg a) : FnOk P w K mg base CX0 1 a.f_idea_product a.d_idea_product ["x", "y"] spMul := by
  refine T.idea_product.F.ok sc_idea_product (fun vs H Q E h => ?_) (fun cdv A outer s H vs Q E hr h => ?_)
  · obtain ⟨_, _, rfl, _⟩ := h
    rfl
  · skip

    obtain ⟨x, y, rfl, hx, hy, q⟩ := h
    refine ⟨_, pss_cons (ps_set (i := 0) sc_idea_product.nd rfl (by first | exact Or.inl rfl | exact Or.inr rfl) (pe_ifExp (pt_cmpR op_eqI (pv 0) (pe_nat 0) (nomark _)) (pc T.c_TWO_16) (pv 0)))
      (pss_cons (ps_set (i := 1) sc_idea_product.nd rfl (by first | exact Or.inl rfl | exact Or.inr rfl) (pe_ifExp (pt_cmpR op_eqI (pv 1) (pe_nat 0) (nomark _)) (pc T.c_TWO_16) (pv 1)))
      (pss_one (ps_ret (pe_op op_modN' (pe_op op_modN' (pe_op op_mulN (pv 0) (pv 1)) (pe_op op_addN (pc T.c_TWO_16) (pe_nat 1))) (pc T.c_TWO_16))))), ?_⟩
    rw [mlt_def] at q
    unfold Sz25.mul at q
    walk_at "rd"
    refine ite2 (fun hc => ?_) (fun hc => ?_)
    · have h0 : x = 0 := by have := of_decide_eq_true hc; dsimp only at this; omega
      rw [if_pos h0] at q
      walk_at "rd"
      refine ite2 (fun hd => ?_) (fun hd => ?_)
      · have h1 : y = 0 := by have := of_decide_eq_true hd; dsimp only at this; omega
        rw [if_pos h1] at q
        walk_at "rd"
        exact q
      · have h1 : ¬ y = 0 := fun z => hd (decide_eq_true (by dsimp only; omega))
        rw [if_neg h1] at q
        walk_at "rd"
        exact q
    · have h0 : ¬ x = 0 := fun z => hc (decide_eq_true (by dsimp only; omega))
      rw [if_neg h0] at q
      walk_at "rd"
      refine ite2 (fun hd => ?_) (fun hd => ?_)
      · have h1 : y = 0 := by have := of_decide_eq_true hd; dsimp only at this; omega
        rw [if_pos h1] at q
        walk_at "rd"
        exact q
      · have h1 : ¬ y = 0 := fun z => hd (decide_eq_true (by dsimp only; omega))
        rw [if_neg h1] at q
        walk_at "rd"
        exact q
theorem ok_rc6_turned (T : Txt K mg a) : FnOk P w K mg base CX0 2 a.f_rc6_turned a.d_rc6_turned ["x"] spSq := by
  refine T.rc6_turned.F.ok sc_rc6_turned (fun vs H Q E h => ?_) (fun cdv A outer s H vs Q E hr h => ?_)
  · obtain ⟨_, rfl, _⟩ := h
    rfl
  · skip
    have G_turned_left := ok_turned_left (P := P) (w := w) (base := base) T
    obtain ⟨x, rfl, hx, q⟩ := h
    rw [sqd_def] at q
    refine ⟨_, pss_one (ps_ret (T.turned_left.call G_turned_left (hr.mono (by decide)) (pa_cons (pe_op op_modN' (pe_op op_mulN (pv 0) (pe_op op_addN (pe_op op_mulN (pe_nat 2) (pv 0)) (pe_nat 1))) (pc T.c_TWO_32)) (pa_cons (pe_nat 5) (pa_cons (pe_nat 32) pa_nil))))), ?_⟩
    walk_at "rd"
    rw [lft_def]
    exact q
theorem ok_xtea_mixed (T : Txt K mg a) : FnOk P w K mg base CX0 1 a.f_xtea_mixed a.d_xtea_mixed ["v", "keyed_sum"] spXm := by
  refine T.xtea_mixed.F.ok sc_xtea_mixed (fun vs H Q E h => ?_) (fun cdv A outer s H vs Q E hr h => ?_)
  · obtain ⟨_, _, rfl, _⟩ := h
    rfl
  · skip

    obtain ⟨v, s, rfl, hv, q⟩ := h
    refine ⟨_, pss_one (ps_ret (pe_op op_xorN (pe_op op_modN' (pe_op op_addN (pe_op op_xorN (pe_op op_modN' (pe_op op_mulN (pe_nat 16) (pv 0)) (pc T.c_TWO_32)) (pe_op op_divN' (pv 0) (pe_nat 32))) (pv 0)) (pc T.c_TWO_32)) (pv 1))), ?_⟩
    walk_at "rd"
    exact q
theorem ok_idea_inverse (T : Txt K mg a) : FnOk P w K mg base CX0 2 a.f_idea_inverse a.d_idea_inverse ["x"] spInv := by
  refine T.idea_inverse.F.ok sc_idea_inverse (fun vs H Q E h => ?_) (fun cdv A outer s H vs Q E hr h => ?_)
  · obtain ⟨_, rfl, _⟩ := h
    rfl
  · skip
    have G_idea_product := ok_idea_product (P := P) (w := w) (base := base) T
    obtain ⟨x, rfl, hx, q⟩ := h
    refine ⟨_, pss_cons (ps_set (i := 1) sc_idea_inverse.nd rfl (by first | exact Or.inl rfl | exact Or.inr rfl) (pe_nat 1))
      (pss_cons (ps_for PassesOwn.never rfl (pi_range1 rfl T.n_range (pa_cons (pe_nat 16) pa_nil)) (pg_name (i := 2) sc_idea_inverse.nd rfl (by first | exact Or.inl rfl | exact Or.inr rfl)) (pss_one (ps_set (i := 1) sc_idea_inverse.nd rfl (by first | exact Or.inl rfl | exact Or.inr rfl) (T.idea_product.call G_idea_product (hr.mono (by decide)) (pa_cons (T.idea_product.call G_idea_product (hr.mono (by decide)) (pa_cons (pv 1) (pa_cons (pv 1) pa_nil))) (pa_cons (pv 0) pa_nil))))))
      (pss_one (ps_ret (pv 1)))), ?_⟩
    walk_at "rd"
    refine for_range (lo := 0) (n := 16) (fun i σ H' => H' = H ∧ ∃ u : Option V, σ = [some (vn x), some (vn (powM x i)), u]) ⟨rfl, none, rfl⟩ ?_ ?_
    · rintro i σ H' hi ⟨rfl, u, rfl⟩
      have hp := powM_lt x i
      walk_at "rd"
      exact ⟨rfl, _, rfl⟩
    · rintro σ H' ⟨rfl, u, rfl⟩
      walk_at "rd"
      exact q
theorem ok_idea_keyed (T : Txt K mg a) : FnOk P w K mg base CX0 2 a.f_idea_keyed a.d_idea_keyed ["words", "k"] spKeyed := by
  refine T.idea_keyed.F.ok sc_idea_keyed (fun vs H Q E h => ?_) (fun cdv A outer s H vs Q E hr h => ?_)
  · obtain ⟨_, _, rfl, _⟩ := h
    rfl
  · skip
    have G_idea_product := ok_idea_product (P := P) (w := w) (base := base) T
    obtain ⟨p, k, rfl, ws, ks, hp, hk, l1, l2, a1, a2, q⟩ := h
    refine ⟨_, pss_cons (ps_set (i := 2) sc_idea_keyed.nd rfl (by first | exact Or.inl rfl | exact Or.inr rfl) (pe_op op_modN' (pe_op op_addN (pe_ix ix_listN (pv 0) (pe_nat 1) (fun _ _ => rfl)) (pe_ix ix_listN (pv 1) (pe_nat 1) (fun _ _ => rfl))) (pc T.c_TWO_16)))
      (pss_cons (ps_set (i := 3) sc_idea_keyed.nd rfl (by first | exact Or.inl rfl | exact Or.inr rfl) (pe_op op_modN' (pe_op op_addN (pe_ix ix_listN (pv 0) (pe_nat 2) (fun _ _ => rfl)) (pe_ix ix_listN (pv 1) (pe_nat 2) (fun _ _ => rfl))) (pc T.c_TWO_16)))
      (pss_one (ps_ret (pe_lst (pa_cons (T.idea_product.call G_idea_product (hr.mono (by decide)) (pa_cons (pe_ix ix_listN (pv 0) (pe_nat 0) (fun _ _ => rfl)) (pa_cons (pe_ix ix_listN (pv 1) (pe_nat 0) (fun _ _ => rfl)) pa_nil))) (pa_cons (pv 2) (pa_cons (pv 3) (pa_cons (T.idea_product.call G_idea_product (hr.mono (by decide)) (pa_cons (pe_ix ix_listN (pv 0) (pe_nat 3) (fun _ _ => rfl)) (pa_cons (pe_ix ix_listN (pv 1) (pe_nat 3) (fun _ _ => rfl)) pa_nil))) pa_nil)))))))), ?_⟩
    walk_at "rd"
    exact q.new (by walk_at "sm")
theorem ok_idea_mixed (T : Txt K mg a) : FnOk P w K mg base CX0 2 a.f_idea_mixed a.d_idea_mixed ["words", "k"] spMixed := by
  refine T.idea_mixed.F.ok sc_idea_mixed (fun vs H Q E h => ?_) (fun cdv A outer s H vs Q E hr h => ?_)
  · obtain ⟨_, _, rfl, _⟩ := h
    rfl
  · skip
    have G_idea_product := ok_idea_product (P := P) (w := w) (base := base) T
    obtain ⟨p, k, rfl, ws, ks, hp, hk, l1, l2, a1, a2, q⟩ := h
    refine ⟨_, pss_cons (ps_set (i := 2) sc_idea_mixed.nd rfl (by first | exact Or.inl rfl | exact Or.inr rfl) (T.idea_product.call G_idea_product (hr.mono (by decide)) (pa_cons (pe_op op_xorN (pe_ix ix_listN (pv 0) (pe_nat 0) (fun _ _ => rfl)) (pe_ix ix_listN (pv 0) (pe_nat 2) (fun _ _ => rfl))) (pa_cons (pe_ix ix_listN (pv 1) (pe_nat 4) (fun _ _ => rfl)) pa_nil))))
      (pss_cons (ps_set (i := 3) sc_idea_mixed.nd rfl (by first | exact Or.inl rfl | exact Or.inr rfl) (T.idea_product.call G_idea_product (hr.mono (by decide)) (pa_cons (pe_op op_modN' (pe_op op_addN (pe_op op_xorN (pe_ix ix_listN (pv 0) (pe_nat 1) (fun _ _ => rfl)) (pe_ix ix_listN (pv 0) (pe_nat 3) (fun _ _ => rfl))) (pv 2)) (pc T.c_TWO_16)) (pa_cons (pe_ix ix_listN (pv 1) (pe_nat 5) (fun _ _ => rfl)) pa_nil))))
      (pss_cons (ps_set (i := 4) sc_idea_mixed.nd rfl (by first | exact Or.inl rfl | exact Or.inr rfl) (pe_op op_modN' (pe_op op_addN (pv 2) (pv 3)) (pc T.c_TWO_16)))
      (pss_one (ps_ret (pe_lst (pa_cons (pe_op op_xorN (pe_ix ix_listN (pv 0) (pe_nat 0) (fun _ _ => rfl)) (pv 3)) (pa_cons (pe_op op_xorN (pe_ix ix_listN (pv 0) (pe_nat 1) (fun _ _ => rfl)) (pv 4)) (pa_cons (pe_op op_xorN (pe_ix ix_listN (pv 0) (pe_nat 2) (fun _ _ => rfl)) (pv 3)) (pa_cons (pe_op op_xorN (pe_ix ix_listN (pv 0) (pe_nat 3) (fun _ _ => rfl)) (pv 4)) pa_nil))))))))), ?_⟩
    walk_at "rd"
    exact q.new (by walk_at "sm")
theorem ok_idea_swapped (T : Txt K mg a) : FnOk P w K mg base CX0 1 a.f_idea_swapped a.d_idea_swapped ["words"] spSwap := by
  refine T.idea_swapped.F.ok sc_idea_swapped (fun vs H Q E h => ?_) (fun cdv A outer s H vs Q E hr h => ?_)
  · obtain ⟨_, rfl, _⟩ := h
    rfl
  · skip

    obtain ⟨p, rfl, ws, hp, l1, q⟩ := h
    refine ⟨_, pss_one (ps_ret (pe_lst (pa_cons (pe_ix ix_listN (pv 0) (pe_nat 0) (fun _ _ => rfl)) (pa_cons (pe_ix ix_listN (pv 0) (pe_nat 2) (fun _ _ => rfl)) (pa_cons (pe_ix ix_listN (pv 0) (pe_nat 1) (fun _ _ => rfl)) (pa_cons (pe_ix ix_listN (pv 0) (pe_nat 3) (fun _ _ => rfl)) pa_nil)))))), ?_⟩
    walk_at "rd"
    exact q.new (by walk_at "sm")
end
end Sx
end
section
set_option Elab.async false
set_option linter.all false
set_option maxRecDepth 100000
set_option maxHeartbeats 2000000
set_option exponentiation.threshold 2000
namespace Sx
open PySem PySem.Spec PyProof.Rows L2
local macro_rules | `(tactic| walk_at "fa") => `(tactic| (first
  | assumption
  | (refine Same.use (H := ?m) ?s ?g; (case s => assumption); (case g => walk_at "fa"))))
local macro_rules | `(tactic| walk_at "sm") => `(tactic| (first
  | assumption
  | exact Same.refl _
  | (refine Same.after (H1 := ?m) ?s ?g; (case s => assumption); (case g => walk_at "sm"))))
local macro_rules | `(tactic| walk_at "lt") => `(tactic| (first
  | assumption
  | omega
  | exact Nat.mod_lt _ (by decide)
  | (refine at_lt ?_; walk_at "al")
  | exact mlt_lt _ _
  | exact sqd_lt
  | (refine Nat.xor_lt_two_pow ?_ ?_ <;> walk_at "lt")
  | (refine lft_lt ?_ (by decide); walk_at "lt")
  | (refine rgt_lt ?_ (by decide); walk_at "lt")
  | (refine lt64_of16 ?_; walk_at "lt")))
local macro_rules | `(tactic| walk_at "al") => `(tactic| (first
  | assumption
  | exact AllLt.nil
  | (refine AllLt.cons ?_ ?_; (walk_at "lt"); (walk_at "al"))
  | (refine AllLt.drop ?_; walk_at "al")
  | (refine AllLt.take ?_; walk_at "al")))
local macro_rules | `(tactic| walk_at "bd") => `(tactic| ((try dsimp only); first
  | (simp only [List.length_drop, List.length_take, List.length_cons, List.length_nil, List.length_map, List.length_range, nvs_len]; first | omega | decide)
  | omega
  | decide
  | ((with_reducible show AllLt _ _); walk_at "al")
  | walk_at "lt"
  | (refine leM ?_; walk_at "lt")
  | (refine leL ?_; walk_at "lt")
  | (refine ⟨?_, ?_⟩ <;> walk_at "bd")))
local macro_rules | `(tactic| walk_at "rd") => `(tactic| repeat (walk_at "r1"))
local macro_rules | `(tactic| walk_at "r1") => `(tactic| (first
  | refine ⟨_, rfl, ?_⟩
  | refine ⟨_, _, rfl, rfl, ?_⟩
  | refine ⟨_, _, _, rfl, rfl, ?_⟩
  | refine ⟨_, _, _, rfl, rfl, rfl, ?_⟩
  | refine ⟨_, _, rfl, rfl, rfl, ?_⟩
  | refine ⟨_, _, _, rfl, ?_⟩
  | refine ⟨_, _, rfl, ?_⟩
  | (refine And.intro ?c ?_; (case c => (with_reducible show _ = some _); walk_at "fa"))
  | (refine ⟨?ws, ?h, ?_⟩; (case h => (with_reducible show _ = some (HO.lst _)); walk_at "fa"))
  | (refine ⟨?ws, ?ks, ?h, ?g, ?_⟩; (case h => (with_reducible show _ = some (HO.lst _)); walk_at "fa"); (case g => (with_reducible show _ = some (HO.lst _)); walk_at "fa"))
  | (refine ⟨?ws, SqL.of ?h, ?_⟩; (case h => walk_at "fa"))
  | (refine And.intro ⟨?ws, SqL.of ?h⟩ ?_; (case h => walk_at "fa"))
  | (refine ⟨_, ?xs, rfl, SqL.of ?h, ?_⟩; (case h => walk_at "fa"))
  | (refine ⟨_, ?xs, rfl, Or.inl (SqL.of ?h), ?_⟩; (case h => walk_at "fa"))
  | (refine ⟨_, _, ?xs, ?ys, rfl, SqL.of ?h, SqL.of ?g, ?_⟩; (case h => walk_at "fa"); (case g => walk_at "fa"))
  | refine And.intro (by walk_at "bd") ?_
  | (refine ⟨_, ?xs, _, ?v, rfl, rfl, SqL.of ?h, ?e, ?_⟩; (case h => walk_at "fa"); (case e => first | exact rfl | (refine nvs_get (at_get ?_); walk_at "bd")))
  | (refine ⟨_, ?xs, _, ?v, rfl, rfl, SqT.of ?h, ?e, ?_⟩; (case h => walk_at "fa"); (case e => exact rfl))
  | refine retV.nvs_drop ?_
  | refine retV.nvs_take ?_
  | refine retV.nvs_cut ?_
  | ((with_reducible show retL _ _ _); intro Hn pn sn nn hn)))
open Sz25 (at_ M L)
def rc6RoundM (v : List Nat) (k0 k1 : Nat) : List Nat :=
  let t := sqd (at_ v 1)
  let u := sqd (at_ v 3)
  [at_ v 1, (lft 32 (at_ v 2 ^^^ u) t + k1) % M, at_ v 3, (lft 32 (at_ v 0 ^^^ t) u + k0) % M]
def rc6UnroundM (v : List Nat) (k0 k1 : Nat) : List Nat :=
  let t := sqd (at_ v 0)
  let u := sqd (at_ v 2)
  [rgt 32 ((at_ v 3 + (M - k0)) % M) u ^^^ t, at_ v 0, rgt 32 ((at_ v 1 + (M - k1)) % M) t ^^^ u, at_ v 2]
def speckM (v : List Nat) (q : Nat) : List Nat := let x := ((rgt 64 (at_ v 1) 8 + at_ v 0) % L) ^^^ q; [lft 64 (at_ v 0) 3 ^^^ x, x]
def fishM (v : List Nat) (r1 r2 : Nat) : List Nat :=
  let a := (at_ v 0 + at_ v 1) % L
  let c := (at_ v 2 + at_ v 3) % L
  [a, lft 64 (at_ v 3) r2 ^^^ c, c, lft 64 (at_ v 1) r1 ^^^ a]
def unfishM (v : List Nat) (r1 r2 : Nat) : List Nat :=
  let b := rgt 64 (at_ v 3 ^^^ at_ v 0) r1
  let e := rgt 64 (at_ v 1 ^^^ at_ v 2) r2
  [(at_ v 0 + (L - b)) % L, b, (at_ v 2 + (L - e)) % L, e]
def spR6 : Sp := fun vs H Q _ => ∃ p k0 k1, vs = [.ref p, vn k0, vn k1] ∧ ∃ ws, H p = some (.lst (nvs ws)) ∧ ws.length = 4 ∧ AllLt 32 ws ∧ retL H Q (rc6RoundM ws k0 k1)
def spU6 : Sp := fun vs H Q _ => ∃ p k0 k1, vs = [.ref p, vn k0, vn k1] ∧ ∃ ws, H p = some (.lst (nvs ws)) ∧ ws.length = 4 ∧ AllLt 32 ws ∧ k0 < 2 ^ 32 ∧ k1 < 2 ^ 32 ∧ retL H Q (rc6UnroundM ws k0 k1)
def spSR : Sp := fun vs H Q _ => ∃ p k, vs = [.ref p, vn k] ∧ ∃ ws, H p = some (.lst (nvs ws)) ∧ ws.length = 2 ∧ AllLt 64 ws ∧ retL H Q (speckM ws k)
def spFR (K : PySem.W.Frag) : Sp := fun vs H Q _ => ∃ p t, vs = [.ref p, .ref t] ∧ ∃ ws r1 r2, H p = some (.lst (nvs ws)) ∧ SqT K H t (nvs [r1, r2]) ∧ ws.length = 4 ∧ AllLt 64 ws ∧ retL H Q (fishM ws r1 r2)
def spFU (K : PySem.W.Frag) : Sp := fun vs H Q _ => ∃ p t, vs = [.ref p, .ref t] ∧ ∃ ws r1 r2, H p = some (.lst (nvs ws)) ∧ SqT K H t (nvs [r1, r2]) ∧ ws.length = 4 ∧ AllLt 64 ws ∧ retL H Q (unfishM ws r1 r2)
section
variable {P : Program} {w : World} {K : PySem.W.Frag} {mg : Str → Option Value} {base : Heap} {a : Ad}
theorem ok_rc6_round (T : Txt K mg a) : FnOk P w K mg base CX0 3 a.f_rc6_round a.d_rc6_round ["words", "k0", "k1"] spR6 := by
  refine T.rc6_round.F.ok sc_rc6_round (fun vs H Q E h => ?_) (fun cdv A outer s H vs Q E hr h => ?_)
  · obtain ⟨_, _, _, rfl, _⟩ := h
    rfl
  · skip
    have G_turned_left := ok_turned_left (P := P) (w := w) (base := base) T
    have G_rc6_turned := ok_rc6_turned (P := P) (w := w) (base := base) T
    obtain ⟨p, k0, k1, rfl, ws, hp, l1, a1, q⟩ := h
    refine ⟨_, pss_cons (ps_set (i := 3) sc_rc6_round.nd rfl (by first | exact Or.inl rfl | exact Or.inr rfl) (T.rc6_turned.call G_rc6_turned (hr.mono (by decide)) (pa_cons (pe_ix ix_listN (pv 0) (pe_nat 1) (fun _ _ => rfl)) pa_nil)))
      (pss_cons (ps_set (i := 4) sc_rc6_round.nd rfl (by first | exact Or.inl rfl | exact Or.inr rfl) (T.rc6_turned.call G_rc6_turned (hr.mono (by decide)) (pa_cons (pe_ix ix_listN (pv 0) (pe_nat 3) (fun _ _ => rfl)) pa_nil)))
      (pss_cons (ps_set (i := 5) sc_rc6_round.nd rfl (by first | exact Or.inl rfl | exact Or.inr rfl) (pe_op op_modN' (pe_op op_addN (T.turned_left.call G_turned_left (hr.mono (by decide)) (pa_cons (pe_op op_xorN (pe_ix ix_listN (pv 0) (pe_nat 0) (fun _ _ => rfl)) (pv 3)) (pa_cons (pv 4) (pa_cons (pe_nat 32) pa_nil)))) (pv 1)) (pc T.c_TWO_32)))
      (pss_cons (ps_set (i := 6) sc_rc6_round.nd rfl (by first | exact Or.inl rfl | exact Or.inr rfl) (pe_op op_modN' (pe_op op_addN (T.turned_left.call G_turned_left (hr.mono (by decide)) (pa_cons (pe_op op_xorN (pe_ix ix_listN (pv 0) (pe_nat 2) (fun _ _ => rfl)) (pv 4)) (pa_cons (pv 3) (pa_cons (pe_nat 32) pa_nil)))) (pv 2)) (pc T.c_TWO_32)))
      (pss_one (ps_ret (pe_lst (pa_cons (pe_ix ix_listN (pv 0) (pe_nat 1) (fun _ _ => rfl)) (pa_cons (pv 6) (pa_cons (pe_ix ix_listN (pv 0) (pe_nat 3) (fun _ _ => rfl)) (pa_cons (pv 5) pa_nil)))))))))), ?_⟩
    walk_at "rd"
    exact q.new (by walk_at "sm")
theorem ok_rc6_unround (T : Txt K mg a) : FnOk P w K mg base CX0 3 a.f_rc6_unround a.d_rc6_unround ["words", "k0", "k1"] spU6 := by
  refine T.rc6_unround.F.ok sc_rc6_unround (fun vs H Q E h => ?_) (fun cdv A outer s H vs Q E hr h => ?_)
  · obtain ⟨_, _, _, rfl, _⟩ := h
    rfl
  · skip
    have G_turned_right := ok_turned_right (P := P) (w := w) (base := base) T
    have G_rc6_turned := ok_rc6_turned (P := P) (w := w) (base := base) T
    obtain ⟨p, k0, k1, rfl, ws, hp, l1, a1, h0, h1, q⟩ := h
    refine ⟨_, pss_cons (ps_set (i := 3) sc_rc6_unround.nd rfl (by first | exact Or.inl rfl | exact Or.inr rfl) (T.rc6_turned.call G_rc6_turned (hr.mono (by decide)) (pa_cons (pe_ix ix_listN (pv 0) (pe_nat 0) (fun _ _ => rfl)) pa_nil)))
      (pss_cons (ps_set (i := 4) sc_rc6_unround.nd rfl (by first | exact Or.inl rfl | exact Or.inr rfl) (T.rc6_turned.call G_rc6_turned (hr.mono (by decide)) (pa_cons (pe_ix ix_listN (pv 0) (pe_nat 2) (fun _ _ => rfl)) pa_nil)))
      (pss_cons (ps_set (i := 5) sc_rc6_unround.nd rfl (by first | exact Or.inl rfl | exact Or.inr rfl) (pe_op op_xorN (T.turned_right.call G_turned_right (hr.mono (by decide)) (pa_cons (pe_op op_modSM (pe_op op_sub (pe_ix ix_listN (pv 0) (pe_nat 3) (fun _ _ => rfl)) (pv 1)) (pc T.c_TWO_32)) (pa_cons (pv 4) (pa_cons (pe_nat 32) pa_nil)))) (pv 3)))
      (pss_cons (ps_set (i := 6) sc_rc6_unround.nd rfl (by first | exact Or.inl rfl | exact Or.inr rfl) (pe_op op_xorN (T.turned_right.call G_turned_right (hr.mono (by decide)) (pa_cons (pe_op op_modSM (pe_op op_sub (pe_ix ix_listN (pv 0) (pe_nat 1) (fun _ _ => rfl)) (pv 2)) (pc T.c_TWO_32)) (pa_cons (pv 3) (pa_cons (pe_nat 32) pa_nil)))) (pv 4)))
      (pss_one (ps_ret (pe_lst (pa_cons (pv 5) (pa_cons (pe_ix ix_listN (pv 0) (pe_nat 0) (fun _ _ => rfl)) (pa_cons (pv 6) (pa_cons (pe_ix ix_listN (pv 0) (pe_nat 2) (fun _ _ => rfl)) pa_nil)))))))))), ?_⟩
    walk_at "rd"
    exact q.new (by walk_at "sm")
theorem ok_speck_round (T : Txt K mg a) : FnOk P w K mg base CX0 3 a.f_speck_round a.d_speck_round ["words", "k"] spSR := by
  refine T.speck_round.F.ok sc_speck_round (fun vs H Q E h => ?_) (fun cdv A outer s H vs Q E hr h => ?_)
  · obtain ⟨_, _, rfl, _⟩ := h
    rfl
  · skip
    have G_turned_left := ok_turned_left (P := P) (w := w) (base := base) T
    have G_turned_right := ok_turned_right (P := P) (w := w) (base := base) T
    obtain ⟨p, k, rfl, ws, hp, l1, a1, q⟩ := h
    refine ⟨_, pss_cons (ps_set (i := 2) sc_speck_round.nd rfl (by first | exact Or.inl rfl | exact Or.inr rfl) (pe_op op_xorN (pe_op op_modN' (pe_op op_addN (T.turned_right.call G_turned_right (hr.mono (by decide)) (pa_cons (pe_ix ix_listN (pv 0) (pe_nat 1) (fun _ _ => rfl)) (pa_cons (pe_nat 8) (pa_cons (pe_nat 64) pa_nil)))) (pe_ix ix_listN (pv 0) (pe_nat 0) (fun _ _ => rfl))) (pc T.c_TWO_64)) (pv 1)))
      (pss_one (ps_ret (pe_lst (pa_cons (pe_op op_xorN (T.turned_left.call G_turned_left (hr.mono (by decide)) (pa_cons (pe_ix ix_listN (pv 0) (pe_nat 0) (fun _ _ => rfl)) (pa_cons (pe_nat 3) (pa_cons (pe_nat 64) pa_nil)))) (pv 2)) (pa_cons (pv 2) pa_nil))))), ?_⟩
    walk_at "rd"
    exact q.new (by walk_at "sm")
theorem ok_threefish_round (T : Txt K mg a) : FnOk P w K mg base CX0 2 a.f_threefish_round a.d_threefish_round ["words", "turns"] (spFR K) := by
  refine T.threefish_round.F.ok sc_threefish_round (fun vs H Q E h => ?_) (fun cdv A outer s H vs Q E hr h => ?_)
  · obtain ⟨_, _, rfl, _⟩ := h
    rfl
  · skip
    have G_turned_left := ok_turned_left (P := P) (w := w) (base := base) T
    obtain ⟨p, k, rfl, ws, r1, r2, hp, ht, l1, a1, q⟩ := h
    have ht : ∀ {v : V} {j : Nat} {Q : VK}, (nvs [r1, r2])[j]? = some v → Q v H → rIxTN K (.ref k) (vn j) H Q := fun e q => ⟨_, _, _, _, rfl, rfl, ht, e, q⟩
    refine ⟨_, pss_cons (ps_set (i := 2) sc_threefish_round.nd rfl (by first | exact Or.inl rfl | exact Or.inr rfl) (pe_op op_modN' (pe_op op_addN (pe_ix ix_listN (pv 0) (pe_nat 0) (fun _ _ => rfl)) (pe_ix ix_listN (pv 0) (pe_nat 1) (fun _ _ => rfl))) (pc T.c_TWO_64)))
      (pss_cons (ps_set (i := 3) sc_threefish_round.nd rfl (by first | exact Or.inl rfl | exact Or.inr rfl) (pe_op op_xorN (T.turned_left.call G_turned_left (hr.mono (by decide)) (pa_cons (pe_ix ix_listN (pv 0) (pe_nat 1) (fun _ _ => rfl)) (pa_cons (pe_ix ix_tupN (pv 1) (pe_nat 0) (fun _ _ => rfl)) (pa_cons (pe_nat 64) pa_nil)))) (pv 2)))
      (pss_cons (ps_set (i := 4) sc_threefish_round.nd rfl (by first | exact Or.inl rfl | exact Or.inr rfl) (pe_op op_modN' (pe_op op_addN (pe_ix ix_listN (pv 0) (pe_nat 2) (fun _ _ => rfl)) (pe_ix ix_listN (pv 0) (pe_nat 3) (fun _ _ => rfl))) (pc T.c_TWO_64)))
      (pss_cons (ps_set (i := 5) sc_threefish_round.nd rfl (by first | exact Or.inl rfl | exact Or.inr rfl) (pe_op op_xorN (T.turned_left.call G_turned_left (hr.mono (by decide)) (pa_cons (pe_ix ix_listN (pv 0) (pe_nat 3) (fun _ _ => rfl)) (pa_cons (pe_ix ix_tupN (pv 1) (pe_nat 1) (fun _ _ => rfl)) (pa_cons (pe_nat 64) pa_nil)))) (pv 4)))
      (pss_one (ps_ret (pe_lst (pa_cons (pv 2) (pa_cons (pv 5) (pa_cons (pv 4) (pa_cons (pv 3) pa_nil)))))))))), ?_⟩
    walk_at "rd"
    refine ht rfl ?_
    walk_at "rd"
    refine ht rfl ?_
    walk_at "rd"
    exact q.new (by walk_at "sm")
theorem ok_threefish_unround (T : Txt K mg a) : FnOk P w K mg base CX0 3 a.f_threefish_unround a.d_threefish_unround ["words", "turns"] (spFU K) := by
  refine T.threefish_unround.F.ok sc_threefish_unround (fun vs H Q E h => ?_) (fun cdv A outer s H vs Q E hr h => ?_)
  · obtain ⟨_, _, rfl, _⟩ := h
    rfl
  · skip
    have G_turned_right := ok_turned_right (P := P) (w := w) (base := base) T
    obtain ⟨p, k, rfl, ws, r1, r2, hp, ht, l1, a1, q⟩ := h
    have ht : ∀ {v : V} {j : Nat} {Q : VK}, (nvs [r1, r2])[j]? = some v → Q v H → rIxTN K (.ref k) (vn j) H Q := fun e q => ⟨_, _, _, _, rfl, rfl, ht, e, q⟩
    refine ⟨_, pss_cons (ps_set (i := 2) sc_threefish_unround.nd rfl (by first | exact Or.inl rfl | exact Or.inr rfl) (T.turned_right.call G_turned_right (hr.mono (by decide)) (pa_cons (pe_op op_xorN (pe_ix ix_listN (pv 0) (pe_nat 3) (fun _ _ => rfl)) (pe_ix ix_listN (pv 0) (pe_nat 0) (fun _ _ => rfl))) (pa_cons (pe_ix ix_tupN (pv 1) (pe_nat 0) (fun _ _ => rfl)) (pa_cons (pe_nat 64) pa_nil)))))
      (pss_cons (ps_set (i := 3) sc_threefish_unround.nd rfl (by first | exact Or.inl rfl | exact Or.inr rfl) (T.turned_right.call G_turned_right (hr.mono (by decide)) (pa_cons (pe_op op_xorN (pe_ix ix_listN (pv 0) (pe_nat 1) (fun _ _ => rfl)) (pe_ix ix_listN (pv 0) (pe_nat 2) (fun _ _ => rfl))) (pa_cons (pe_ix ix_tupN (pv 1) (pe_nat 1) (fun _ _ => rfl)) (pa_cons (pe_nat 64) pa_nil)))))
      (pss_one (ps_ret (pe_lst (pa_cons (pe_op op_modSM (pe_op op_sub (pe_ix ix_listN (pv 0) (pe_nat 0) (fun _ _ => rfl)) (pv 2)) (pc T.c_TWO_64)) (pa_cons (pv 2) (pa_cons (pe_op op_modSM (pe_op op_sub (pe_ix ix_listN (pv 0) (pe_nat 2) (fun _ _ => rfl)) (pv 3)) (pc T.c_TWO_64)) (pa_cons (pv 3) pa_nil)))))))), ?_⟩
    walk_at "rd"
    refine ht rfl ?_
    walk_at "rd"
    refine ht rfl ?_
    walk_at "rd"
    exact q.new (by walk_at "sm")
end
end Sx
end
section
set_option Elab.async false
set_option linter.all false
set_option maxRecDepth 100000
set_option maxHeartbeats 2000000
set_option exponentiation.threshold 2000
namespace Sx
open PySem PySem.Spec PyProof.Rows L2
local macro_rules | `(tactic| walk_at "fa") => `(tactic| (first
  | assumption
  | exact upd_same
  | (refine upd_get ?n ?g; (case n => assumption); (case g => walk_at "fa"))
  | (refine Same.use (Same.upd ?n) ?g; (case n => assumption); (case g => walk_at "fa"))
  | (refine Same.use (H := ?m) ?s ?g; (case s => assumption); (case g => walk_at "fa"))))
local macro_rules | `(tactic| walk_at "sm") => `(tactic| (first
  | assumption
  | exact Same.refl _
  | (refine Same.after (Same.upd ?n) ?g; (case n => assumption); (case g => walk_at "sm"))
  | (refine Same.after (H1 := ?m) ?s ?g; (case s => assumption); (case g => walk_at "sm"))))
local macro_rules | `(tactic| walk_at "nn") => `(tactic| (first
  | assumption
  | (refine Same.free (H' := ?m) ?s ?n; (case n => assumption); (case s => walk_at "sm"))))
local macro_rules | `(tactic| walk_at "lt") => `(tactic| (first
  | assumption
  | omega
  | exact Nat.mod_lt _ (by decide)
  | (refine at_lt ?_; walk_at "al")
  | exact mlt_lt _ _
  | exact sqd_lt
  | (refine Nat.xor_lt_two_pow ?_ ?_ <;> walk_at "lt")
  | (refine lft_lt ?_ (by decide); walk_at "lt")
  | (refine rgt_lt ?_ (by decide); walk_at "lt")
  | (refine lt64_of16 ?_; walk_at "lt")))
local macro_rules | `(tactic| walk_at "al") => `(tactic| (first
  | assumption
  | exact AllLt.nil
  | (refine AllLt.cons ?_ ?_; (walk_at "lt"); (walk_at "al"))
  | (refine AllLt.drop ?_; walk_at "al")
  | (refine AllLt.take ?_; walk_at "al")))
local macro_rules | `(tactic| walk_at "bd") => `(tactic| ((try dsimp only); first
  | (simp only [List.length_drop, List.length_take, List.length_cons, List.length_nil, List.length_map, List.length_range, nvs_len]; first | omega | decide)
  | omega
  | decide
  | ((with_reducible show AllLt _ _); walk_at "al")
  | walk_at "lt"
  | exact fun _ _ => trivial
  | (refine leM ?_; walk_at "lt")
  | (refine leL ?_; walk_at "lt")
  | (refine ⟨?_, ?_⟩ <;> walk_at "bd")))
local macro_rules | `(tactic| walk_at "rd") => `(tactic| repeat (walk_at "r1"))
local macro_rules | `(tactic| walk_at "r1") => `(tactic| (first
  | refine ⟨_, rfl, ?_⟩
  | refine ⟨_, _, rfl, rfl, ?_⟩
  | refine ⟨_, _, _, rfl, rfl, ?_⟩
  | refine ⟨_, _, _, rfl, rfl, rfl, ?_⟩
  | refine ⟨_, _, rfl, rfl, rfl, ?_⟩
  | refine ⟨_, _, _, rfl, ?_⟩
  | refine ⟨_, _, rfl, ?_⟩
  | (refine And.intro ?c ?_; (case c => (with_reducible show _ = some _); walk_at "fa"))
  | (refine ⟨?ws, ?h, ?_⟩; (case h => (with_reducible show _ = some (HO.lst _)); walk_at "fa"))
  | (refine ⟨?ws, ?ks, ?h, ?g, ?_⟩; (case h => (with_reducible show _ = some (HO.lst _)); walk_at "fa"); (case g => (with_reducible show _ = some (HO.lst _)); walk_at "fa"))
  | (refine ⟨?ws, SqL.of ?h, ?_⟩; (case h => walk_at "fa"))
  | (refine And.intro ⟨?ws, SqL.of ?h⟩ ?_; (case h => walk_at "fa"))
  | (refine ⟨_, ?xs, rfl, SqL.of ?h, ?_⟩; (case h => walk_at "fa"))
  | (refine ⟨_, ?xs, rfl, Or.inl (SqL.of ?h), ?_⟩; (case h => walk_at "fa"))
  | (refine ⟨_, _, ?xs, ?ys, rfl, SqL.of ?h, SqL.of ?g, ?_⟩; (case h => walk_at "fa"); (case g => walk_at "fa"))
  | (refine And.intro (Or.inl ⟨rfl, ?xs, SqL.of ?h⟩) ?_; (case h => walk_at "fa"))
  | refine And.intro rfl ?_
  | refine And.intro (by walk_at "bd") ?_
  | (refine ⟨_, ?xs, _, ?v, rfl, rfl, SqL.of ?h, ?e, ?_⟩; (case h => walk_at "fa"); (case e => first | exact rfl | (refine nvs_get (at_get ?_); walk_at "bd")))
  | (refine ⟨_, ?xs, _, ?v, rfl, rfl, SqT.of ?h, ?e, ?_⟩; (case h => walk_at "fa"); (case e => exact rfl))
  | refine retV.nvs_drop ?_
  | refine retV.nvs_take ?_
  | refine retV.nvs_cut ?_
  | ((with_reducible show retL _ _ _); intro Hn pn sn nn hn)
  | rw [nvs_reverse]
  | refine fun (pn : Addr) (nn : _ = none) => ?_))
open Sz25 (at_ M L GOLD)
/-- a row as one number, and a number as a row -/
def numF (b : Nat) (row : List Nat) : Nat := row.foldl (fun v x => v * 2 ^ b + x) 0
def rowF (n c b : Nat) : List Nat := (List.range c).map fun i => n / 2 ^ (b * (c - 1 - i)) % 2 ^ b
def hfM (row : List Nat) (b nb : Nat) : List Nat := rowF (numF b row) (row.length * b / nb) nb
theorem numF_snoc (b : Nat) (row : List Nat) (x : Nat) : numF b (row ++ [x]) = numF b row * 2 ^ b + x := by
  unfold numF
  rw [List.foldl_append] <;> rfl
theorem numF_lt (b : Nat) : ∀ (n : Nat) (row : List Nat), row.length = n → AllLt b row → numF b row < 2 ^ (b * n)
  | 0, row, h, _ => by
    have e : row = [] := List.length_eq_zero_iff.mp h
    subst e
    exact Nat.two_pow_pos _
  | n + 1, row, h, al => by
    obtain ⟨r, x, rfl⟩ : ∃ r x, row = r ++ [x] := by
      have hne : row ≠ [] := by intro z; rw [z] at h; cases h
      exact ⟨row.dropLast, row.getLast hne, (List.dropLast_concat_getLast hne).symm⟩
    have ih := numF_lt b n r (by rw [List.length_append] at h; simpa using h) fun y hy => al y (List.mem_append_left _ hy)
    have hx : x < 2 ^ b := al x (List.mem_append_right _ (List.mem_singleton.mpr rfl))
    rw [numF_snoc, Nat.mul_succ, Nat.pow_add]
    have h1 : (numF b r + 1) * 2 ^ b ≤ 2 ^ (b * n) * 2 ^ b := Nat.mul_le_mul_right _ ih
    rw [Nat.add_mul, Nat.one_mul] at h1
    omega
theorem or_add {v b x : Nat} (h : x < 2 ^ b) : v * 2 ^ b ||| x = v * 2 ^ b + x := by
  rw [Nat.mul_comm]
  exact (Nat.two_pow_add_eq_or_of_lt h v).symm
def spNF : Sp := fun vs H Q _ => ∃ p b, vs = [.ref p, vn b] ∧ ∃ row, H p = some (.lst (nvs row)) ∧ AllLt b row ∧ b ≤ 128 ∧ b * row.length ≤ 512 ∧ Q (vn (numF b row)) H
def spRF : Sp := fun vs H Q _ => ∃ n c b, vs = [vn n, vn c, vn b] ∧ 1 ≤ c ∧ c ≤ 64 ∧ b ≤ 128 ∧ retL H Q (rowF n c b)
def spHF : Sp := fun vs H Q _ => ∃ p b nb, vs = [.ref p, vn b, vn nb] ∧ ∃ row, H p = some (.lst (nvs row)) ∧ AllLt b row ∧ 0 < b ∧ b ≤ 128 ∧ b * row.length ≤ 512 ∧ 0 < nb ∧ nb ≤ 128 ∧ 1 ≤ row.length * b / nb ∧ row.length * b / nb ≤ 64 ∧ retL H Q (hfM row b nb)
def spLF : Sp := fun vs H Q _ => ∃ p b nb, vs = [.ref p, vn b, vn nb] ∧ ∃ row, H p = some (.lst (nvs row)) ∧ AllLt b row ∧ 0 < b ∧ b ≤ 128 ∧ b * row.length ≤ 512 ∧ 0 < nb ∧ nb ≤ 128 ∧ 1 ≤ row.length * b / nb ∧ row.length * b / nb ≤ 64 ∧ retL H Q (hfM row.reverse b nb).reverse
def zipM (f : Nat → Nat → Nat) (xs ys : List Nat) : List Nat := (xs.zip ys).map fun z => f z.1 z.2
def spZip (f : Nat → Nat → Nat) (ok : Nat → Prop) : Sp := fun vs H Q _ => ∃ p q, vs = [.ref p, .ref q] ∧ ∃ xs ys, H p = some (.lst (nvs xs)) ∧ H q = some (.lst (nvs ys)) ∧ xs.length ≤ 64 ∧ (∀ y ∈ ys, ok y) ∧ retL H Q (zipM f xs ys)
theorem at_mem {l : List Nat} {i : Nat} (h : i < l.length) : at_ l i ∈ l := List.mem_of_getElem? (at_get h)
theorem zip_range (f : Nat → Nat → Nat) (xs ys : List Nat) : (List.range (min xs.length ys.length)).map (fun n => vn (f (at_ xs n) (at_ ys n))) = nvs (zipM f xs ys) := by
  apply List.ext_getElem?
  intro n
  unfold nvs zipM
  rw [List.getElem?_map, List.getElem?_map, List.getElem?_map]
  by_cases h : n < min xs.length ys.length
  · have hx : n < xs.length := by omega
    have hy : n < ys.length := by omega
    have e : (xs.zip ys)[n]? = some (at_ xs n, at_ ys n) := by
      rw [List.getElem?_zip_eq_some]
      exact ⟨at_get hx, at_get hy⟩
    rw [e, List.getElem?_range h] <;> rfl
  · rw [List.getElem?_eq_none (by rw [List.length_range]; omega), List.getElem?_eq_none (by rw [List.length_zip]; omega)] <;> rfl
theorem zip_lc {K : PySem.W.Frag} {p q D : Addr} {xs ys : List Nat} {te : TE} {σ : L2.St} {vs : List Nat} {i j : Nat} {H : Hp} {Q : VK} (f : Nat → Nat → Nat) (hp : H p = some (.lst (nvs xs))) (hq : H q = some (.lst (nvs ys))) (hl : xs.length ≤ 64) (hD : H D = none)
    (hw : ∀ u v, wipe (((wipe σ vs).set i u).set j v) vs = wipe σ vs)
    (hte : ∀ x y H' Qp, x ∈ xs → y ∈ ys → Qp (vn (f x y)) H' → te (((wipe σ vs).set i (some (vn x))).set j (some (vn y))) H' Qp)
    (k : retL H Q (zipM f xs ys)) :
    ∃ W : Nat → Nat → Hp → Prop, (∃ m, W 0 m (upd H D (.lst []))) ∧ ∀ i' m H, W i' m H →
      ((Itz K p q).stop i' H ∧ Q (.ref D) H) ∨ ((Itz K p q).go i' H ∧ ∃ Nx : Hp → Prop, (∀ H', Nx H' → ∃ m', m' < m ∧ W (i' + 1) m' H') ∧ ∀ x H', (Itz K p q).yld i' H x H' → gTup K 2 (gCons (gName i) (gCons (gName j) gNil)) x (wipe σ vs) H' fun σ2 H2 => wipe σ2 vs = wipe σ vs ∧ tYes σ2 H2 fun b H3 =>
        if b = true then te σ2 H3 fun y H4 => ∃ acc, H4 D = some (.lst acc) ∧ acc.length < sizeLine ∧ Nx (upd H4 D (.lst (acc ++ [y]))) else Nx H3) := by
  refine lc_end (min xs.length ys.length) (fun n => vn (f (at_ xs n) (at_ ys n))) hD (Nat.le_trans (Nat.min_le_left _ _) (Nat.le_trans hl (by decide))) ?_ ?_ ?_ ?_
  · intro n H' hn s1
    exact ⟨nvs xs, nvs ys, _, _, SqL.of (s1 _ _ hp), SqL.of (s1 _ _ hq), nvs_get (at_get (by omega)), nvs_get (at_get (by omega))⟩
  · intro H' s1
    refine ⟨nvs xs, nvs ys, SqL.of (s1 _ _ hp), SqL.of (s1 _ _ hq), ?_⟩
    rw [nvs_len, nvs_len]
    omega
  · rintro n v H' H'' Qp hn s1 ⟨t, x, y, rfl, nT, rfl, hx, hy⟩ k'
    have e1 := (nvs_get (at_get (show n < xs.length by omega))).symm.trans (hx _ (SqL.of (s1 _ _ hp)))
    have e2 := (nvs_get (at_get (show n < ys.length by omega))).symm.trans (hy _ (SqL.of (s1 _ _ hq)))
    cases e1
    cases e2
    exact ⟨t, _, rfl, SqT.of upd_same, rfl, _, _, rfl, _, _, rfl, rfl, hw _ _, hte _ _ _ _ (at_mem (by omega)) (at_mem (by omega)) (k' _ (Same.upd nT))⟩
  · intro H' s1 h
    rw [zip_range] at h
    exact k H' D s1 hD h
section
variable {P : Program} {w : World} {K : PySem.W.Frag} {mg : Str → Option Value} {base : Heap} {a : Ad}
theorem ok_number_from (T : Txt K mg a) : FnOk P w K mg base CX0 1 a.f_number_from a.d_number_from ["row", "bits"] spNF := by
  refine T.number_from.F.ok sc_number_from (fun vs H Q E h => ?_) (fun cdv A outer s H vs Q E hr h => ?_)
  · obtain ⟨_, _, rfl, _⟩ := h
    rfl
  · skip

    obtain ⟨p, b, rfl, row, hp, al, hb, hl, q⟩ := h
    refine ⟨_, pss_cons (ps_set (i := 2) sc_number_from.nd rfl (by first | exact Or.inl rfl | exact Or.inr rfl) (pe_nat 0))
      (pss_cons (ps_for PassesOwn.never rfl (pi_list (pv 0)) (pg_name (i := 3) sc_number_from.nd rfl (by first | exact Or.inl rfl | exact Or.inr rfl)) (pss_one (ps_set (i := 2) sc_number_from.nd rfl (by first | exact Or.inl rfl | exact Or.inr rfl) (pe_op op_orN (pe_op op_shlN (pv 2) (pv 1)) (pv 3)))))
      (pss_one (ps_ret (pv 2)))), ?_⟩
    walk_at "rd"
    refine for_nats (ks := row) (fun i σ H' => Hold (H' = H ∧ ∃ u, σ = [some (.ref p), some (vn b), some (vn (numF b (row.take i))), u])) (.mk ⟨rfl, none, rfl⟩) (fun i σ H' z => by obtain ⟨rfl, _⟩ := z.out; exact hp) ?_ ?_
    · intro i k σ H' hki z
      obtain ⟨rfl, u, rfl⟩ := z.out
      have hkl : k < 2 ^ b := al k (List.mem_of_getElem? hki)
      have hi : i < row.length := (List.getElem?_eq_some_iff.mp hki).1
      have hn : numF b (row.take i) < 2 ^ 1024 := by
        have h1 := numF_lt b i (row.take i) (by rw [List.length_take]; omega) fun x hx => al x (List.mem_of_mem_take hx)
        have h2 : b * i ≤ b * row.length := Nat.mul_le_mul_left _ (by omega)
        exact Nat.lt_of_lt_of_le h1 (Nat.pow_le_pow_right (by decide) (by omega))
      have e : numF b (row.take (i + 1)) = (numF b (row.take i) * 2 ^ b ||| k) := by rw [take_snoc hki, numF_snoc, or_add hkl]
      generalize numF b (row.take i) = v at hn e
      walk_at "rd"
      exact .mk ⟨rfl, _, by rw [e]; rfl⟩
    · intro σ H' z
      obtain ⟨rfl, u, rfl⟩ := z.out
      rw [List.take_length]
      walk_at "rd"
      exact q
theorem ok_row_from (T : Txt K mg a) : FnOk P w K mg base CX0 1 a.f_row_from a.d_row_from ["number", "count", "bits"] spRF := by
  refine T.row_from.F.ok sc_row_from (fun vs H Q E h => ?_) (fun cdv A outer s H vs Q E hr h => ?_)
  · obtain ⟨_, _, _, rfl, _⟩ := h
    rfl
  · skip

    obtain ⟨n, c, b, rfl, h1, h2, h3, q⟩ := h
    have e1 : 1 * 2 ^ b = 2 ^ b := Nat.one_mul _
    have e2 : 0 < 1 * 2 ^ b := by rw [e1]; exact Nat.two_pow_pos _
    have e3 : 1 < 2 ^ 1024 := Nat.lt_of_lt_of_le (by decide) (pow_big (b := 1) (by decide))
    refine ⟨_, pss_one (ps_ret (pe_lc rfl sc_row_from.nd (pi_range3 rfl T.n_range (pa_cons (pe_op op_subN (pv 1) (pe_nat 1)) (pa_cons (pe_un un_neg (pe_nat 1)) (pa_cons (pe_un un_neg (pe_nat 1)) pa_nil)))) (blkOk_by (N := ["number", "count", "bits", "place"]) (sc := defScope s_row_from) (own := [("place", 3)]) (by decide +kernel)) (fun _ _ _ _ _ => (pg_name (i := 3) sc_row_from.nd rfl (by first | exact Or.inl rfl | exact Or.inr rfl))) (fun _ _ _ _ _ => pts_nil) (fun _ _ _ _ _ => (pe_op op_modN' (pe_op op_shrN (pv 0) (pe_op op_mulN (pv 2) (pv 3))) (pe_op op_shlN (pe_nat 1) (pv 2)))))), ?_⟩
    walk_at "rd"
    have eg : RgC ((c - 1 : Nat) : Int) (-((1 : Nat) : Int)) (-((1 : Nat) : Int)) c := by
      have z := RgC.neg (i := ((c - 1 : Nat) : Int)) (j := -1) (by omega) (by omega) (by omega) (by omega)
      have e : (((c - 1 : Nat) : Int) - -1).toNat = c := by omega
      rw [e] at z
      exact z
    refine ⟨_, _, _, c, rfl, eg, fun D hD => ?_⟩
    refine lc_end c (fun i => vn (n / 2 ^ (b * (c - 1 - i)) % (1 * 2 ^ b))) hD (Nat.le_trans h2 (by decide)) (fun i H' hi _ => hi) (fun H' _ => Nat.le_refl _) ?_ ?_
    · rintro i x H' H'' Qp hi s1 ⟨rfl, rfl⟩ k
      have e4 : ((c - 1 : Nat) : Int) + (i : Nat) * (-((1 : Nat) : Int)) = ((c - 1 - i : Nat) : Int) := by omega
      rw [e4]
      walk_at "rd"
      exact k _ (Same.refl _)
    · intro H' s1 h
      refine q H' D s1 hD ?_
      rw [h]
      unfold nvs rowF
      rw [List.map_map, e1] <;> rfl
theorem ok_highest_first (T : Txt K mg a) : FnOk P w K mg base CX0 2 a.f_highest_first a.d_highest_first ["row", "bits", "new_bits"] spHF := by
  refine T.highest_first.F.ok sc_highest_first (fun vs H Q E h => ?_) (fun cdv A outer s H vs Q E hr h => ?_)
  · obtain ⟨_, _, _, rfl, _⟩ := h
    rfl
  · skip
    have G_row_from := ok_row_from (P := P) (w := w) (base := base) T
    have G_number_from := ok_number_from (P := P) (w := w) (base := base) T
    obtain ⟨p, b, nb, rfl, row, hp, al, b0, hb, hl, n0, n1, c0, c1, q⟩ := h
    refine ⟨_, pss_one (ps_ret (T.row_from.call G_row_from (hr.mono (by decide)) (pa_cons (T.number_from.call G_number_from (hr.mono (by decide)) (pa_cons (pv 0) (pa_cons (pv 1) pa_nil))) (pa_cons (pe_op op_divN' (pe_op op_mulN (pe_callB call_len_seq rfl T.n_len PySem.boot_len (pa_cons (pv 0) pa_nil)) (pv 1)) (pv 2)) (pa_cons (pv 2) pa_nil))))), ?_⟩
    walk_at "rd"
    rename_i H1 p1 s1 n1 h1
    rw [nvs_len] at h1
    exact q.use s1 n1 h1
theorem ok_lowest_first (T : Txt K mg a) : FnOk P w K mg base CX0 3 a.f_lowest_first a.d_lowest_first ["row", "bits", "new_bits"] spLF := by
  refine T.lowest_first.F.ok sc_lowest_first (fun vs H Q E h => ?_) (fun cdv A outer s H vs Q E hr h => ?_)
  · obtain ⟨_, _, _, rfl, _⟩ := h
    rfl
  · skip
    have G_highest_first := ok_highest_first (P := P) (w := w) (base := base) T
    obtain ⟨p, b, nb, rfl, row, hp, al, b0, hb, hl, n0, n1, c0, c1, q⟩ := h
    have al' := al.rev
    rw [← List.length_reverse] at hl c0 c1
    refine ⟨_, pss_one (ps_ret (pe_listrev rfl rfl T.n_list rfl T.n_reversed (pa_cons (T.highest_first.call G_highest_first (hr.mono (by decide)) (pa_cons (pe_listrev rfl rfl T.n_list rfl T.n_reversed (pa_cons (pv 0) pa_nil)) (pa_cons (pv 1) (pa_cons (pv 2) pa_nil)))) pa_nil))), ?_⟩
    walk_at "rd"
    exact q.use (by walk_at "sm") (by walk_at "nn") (by walk_at "fa")
theorem ok_exclusive_or (T : Txt K mg a) : FnOk P w K mg base CX0 1 a.f_exclusive_or a.d_exclusive_or ["row", "other"] (spZip (fun x y => x ^^^ y) fun _ => True) := by
  refine T.exclusive_or.F.ok sc_exclusive_or (fun vs H Q E h => ?_) (fun cdv A outer s H vs Q E hr h => ?_)
  · obtain ⟨_, _, rfl, _⟩ := h
    rfl
  · skip

    obtain ⟨p, r, rfl, xs, ys, hp, hr', hl, _, q⟩ := h
    refine ⟨_, pss_one (ps_ret (pe_lc (g := gTup K 2 (gCons (gName 2) (gCons (gName 3) gNil))) rfl sc_exclusive_or.nd (pi_zip rfl T.n_zip (pa_cons (pv 0) (pa_cons (pv 1) pa_nil))) (blkOk_by (N := ["row", "other", "x", "y"]) (sc := defScope s_exclusive_or) (own := [("x", 2), ("y", 3)]) (by decide +kernel)) (fun _ _ _ _ _ => (pg_tup rfl (pgs_cons (pg_name (i := 2) sc_exclusive_or.nd rfl (by first | exact Or.inl rfl | exact Or.inr rfl)) (pgs_cons (pg_name (i := 3) sc_exclusive_or.nd rfl (by first | exact Or.inl rfl | exact Or.inr rfl)) pgs_nil)))) (fun _ _ _ _ _ => pts_nil) (fun _ _ _ _ _ => (pe_op op_xorN (pv 2) (pv 3))))), ?_⟩
    walk_at "rd"
    refine zip_lc (fun x y => x ^^^ y) hp hr' hl (by assumption) (fun _ _ => rfl) (fun x y H' Qp _ _ k => ?_) q
    walk_at "rd"
    exact k
theorem ok_threefish_sum (T : Txt K mg a) : FnOk P w K mg base CX0 1 a.f_threefish_sum a.d_threefish_sum ["words", "keys"] (spZip (fun x y => (x + y) % L) fun _ => True) := by
  refine T.threefish_sum.F.ok sc_threefish_sum (fun vs H Q E h => ?_) (fun cdv A outer s H vs Q E hr h => ?_)
  · obtain ⟨_, _, rfl, _⟩ := h
    rfl
  · skip

    obtain ⟨p, r, rfl, xs, ys, hp, hr', hl, _, q⟩ := h
    refine ⟨_, pss_one (ps_ret (pe_lc (g := gTup K 2 (gCons (gName 2) (gCons (gName 3) gNil))) rfl sc_threefish_sum.nd (pi_zip rfl T.n_zip (pa_cons (pv 0) (pa_cons (pv 1) pa_nil))) (blkOk_by (N := ["words", "keys", "word", "k"]) (sc := defScope s_threefish_sum) (own := [("word", 2), ("k", 3)]) (by decide +kernel)) (fun _ _ _ _ _ => (pg_tup rfl (pgs_cons (pg_name (i := 2) sc_threefish_sum.nd rfl (by first | exact Or.inl rfl | exact Or.inr rfl)) (pgs_cons (pg_name (i := 3) sc_threefish_sum.nd rfl (by first | exact Or.inl rfl | exact Or.inr rfl)) pgs_nil)))) (fun _ _ _ _ _ => pts_nil) (fun _ _ _ _ _ => (pe_op op_modN' (pe_op op_addN (pv 2) (pv 3)) (pc T.c_TWO_64))))), ?_⟩
    walk_at "rd"
    refine zip_lc (fun x y => (x + y) % L) hp hr' hl (by assumption) (fun _ _ => rfl) (fun x y H' Qp _ _ k => ?_) q
    walk_at "rd"
    exact k
theorem ok_threefish_difference (T : Txt K mg a) : FnOk P w K mg base CX0 1 a.f_threefish_difference a.d_threefish_difference ["words", "keys"] (spZip (fun x y => (x + (L - y)) % L) fun y => y < 2 ^ 64) := by
  refine T.threefish_difference.F.ok sc_threefish_difference (fun vs H Q E h => ?_) (fun cdv A outer s H vs Q E hr h => ?_)
  · obtain ⟨_, _, rfl, _⟩ := h
    rfl
  · skip

    obtain ⟨p, r, rfl, xs, ys, hp, hr', hl, hy, q⟩ := h
    refine ⟨_, pss_one (ps_ret (pe_lc (g := gTup K 2 (gCons (gName 2) (gCons (gName 3) gNil))) rfl sc_threefish_difference.nd (pi_zip rfl T.n_zip (pa_cons (pv 0) (pa_cons (pv 1) pa_nil))) (blkOk_by (N := ["words", "keys", "word", "k"]) (sc := defScope s_threefish_difference) (own := [("word", 2), ("k", 3)]) (by decide +kernel)) (fun _ _ _ _ _ => (pg_tup rfl (pgs_cons (pg_name (i := 2) sc_threefish_difference.nd rfl (by first | exact Or.inl rfl | exact Or.inr rfl)) (pgs_cons (pg_name (i := 3) sc_threefish_difference.nd rfl (by first | exact Or.inl rfl | exact Or.inr rfl)) pgs_nil)))) (fun _ _ _ _ _ => pts_nil) (fun _ _ _ _ _ => (pe_op op_modSM (pe_op op_sub (pv 2) (pv 3)) (pc T.c_TWO_64))))), ?_⟩
    walk_at "rd"
    refine zip_lc (fun x y => (x + (L - y)) % L) hp hr' hl (by assumption) (fun _ _ => rfl) (fun x y H' Qp _ hm k => ?_) q
    have hy' := hy y hm
    walk_at "rd"
    exact k
end
end Sx
end
section
set_option Elab.async false
set_option linter.all false
set_option maxRecDepth 100000
set_option maxHeartbeats 2000000
set_option exponentiation.threshold 2000
namespace Sx
open PySem PySem.Spec PyProof.Rows L2
local macro_rules | `(tactic| walk_at "fa") => `(tactic| (first
  | assumption
  | exact upd_same
  | (refine upd_get ?n ?g; (case n => assumption); (case g => walk_at "fa"))
  | (refine Same.use (Same.upd ?n) ?g; (case n => assumption); (case g => walk_at "fa"))
  | (refine Same.use (H := ?m) ?s ?g; (case s => assumption); (case g => walk_at "fa"))))
local macro_rules | `(tactic| walk_at "sm") => `(tactic| (first
  | assumption
  | exact Same.refl _
  | (refine Same.after (Same.upd ?n) ?g; (case n => assumption); (case g => walk_at "sm"))
  | (refine Same.after (H1 := ?m) ?s ?g; (case s => assumption); (case g => walk_at "sm"))))
local macro_rules | `(tactic| walk_at "nn") => `(tactic| (first
  | assumption
  | (refine Same.free (H' := ?m) ?s ?n; (case n => assumption); (case s => walk_at "sm"))))
local macro_rules | `(tactic| walk_at "lt") => `(tactic| (first
  | assumption
  | omega
  | exact Nat.mod_lt _ (by decide)
  | (refine at_lt ?_; walk_at "al")
  | exact mlt_lt _ _
  | exact sqd_lt
  | (refine Nat.xor_lt_two_pow ?_ ?_ <;> walk_at "lt")
  | (refine lft_lt ?_ (by decide); walk_at "lt")
  | (refine rgt_lt ?_ (by decide); walk_at "lt")
  | (refine lt64_of16 ?_; walk_at "lt")))
local macro_rules | `(tactic| walk_at "al") => `(tactic| (first
  | assumption
  | exact AllLt.nil
  | (refine AllLt.cons ?_ ?_; (walk_at "lt"); (walk_at "al"))
  | (refine AllLt.drop ?_; walk_at "al")
  | (refine AllLt.take ?_; walk_at "al")))
local macro_rules | `(tactic| walk_at "bd") => `(tactic| ((try dsimp only); first
  | (simp only [List.length_drop, List.length_take, List.length_cons, List.length_nil, List.length_map, List.length_range, nvs_len]; first | omega | decide)
  | omega
  | decide
  | ((with_reducible show AllLt _ _); walk_at "al")
  | walk_at "lt"
  | exact fun _ _ => trivial
  | (refine leM ?_; walk_at "lt")
  | (refine leL ?_; walk_at "lt")
  | (refine ⟨?_, ?_⟩ <;> walk_at "bd")))
local macro_rules | `(tactic| walk_at "rd") => `(tactic| repeat (walk_at "r1"))
local macro_rules | `(tactic| walk_at "r1") => `(tactic| (first
  | refine ⟨_, rfl, ?_⟩
  | refine ⟨_, _, rfl, rfl, ?_⟩
  | refine ⟨_, _, _, rfl, rfl, ?_⟩
  | refine ⟨_, _, _, rfl, rfl, rfl, ?_⟩
  | refine ⟨_, _, rfl, rfl, rfl, ?_⟩
  | refine ⟨_, _, _, rfl, ?_⟩
  | refine ⟨_, _, rfl, ?_⟩
  | (refine And.intro ?c ?_; (case c => (with_reducible show _ = some _); walk_at "fa"))
  | (refine ⟨?ws, ?h, ?_⟩; (case h => (with_reducible show _ = some (HO.lst _)); walk_at "fa"))
  | (refine ⟨?ws, ?ks, ?h, ?g, ?_⟩; (case h => (with_reducible show _ = some (HO.lst _)); walk_at "fa"); (case g => (with_reducible show _ = some (HO.lst _)); walk_at "fa"))
  | (refine ⟨?ws, SqL.of ?h, ?_⟩; (case h => walk_at "fa"))
  | (refine And.intro ⟨?ws, SqL.of ?h⟩ ?_; (case h => walk_at "fa"))
  | (refine ⟨_, ?xs, rfl, SqL.of ?h, ?_⟩; (case h => walk_at "fa"))
  | (refine ⟨_, ?xs, rfl, Or.inl (SqL.of ?h), ?_⟩; (case h => walk_at "fa"))
  | (refine ⟨_, _, ?xs, ?ys, rfl, SqL.of ?h, SqL.of ?g, ?_⟩; (case h => walk_at "fa"); (case g => walk_at "fa"))
  | (refine And.intro (Or.inl ⟨rfl, ?xs, SqL.of ?h⟩) ?_; (case h => walk_at "fa"))
  | refine And.intro rfl ?_
  | refine And.intro (by walk_at "bd") ?_
  | (refine ⟨_, ?xs, _, ?v, rfl, rfl, SqL.of ?h, ?e, ?_⟩; (case h => walk_at "fa"); (case e => first | exact rfl | (refine nvs_get (at_get ?_); walk_at "bd")))
  | (refine ⟨_, ?xs, _, ?v, rfl, rfl, SqT.of ?h, ?e, ?_⟩; (case h => walk_at "fa"); (case e => exact rfl))
  | refine retV.nvs_drop ?_
  | refine retV.nvs_take ?_
  | refine retV.nvs_cut ?_
  | ((with_reducible show retL _ _ _); intro Hn pn sn nn hn)
  | rw [nvs_reverse]
  | refine fun (pn : Addr) (nn : _ = none) => ?_))
open Sz25 (at_ M L GOLD)
/-- a list comes back (a new one or the old) -/
def retW (H : Hp) (Q : VK) (r : List Nat) : Prop := ∀ (H' : Hp) (p : Addr), Same H H' → H' p = some (.lst (nvs r)) → Q (.ref p) H'
def xm (v k : Nat) : Nat := ((((16 * v) % M) ^^^ (v / 32)) + v) % M ^^^ k
def xtStep (v : List Nat) (k : Nat) : List Nat := [at_ v 1, (at_ v 0 + xm (at_ v 1) k) % M]
def xtUn (v : List Nat) (k : Nat) : List Nat := [(at_ v 1 + (M - xm (at_ v 0) k)) % M, at_ v 0]
def r5Step (v : List Nat) (k : Nat) : List Nat := [at_ v 1, (lft 32 (at_ v 0 ^^^ at_ v 1) (at_ v 1) + k) % M]
def r5Un (v : List Nat) (k : Nat) : List Nat := [rgt 32 ((at_ v 1 + (M - k)) % M) (at_ v 0) ^^^ at_ v 0, at_ v 0]
def skUn (v : List Nat) (k : Nat) : List Nat := let y := rgt 64 (at_ v 0 ^^^ at_ v 1) 3; [y, lft 64 (((at_ v 1 ^^^ k) + (L - y)) % L) 8]
abbrev Ok2 (b : Nat) (v : List Nat) : Prop := v.length = 2 ∧ AllLt b v
abbrev Ok4 (b : Nat) (v : List Nat) : Prop := v.length = 4 ∧ AllLt b v
theorem ok2 {b x y : Nat} (h1 : x < 2 ^ b) (h2 : y < 2 ^ b) : Ok2 b [x, y] := ⟨rfl, .cons h1 (.cons h2 .nil)⟩
theorem ok4 {b x y z w : Nat} (h1 : x < 2 ^ b) (h2 : y < 2 ^ b) (h3 : z < 2 ^ b) (h4 : w < 2 ^ b) : Ok4 b [x, y, z, w] := ⟨rfl, .cons h1 (.cons h2 (.cons h3 (.cons h4 .nil)))⟩
theorem xtStep_ok (v : List Nat) (k : Nat) (h : Ok2 32 v) : Ok2 32 (xtStep v k) := ok2 (at_lt h.2) (Nat.mod_lt _ (by decide))
theorem xtUn_ok (v : List Nat) (k : Nat) (h : Ok2 32 v) : Ok2 32 (xtUn v k) := ok2 (Nat.mod_lt _ (by decide)) (at_lt h.2)
theorem r5Step_ok (v : List Nat) (k : Nat) (h : Ok2 32 v) : Ok2 32 (r5Step v k) := ok2 (at_lt h.2) (Nat.mod_lt _ (by decide))
theorem r5Un_ok (v : List Nat) (k : Nat) (h : Ok2 32 v) : Ok2 32 (r5Un v k) := ok2 (Nat.xor_lt_two_pow (rgt_lt (Nat.mod_lt _ (by decide)) (by decide)) (at_lt h.2)) (at_lt h.2)
theorem skUn_ok (v : List Nat) (k : Nat) (h : Ok2 64 v) : Ok2 64 (skUn v k) := ok2 (rgt_lt (Nat.xor_lt_two_pow (at_lt h.2) (at_lt h.2)) (by decide)) (lft_lt (Nat.mod_lt _ (by decide)) (by decide))
theorem rc6Round_ok (v : List Nat) (k0 k1 : Nat) (h : Ok4 32 v) : Ok4 32 (rc6RoundM v k0 k1) := ok4 (at_lt h.2) (Nat.mod_lt _ (by decide)) (at_lt h.2) (Nat.mod_lt _ (by decide))
theorem rc6Unround_ok (v : List Nat) (k0 k1 : Nat) (h : Ok4 32 v) : Ok4 32 (rc6UnroundM v k0 k1) :=
  ok4 (Nat.xor_lt_two_pow (rgt_lt (Nat.mod_lt _ (by decide)) (by decide)) sqd_lt) (at_lt h.2) (Nat.xor_lt_two_pow (rgt_lt (Nat.mod_lt _ (by decide)) (by decide)) sqd_lt) (at_lt h.2)
def spSeal2 (b n : Nat) (f : List Nat → List Nat → List Nat) : Sp := fun vs H Q _ => ∃ p c, vs = [.ref p, .ref c] ∧ ∃ ws ks, H p = some (.lst (nvs ws)) ∧ H c = some (.lst (nvs ks)) ∧ ks.length = n ∧ AllLt b ks ∧ Ok2 b ws ∧ retW H Q (f ks ws)
def spSeal4 (b n : Nat) (f : List Nat → List Nat → List Nat) : Sp := fun vs H Q _ => ∃ p c, vs = [.ref p, .ref c] ∧ ∃ ws ks, H p = some (.lst (nvs ws)) ∧ H c = some (.lst (nvs ks)) ∧ ks.length = n ∧ AllLt b ks ∧ Ok4 b ws ∧ retW H Q (f ks ws)
def r5In (s v : List Nat) : List Nat := [(at_ v 0 + at_ s 0) % M, (at_ v 1 + at_ s 1) % M]
def r5Out (s v : List Nat) : List Nat := [(at_ v 0 + (M - at_ s 0)) % M, (at_ v 1 + (M - at_ s 1)) % M]
section
variable {P : Program} {w : World} {K : PySem.W.Frag} {mg : Str → Option Value} {base : Heap} {a : Ad}
theorem ok_xtea_seal (T : Txt K mg a) : FnOk P w K mg base CX0 2 a.f_xtea_seal a.d_xtea_seal ["words", "sums"] (spSeal2 32 64 fun ks ws => ks.foldl xtStep ws) := by
  refine T.xtea_seal.F.ok sc_xtea_seal (fun vs H Q E h => ?_) (fun cdv A outer s H vs Q E hr h => ?_)
  · obtain ⟨_, _, rfl, _⟩ := h
    rfl
  · skip
    have G_xtea_mixed := ok_xtea_mixed (P := P) (w := w) (base := base) T
    obtain ⟨p, c, rfl, ws, ks, hp, hk, ln, ak, o1, q⟩ := h
    refine ⟨_, pss_cons (ps_for PassesOwn.never rfl (pi_list (pv 1)) (pg_name (i := 2) sc_xtea_seal.nd rfl (by first | exact Or.inl rfl | exact Or.inr rfl)) (pss_one (ps_set (i := 0) sc_xtea_seal.nd rfl (by first | exact Or.inl rfl | exact Or.inr rfl) (pe_lst (pa_cons (pe_ix ix_listN (pv 0) (pe_nat 1) (fun _ _ => rfl)) (pa_cons (pe_op op_modN' (pe_op op_addN (pe_ix ix_listN (pv 0) (pe_nat 0) (fun _ _ => rfl)) (T.xtea_mixed.call G_xtea_mixed (hr.mono (by decide)) (pa_cons (pe_ix ix_listN (pv 0) (pe_nat 1) (fun _ _ => rfl)) (pa_cons (pv 2) pa_nil)))) (pc T.c_TWO_32)) pa_nil))))))
      (pss_one (ps_ret (pv 0))), ?_⟩
    walk_at "rd"
    refine for_nats (ks := ks) (fun i σ H' => Hold (∃ p' u, σ = [some (.ref p'), some (.ref c), u] ∧ Same H H' ∧ H' p' = some (.lst (nvs ((ks.take i).foldl xtStep ws))))) (.mk ⟨p, none, rfl, Same.refl _, hp⟩) (fun i σ H' z => by obtain ⟨_, _, _, s1, _⟩ := z.out; exact s1 _ _ hk) ?_ ?_
    · intro i k σ H' hki z
      obtain ⟨p', u, rfl, s1, h1⟩ := z.out
      have o := fold_inv (Ok2 32) o1 xtStep_ok (ks.take i)
      have e := foldl_take_succ xtStep ws hki
      generalize (ks.take i).foldl xtStep ws = v at h1 o e
      obtain ⟨l2, a2⟩ := o
      walk_at "rd"
      exact .mk ⟨_, _, rfl, by walk_at "sm", by rw [upd_same, e]; rfl⟩
    · intro σ H' z
      obtain ⟨p', u, rfl, s1, h1⟩ := z.out
      rw [List.take_length] at h1
      walk_at "rd"
      exact q _ _ s1 h1
theorem ok_xtea_unseal (T : Txt K mg a) : FnOk P w K mg base CX0 2 a.f_xtea_unseal a.d_xtea_unseal ["words", "sums"] (spSeal2 32 64 fun ks ws => ks.reverse.foldl xtUn ws) := by
  refine T.xtea_unseal.F.ok sc_xtea_unseal (fun vs H Q E h => ?_) (fun cdv A outer s H vs Q E hr h => ?_)
  · obtain ⟨_, _, rfl, _⟩ := h
    rfl
  · skip
    have G_xtea_mixed := ok_xtea_mixed (P := P) (w := w) (base := base) T
    obtain ⟨p, c, rfl, ws, ks, hp, hk, ln, ak, o1, q⟩ := h
    refine ⟨_, pss_cons (ps_for PassesOwn.never rfl (pi_reversed rfl T.n_reversed (pa_cons (pv 1) pa_nil)) (pg_name (i := 2) sc_xtea_unseal.nd rfl (by first | exact Or.inl rfl | exact Or.inr rfl)) (pss_one (ps_set (i := 0) sc_xtea_unseal.nd rfl (by first | exact Or.inl rfl | exact Or.inr rfl) (pe_lst (pa_cons (pe_op op_modSM (pe_op op_sub (pe_ix ix_listN (pv 0) (pe_nat 1) (fun _ _ => rfl)) (T.xtea_mixed.call G_xtea_mixed (hr.mono (by decide)) (pa_cons (pe_ix ix_listN (pv 0) (pe_nat 0) (fun _ _ => rfl)) (pa_cons (pv 2) pa_nil)))) (pc T.c_TWO_32)) (pa_cons (pe_ix ix_listN (pv 0) (pe_nat 0) (fun _ _ => rfl)) pa_nil))))))
      (pss_one (ps_ret (pv 0))), ?_⟩
    walk_at "rd"
    refine for_natsR (ks := ks) (fun i σ H' => Hold (∃ p' u, σ = [some (.ref p'), some (.ref c), u] ∧ Same H H' ∧ H' p' = some (.lst (nvs ((ks.reverse.take i).foldl xtUn ws))))) (.mk ⟨p, none, rfl, Same.refl _, hp⟩) (fun i σ H' z => by obtain ⟨_, _, _, s1, _⟩ := z.out; exact s1 _ _ hk) ?_ ?_
    · intro i k σ H' hki z
      obtain ⟨p', u, rfl, s1, h1⟩ := z.out
      have hkl : k < 2 ^ 32 := ak k (List.mem_reverse.mp (List.mem_of_getElem? hki))
      have o := fold_inv (Ok2 32) o1 xtUn_ok (ks.reverse.take i)
      have e := foldl_take_succ xtUn ws hki
      generalize (ks.reverse.take i).foldl xtUn ws = v at h1 o e
      obtain ⟨l2, a2⟩ := o
      walk_at "rd"
      exact .mk ⟨_, _, rfl, by walk_at "sm", by rw [upd_same, e]; rfl⟩
    · intro σ H' z
      obtain ⟨p', u, rfl, s1, h1⟩ := z.out
      rw [← List.length_reverse, List.take_length] at h1
      walk_at "rd"
      exact q _ _ s1 h1
theorem ok_rc5_seal (T : Txt K mg a) : FnOk P w K mg base CX0 2 a.f_rc5_seal a.d_rc5_seal ["words", "s"] (spSeal2 32 26 fun ks ws => (ks.drop 2).foldl r5Step (r5In ks ws)) := by
  refine T.rc5_seal.F.ok sc_rc5_seal (fun vs H Q E h => ?_) (fun cdv A outer s H vs Q E hr h => ?_)
  · obtain ⟨_, _, rfl, _⟩ := h
    rfl
  · skip
    have G_turned_left := ok_turned_left (P := P) (w := w) (base := base) T
    obtain ⟨p, c, rfl, ws, ks, hp, hk, ln, ak, ⟨l1, a1⟩, q⟩ := h
    refine ⟨_, pss_cons (ps_set (i := 0) sc_rc5_seal.nd rfl (by first | exact Or.inl rfl | exact Or.inr rfl) (pe_lst (pa_cons (pe_op op_modN' (pe_op op_addN (pe_ix ix_listN (pv 0) (pe_nat 0) (fun _ _ => rfl)) (pe_ix ix_listN (pv 1) (pe_nat 0) (fun _ _ => rfl))) (pc T.c_TWO_32)) (pa_cons (pe_op op_modN' (pe_op op_addN (pe_ix ix_listN (pv 0) (pe_nat 1) (fun _ _ => rfl)) (pe_ix ix_listN (pv 1) (pe_nat 1) (fun _ _ => rfl))) (pc T.c_TWO_32)) pa_nil))))
      (pss_cons (ps_for PassesOwn.never rfl (pi_list (pe_slice sl_i (pv 1) (po_some (pe_nat 2)) po_none)) (pg_name (i := 2) sc_rc5_seal.nd rfl (by first | exact Or.inl rfl | exact Or.inr rfl)) (pss_one (ps_set (i := 0) sc_rc5_seal.nd rfl (by first | exact Or.inl rfl | exact Or.inr rfl) (pe_lst (pa_cons (pe_ix ix_listN (pv 0) (pe_nat 1) (fun _ _ => rfl)) (pa_cons (pe_op op_modN' (pe_op op_addN (T.turned_left.call G_turned_left (hr.mono (by decide)) (pa_cons (pe_op op_xorN (pe_ix ix_listN (pv 0) (pe_nat 0) (fun _ _ => rfl)) (pe_ix ix_listN (pv 0) (pe_nat 1) (fun _ _ => rfl))) (pa_cons (pe_ix ix_listN (pv 0) (pe_nat 1) (fun _ _ => rfl)) (pa_cons (pe_nat 32) pa_nil)))) (pv 2)) (pc T.c_TWO_32)) pa_nil))))))
      (pss_one (ps_ret (pv 0)))), ?_⟩
    walk_at "rd"
    rename_i p1 n1 H2 c2 s2 n2 h2
    have o1 : Ok2 32 (r5In ks ws) := ok2 (Nat.mod_lt _ (by decide)) (Nat.mod_lt _ (by decide))
    refine for_nats (ks := ks.drop 2) (fun i σ H' => Hold (∃ p' u, σ = [some (.ref p'), some (.ref c), u] ∧ Same H2 H' ∧ H' p' = some (.lst (nvs (((ks.drop 2).take i).foldl r5Step (r5In ks ws)))))) (.mk ⟨p1, none, rfl, Same.refl _, s2 _ _ upd_same⟩) (fun i σ H' z => by obtain ⟨_, _, _, s3, _⟩ := z.out; exact s3 _ _ h2) ?_ ?_
    · intro i k σ H' hki z
      obtain ⟨p', u, rfl, s3, h3⟩ := z.out
      have o := fold_inv (Ok2 32) o1 r5Step_ok ((ks.drop 2).take i)
      have e := foldl_take_succ r5Step (r5In ks ws) hki
      generalize ((ks.drop 2).take i).foldl r5Step (r5In ks ws) = v at h3 o e
      obtain ⟨l2, a2⟩ := o
      walk_at "rd"
      exact .mk ⟨_, _, rfl, by walk_at "sm", by rw [upd_same, e]; rfl⟩
    · intro σ H' z
      obtain ⟨p', u, rfl, s3, h3⟩ := z.out
      rw [List.take_length] at h3
      walk_at "rd"
      exact q _ _ (by walk_at "sm") h3
theorem ok_rc5_unseal (T : Txt K mg a) : FnOk P w K mg base CX0 3 a.f_rc5_unseal a.d_rc5_unseal ["words", "s"] (spSeal2 32 26 fun ks ws => r5Out ks ((ks.drop 2).reverse.foldl r5Un ws)) := by
  refine T.rc5_unseal.F.ok sc_rc5_unseal (fun vs H Q E h => ?_) (fun cdv A outer s H vs Q E hr h => ?_)
  · obtain ⟨_, _, rfl, _⟩ := h
    rfl
  · skip
    have G_turned_right := ok_turned_right (P := P) (w := w) (base := base) T
    obtain ⟨p, c, rfl, ws, ks, hp, hk, ln, ak, o1, q⟩ := h
    refine ⟨_, pss_cons (ps_for PassesOwn.never rfl (pi_reversed rfl T.n_reversed (pa_cons (pe_slice sl_i (pv 1) (po_some (pe_nat 2)) po_none) pa_nil)) (pg_name (i := 2) sc_rc5_unseal.nd rfl (by first | exact Or.inl rfl | exact Or.inr rfl)) (pss_one (ps_set (i := 0) sc_rc5_unseal.nd rfl (by first | exact Or.inl rfl | exact Or.inr rfl) (pe_lst (pa_cons (pe_op op_xorN (T.turned_right.call G_turned_right (hr.mono (by decide)) (pa_cons (pe_op op_modSM (pe_op op_sub (pe_ix ix_listN (pv 0) (pe_nat 1) (fun _ _ => rfl)) (pv 2)) (pc T.c_TWO_32)) (pa_cons (pe_ix ix_listN (pv 0) (pe_nat 0) (fun _ _ => rfl)) (pa_cons (pe_nat 32) pa_nil)))) (pe_ix ix_listN (pv 0) (pe_nat 0) (fun _ _ => rfl))) (pa_cons (pe_ix ix_listN (pv 0) (pe_nat 0) (fun _ _ => rfl)) pa_nil))))))
      (pss_one (ps_ret (pe_lst (pa_cons (pe_op op_modSM (pe_op op_sub (pe_ix ix_listN (pv 0) (pe_nat 0) (fun _ _ => rfl)) (pe_ix ix_listN (pv 1) (pe_nat 0) (fun _ _ => rfl))) (pc T.c_TWO_32)) (pa_cons (pe_op op_modSM (pe_op op_sub (pe_ix ix_listN (pv 0) (pe_nat 1) (fun _ _ => rfl)) (pe_ix ix_listN (pv 1) (pe_nat 1) (fun _ _ => rfl))) (pc T.c_TWO_32)) pa_nil))))), ?_⟩
    walk_at "rd"
    rename_i H2 c2 s2 n2 h2
    refine for_natsR (ks := ks.drop 2) (fun i σ H' => Hold (∃ p' u, σ = [some (.ref p'), some (.ref c), u] ∧ Same H2 H' ∧ H' p' = some (.lst (nvs (((ks.drop 2).reverse.take i).foldl r5Un ws))))) (.mk ⟨p, none, rfl, Same.refl _, s2 _ _ hp⟩) (fun i σ H' z => by obtain ⟨_, _, _, s3, _⟩ := z.out; exact s3 _ _ h2) ?_ ?_
    · intro i k σ H' hki z
      obtain ⟨p', u, rfl, s3, h3⟩ := z.out
      have hkl : k < 2 ^ 32 := ak k (List.mem_of_mem_drop (List.mem_reverse.mp (List.mem_of_getElem? hki)))
      have o := fold_inv (Ok2 32) o1 r5Un_ok ((ks.drop 2).reverse.take i)
      have e := foldl_take_succ r5Un ws hki
      generalize ((ks.drop 2).reverse.take i).foldl r5Un ws = v at h3 o e
      obtain ⟨l2, a2⟩ := o
      walk_at "rd"
      exact .mk ⟨_, _, rfl, by walk_at "sm", by rw [upd_same, e]; rfl⟩
    · intro σ H' z
      obtain ⟨p', u, rfl, s3, h3⟩ := z.out
      rw [← List.length_reverse, List.take_length] at h3
      have o := fold_inv (Ok2 32) o1 r5Un_ok ((ks.drop 2).reverse)
      have q : retW H Q (r5Out ks ((ks.drop 2).reverse.foldl r5Un ws)) := q
      generalize (ks.drop 2).reverse.foldl r5Un ws = v at h3 o q
      obtain ⟨l2, a2⟩ := o
      walk_at "rd"
      exact q _ _ (by walk_at "sm") upd_same
end
end Sx
end
section
set_option Elab.async false
set_option linter.all false
set_option maxRecDepth 100000
set_option maxHeartbeats 2000000
set_option exponentiation.threshold 2000
namespace Sx
open PySem PySem.Spec PyProof.Rows L2
local macro_rules | `(tactic| walk_at "fa") => `(tactic| (first
  | assumption
  | exact upd_same
  | (refine upd_get ?n ?g; (case n => assumption); (case g => walk_at "fa"))
  | (refine Same.use (Same.upd ?n) ?g; (case n => assumption); (case g => walk_at "fa"))
  | (refine Same.use (H := ?m) ?s ?g; (case s => assumption); (case g => walk_at "fa"))))
local macro_rules | `(tactic| walk_at "sm") => `(tactic| (first
  | assumption
  | exact Same.refl _
  | (refine Same.after (Same.upd ?n) ?g; (case n => assumption); (case g => walk_at "sm"))
  | (refine Same.after (H1 := ?m) ?s ?g; (case s => assumption); (case g => walk_at "sm"))))
local macro_rules | `(tactic| walk_at "nn") => `(tactic| (first
  | assumption
  | (refine Same.free (H' := ?m) ?s ?n; (case n => assumption); (case s => walk_at "sm"))))
local macro_rules | `(tactic| walk_at "lt") => `(tactic| (first
  | assumption
  | omega
  | exact Nat.mod_lt _ (by decide)
  | (refine at_lt ?_; walk_at "al")
  | exact mlt_lt _ _
  | exact sqd_lt
  | (refine Nat.xor_lt_two_pow ?_ ?_ <;> walk_at "lt")
  | (refine lft_lt ?_ (by decide); walk_at "lt")
  | (refine rgt_lt ?_ (by decide); walk_at "lt")
  | (refine lt64_of16 ?_; walk_at "lt")))
local macro_rules | `(tactic| walk_at "al") => `(tactic| (first
  | assumption
  | exact AllLt.nil
  | (refine AllLt.cons ?_ ?_; (walk_at "lt"); (walk_at "al"))
  | (refine AllLt.drop ?_; walk_at "al")
  | (refine AllLt.take ?_; walk_at "al")))
local macro_rules | `(tactic| walk_at "bd") => `(tactic| ((try dsimp only); first
  | (simp only [List.length_drop, List.length_take, List.length_cons, List.length_nil, List.length_map, List.length_range, nvs_len]; first | omega | decide)
  | omega
  | decide
  | ((with_reducible show AllLt _ _); walk_at "al")
  | walk_at "lt"
  | exact fun _ _ => trivial
  | (refine leM ?_; walk_at "lt")
  | (refine leL ?_; walk_at "lt")
  | (refine ⟨?_, ?_⟩ <;> walk_at "bd")))
local macro_rules | `(tactic| walk_at "rd") => `(tactic| repeat (walk_at "r1"))
local macro_rules | `(tactic| walk_at "r1") => `(tactic| (first
  | refine ⟨_, rfl, ?_⟩
  | refine ⟨_, _, rfl, rfl, ?_⟩
  | refine ⟨_, _, _, rfl, rfl, ?_⟩
  | refine ⟨_, _, _, rfl, rfl, rfl, ?_⟩
  | refine ⟨_, _, rfl, rfl, rfl, ?_⟩
  | refine ⟨_, _, _, rfl, ?_⟩
  | refine ⟨_, _, rfl, ?_⟩
  | (refine And.intro ?c ?_; (case c => (with_reducible show _ = some _); walk_at "fa"))
  | (refine ⟨?ws, ?h, ?_⟩; (case h => (with_reducible show _ = some (HO.lst _)); walk_at "fa"))
  | (refine ⟨?ws, ?ks, ?h, ?g, ?_⟩; (case h => (with_reducible show _ = some (HO.lst _)); walk_at "fa"); (case g => (with_reducible show _ = some (HO.lst _)); walk_at "fa"))
  | (refine ⟨?ws, SqL.of ?h, ?_⟩; (case h => walk_at "fa"))
  | (refine And.intro ⟨?ws, SqL.of ?h⟩ ?_; (case h => walk_at "fa"))
  | (refine ⟨_, ?xs, rfl, SqL.of ?h, ?_⟩; (case h => walk_at "fa"))
  | (refine ⟨_, ?xs, rfl, Or.inl (SqL.of ?h), ?_⟩; (case h => walk_at "fa"))
  | (refine ⟨_, _, ?xs, ?ys, rfl, SqL.of ?h, SqL.of ?g, ?_⟩; (case h => walk_at "fa"); (case g => walk_at "fa"))
  | (refine And.intro (Or.inl ⟨rfl, ?xs, SqL.of ?h⟩) ?_; (case h => walk_at "fa"))
  | refine And.intro rfl ?_
  | refine And.intro (by walk_at "bd") ?_
  | (refine ⟨_, ?xs, _, ?v, rfl, rfl, SqL.of ?h, ?e, ?_⟩; (case h => walk_at "fa"); (case e => first | exact rfl | (refine nvs_get (at_get ?_); walk_at "bd")))
  | (refine ⟨_, ?xs, _, ?v, rfl, rfl, SqT.of ?h, ?e, ?_⟩; (case h => walk_at "fa"); (case e => exact rfl))
  | refine retV.nvs_drop ?_
  | refine retV.nvs_take ?_
  | refine retV.nvs_cut ?_
  | ((with_reducible show retL _ _ _); intro Hn pn sn nn hn)
  | rw [nvs_reverse]
  | refine fun (pn : Addr) (nn : _ = none) => ?_))
open Sz25 (at_ M L GOLD)
theorem fold_invM {f : List Nat → Nat → List Nat} (p : List Nat → Prop) : ∀ (l : List Nat) (x : List Nat), p x → (∀ v i, i ∈ l → p v → p (f v i)) → p (l.foldl f x)
  | [], _, h0, _ => h0
  | y :: l, x, h0, hs => fold_invM (f := f) p l (f x y) (hs x y (List.mem_cons_self ..) h0) fun v i hi => hs v i (List.mem_cons_of_mem _ hi)
def rc6F (ks v : List Nat) (i : Nat) : List Nat := rc6RoundM v (at_ ks (2 * i + 2)) (at_ ks (2 * i + 3))
def rc6In (s v : List Nat) : List Nat := [at_ v 0, (at_ v 1 + at_ s 0) % M, at_ v 2, (at_ v 3 + at_ s 1) % M]
def rc6Out (s w : List Nat) : List Nat := [(at_ w 0 + at_ s 42) % M, at_ w 1, (at_ w 2 + at_ s 43) % M, at_ w 3]
def rc6UnF (ks v : List Nat) (j : Nat) : List Nat := rc6UnroundM v (at_ ks (2 * (19 - j) + 2)) (at_ ks (2 * (19 - j) + 3))
def rc6UnIn (s v : List Nat) : List Nat := [(at_ v 0 + (M - at_ s 42)) % M, at_ v 1, (at_ v 2 + (M - at_ s 43)) % M, at_ v 3]
def rc6UnOut (s w : List Nat) : List Nat := [at_ w 0, (at_ w 1 + (M - at_ s 0)) % M, at_ w 2, (at_ w 3 + (M - at_ s 1)) % M]
theorem rc6In_ok (s v : List Nat) (h : Ok4 32 v) : Ok4 32 (rc6In s v) := ok4 (at_lt h.2) (Nat.mod_lt _ (by decide)) (at_lt h.2) (Nat.mod_lt _ (by decide))
theorem rc6UnIn_ok (s v : List Nat) (h : Ok4 32 v) : Ok4 32 (rc6UnIn s v) := ok4 (Nat.mod_lt _ (by decide)) (at_lt h.2) (Nat.mod_lt _ (by decide)) (at_lt h.2)
theorem speckM_ok (v : List Nat) (k : Nat) (hk : k < 2 ^ 64) (h : Ok2 64 v) : Ok2 64 (speckM v k) :=
  have e : ((rgt 64 (at_ v 1) 8 + at_ v 0) % L) ^^^ k < 2 ^ 64 := Nat.xor_lt_two_pow (Nat.mod_lt _ (by decide)) hk
  ok2 (Nat.xor_lt_two_pow (lft_lt (at_lt h.2) (by decide)) e) e
section
variable {P : Program} {w : World} {K : PySem.W.Frag} {mg : Str → Option Value} {base : Heap} {a : Ad}
theorem ok_rc6_seal (T : Txt K mg a) : FnOk P w K mg base CX0 4 a.f_rc6_seal a.d_rc6_seal ["words", "s"] (spSeal4 32 44 fun ks ws => rc6Out ks ((List.range 20).foldl (rc6F ks) (rc6In ks ws))) := by
  refine T.rc6_seal.F.ok sc_rc6_seal (fun vs H Q E h => ?_) (fun cdv A outer s H vs Q E hr h => ?_)
  · obtain ⟨_, _, rfl, _⟩ := h
    rfl
  · skip
    have G_rc6_round := ok_rc6_round (P := P) (w := w) (base := base) T
    obtain ⟨p, c, rfl, ws, ks, hp, hk, ln, ak, o0, q⟩ := h
    have q : retW H Q (rc6Out ks ((List.range 20).foldl (rc6F ks) (rc6In ks ws))) := q
    obtain ⟨l1, a1⟩ := id o0
    have o1 := rc6In_ok ks ws o0
    refine ⟨_, pss_cons (ps_set (i := 0) sc_rc6_seal.nd rfl (by first | exact Or.inl rfl | exact Or.inr rfl) (pe_lst (pa_cons (pe_ix ix_listN (pv 0) (pe_nat 0) (fun _ _ => rfl)) (pa_cons (pe_op op_modN' (pe_op op_addN (pe_ix ix_listN (pv 0) (pe_nat 1) (fun _ _ => rfl)) (pe_ix ix_listN (pv 1) (pe_nat 0) (fun _ _ => rfl))) (pc T.c_TWO_32)) (pa_cons (pe_ix ix_listN (pv 0) (pe_nat 2) (fun _ _ => rfl)) (pa_cons (pe_op op_modN' (pe_op op_addN (pe_ix ix_listN (pv 0) (pe_nat 3) (fun _ _ => rfl)) (pe_ix ix_listN (pv 1) (pe_nat 1) (fun _ _ => rfl))) (pc T.c_TWO_32)) pa_nil))))))
      (pss_cons (ps_for PassesOwn.never rfl (pi_range2 rfl T.n_range (pa_cons (pe_nat 1) (pa_cons (pe_nat 21) pa_nil))) (pg_name (i := 2) sc_rc6_seal.nd rfl (by first | exact Or.inl rfl | exact Or.inr rfl)) (pss_one (ps_set (i := 0) sc_rc6_seal.nd rfl (by first | exact Or.inl rfl | exact Or.inr rfl) (T.rc6_round.call G_rc6_round (hr.mono (by decide)) (pa_cons (pv 0) (pa_cons (pe_ix ix_listN (pv 1) (pe_op op_mulN (pe_nat 2) (pv 2)) (fun _ _ => rfl)) (pa_cons (pe_ix ix_listN (pv 1) (pe_op op_addN (pe_op op_mulN (pe_nat 2) (pv 2)) (pe_nat 1)) (fun _ _ => rfl)) pa_nil)))))))
      (pss_one (ps_ret (pe_lst (pa_cons (pe_op op_modN' (pe_op op_addN (pe_ix ix_listN (pv 0) (pe_nat 0) (fun _ _ => rfl)) (pe_ix ix_listN (pv 1) (pe_nat 42) (fun _ _ => rfl))) (pc T.c_TWO_32)) (pa_cons (pe_ix ix_listN (pv 0) (pe_nat 1) (fun _ _ => rfl)) (pa_cons (pe_op op_modN' (pe_op op_addN (pe_ix ix_listN (pv 0) (pe_nat 2) (fun _ _ => rfl)) (pe_ix ix_listN (pv 1) (pe_nat 43) (fun _ _ => rfl))) (pc T.c_TWO_32)) (pa_cons (pe_ix ix_listN (pv 0) (pe_nat 3) (fun _ _ => rfl)) pa_nil)))))))), ?_⟩
    walk_at "rd"
    rename_i p1 n1
    refine for_rangeN (lo := 1) (n := 20) (fun i σ H' => Hold (∃ p' u, σ = [some (.ref p'), some (.ref c), u] ∧ Same H H' ∧ H' p' = some (.lst (nvs ((List.range i).foldl (rc6F ks) (rc6In ks ws)))))) (.mk ⟨p1, none, rfl, Same.upd n1, upd_same⟩) ?_ ?_
    · intro i σ H' hi z
      obtain ⟨p', u, rfl, s1, h1⟩ := z.out
      have hk1 := s1 _ _ hk
      have o := fold_inv (f := rc6F ks) (Ok4 32) o1 (fun v i => rc6Round_ok v _ _) (List.range i)
      have e := foldl_range_succ (rc6F ks) (rc6In ks ws) i
      have hx : ∀ x, (List.range i).foldl (rc6F ks) (rc6In ks ws) = x → Ok4 32 x := fun x hx => by rw [← hx]; exact o
      generalize (List.range i).foldl (rc6F ks) (rc6In ks ws) = v at h1 e hx
      obtain ⟨l2, a2⟩ := hx v rfl
      walk_at "rd"
      rename_i H2 p2 s2 n2 h2
      dsimp only at h2
      rw [show 2 * (1 + i) = 2 * i + 2 by omega] at h2
      exact .mk ⟨_, _, rfl, s1.trans s2, by rw [e]; exact h2⟩
    · intro σ H' z
      obtain ⟨p', u, rfl, s1, h1⟩ := z.out
      have hk1 := s1 _ _ hk
      have o : Ok4 32 ((List.range 20).foldl (rc6F ks) (rc6In ks ws)) := fold_inv (f := rc6F ks) (Ok4 32) o1 (fun v i => rc6Round_ok v _ _) (List.range 20)
      generalize (List.range 20).foldl (rc6F ks) (rc6In ks ws) = v at h1 o q
      obtain ⟨l2, a2⟩ := o
      walk_at "rd"
      exact q _ _ (by walk_at "sm") upd_same
theorem ok_rc6_unseal (T : Txt K mg a) : FnOk P w K mg base CX0 4 a.f_rc6_unseal a.d_rc6_unseal ["words", "s"] (spSeal4 32 44 fun ks ws => rc6UnOut ks ((List.range 20).foldl (rc6UnF ks) (rc6UnIn ks ws))) := by
  refine T.rc6_unseal.F.ok sc_rc6_unseal (fun vs H Q E h => ?_) (fun cdv A outer s H vs Q E hr h => ?_)
  · obtain ⟨_, _, rfl, _⟩ := h
    rfl
  · skip
    have G_rc6_unround := ok_rc6_unround (P := P) (w := w) (base := base) T
    obtain ⟨p, c, rfl, ws, ks, hp, hk, ln, ak, o0, q⟩ := h
    have q : retW H Q (rc6UnOut ks ((List.range 20).foldl (rc6UnF ks) (rc6UnIn ks ws))) := q
    obtain ⟨l1, a1⟩ := id o0
    have o1 := rc6UnIn_ok ks ws o0
    refine ⟨_, pss_cons (ps_set (i := 0) sc_rc6_unseal.nd rfl (by first | exact Or.inl rfl | exact Or.inr rfl) (pe_lst (pa_cons (pe_op op_modSM (pe_op op_sub (pe_ix ix_listN (pv 0) (pe_nat 0) (fun _ _ => rfl)) (pe_ix ix_listN (pv 1) (pe_nat 42) (fun _ _ => rfl))) (pc T.c_TWO_32)) (pa_cons (pe_ix ix_listN (pv 0) (pe_nat 1) (fun _ _ => rfl)) (pa_cons (pe_op op_modSM (pe_op op_sub (pe_ix ix_listN (pv 0) (pe_nat 2) (fun _ _ => rfl)) (pe_ix ix_listN (pv 1) (pe_nat 43) (fun _ _ => rfl))) (pc T.c_TWO_32)) (pa_cons (pe_ix ix_listN (pv 0) (pe_nat 3) (fun _ _ => rfl)) pa_nil))))))
      (pss_cons (ps_for PassesOwn.never rfl (pi_range3 rfl T.n_range (pa_cons (pe_nat 20) (pa_cons (pe_nat 0) (pa_cons (pe_un un_neg (pe_nat 1)) pa_nil)))) (pg_name (i := 2) sc_rc6_unseal.nd rfl (by first | exact Or.inl rfl | exact Or.inr rfl)) (pss_one (ps_set (i := 0) sc_rc6_unseal.nd rfl (by first | exact Or.inl rfl | exact Or.inr rfl) (T.rc6_unround.call G_rc6_unround (hr.mono (by decide)) (pa_cons (pv 0) (pa_cons (pe_ix ix_listN (pv 1) (pe_op op_mulN (pe_nat 2) (pv 2)) (fun _ _ => rfl)) (pa_cons (pe_ix ix_listN (pv 1) (pe_op op_addN (pe_op op_mulN (pe_nat 2) (pv 2)) (pe_nat 1)) (fun _ _ => rfl)) pa_nil)))))))
      (pss_one (ps_ret (pe_lst (pa_cons (pe_ix ix_listN (pv 0) (pe_nat 0) (fun _ _ => rfl)) (pa_cons (pe_op op_modSM (pe_op op_sub (pe_ix ix_listN (pv 0) (pe_nat 1) (fun _ _ => rfl)) (pe_ix ix_listN (pv 1) (pe_nat 0) (fun _ _ => rfl))) (pc T.c_TWO_32)) (pa_cons (pe_ix ix_listN (pv 0) (pe_nat 2) (fun _ _ => rfl)) (pa_cons (pe_op op_modSM (pe_op op_sub (pe_ix ix_listN (pv 0) (pe_nat 3) (fun _ _ => rfl)) (pe_ix ix_listN (pv 1) (pe_nat 1) (fun _ _ => rfl))) (pc T.c_TWO_32)) pa_nil)))))))), ?_⟩
    walk_at "rd"
    rename_i p1 n1
    refine ⟨_, _, _, 20, rfl, ⟨by decide, by decide, by decide, by decide⟩, ?_⟩
    refine for_stepN (n := 20) (fun i => 20 - i) (fun i hi => by omega) (fun i σ H' => Hold (∃ p' u, σ = [some (.ref p'), some (.ref c), u] ∧ Same H H' ∧ H' p' = some (.lst (nvs ((List.range i).foldl (rc6UnF ks) (rc6UnIn ks ws)))))) (.mk ⟨p1, none, rfl, Same.upd n1, upd_same⟩) ?_ ?_
    · intro i σ H' hi z
      obtain ⟨p', u, rfl, s1, h1⟩ := z.out
      have hk1 := s1 _ _ hk
      have o := fold_inv (f := rc6UnF ks) (Ok4 32) o1 (fun v i => rc6Unround_ok v _ _) (List.range i)
      have e := foldl_range_succ (rc6UnF ks) (rc6UnIn ks ws) i
      have hx : ∀ x, (List.range i).foldl (rc6UnF ks) (rc6UnIn ks ws) = x → Ok4 32 x := fun x hx => by rw [← hx]; exact o
      generalize (List.range i).foldl (rc6UnF ks) (rc6UnIn ks ws) = v at h1 e hx
      obtain ⟨l2, a2⟩ := hx v rfl
      walk_at "rd"
      rename_i H2 p2 s2 n2 h2
      dsimp only at h2
      rw [show 2 * (20 - i) = 2 * (19 - i) + 2 by omega] at h2
      exact .mk ⟨_, _, rfl, s1.trans s2, by rw [e]; exact h2⟩
    · intro σ H' z
      obtain ⟨p', u, rfl, s1, h1⟩ := z.out
      have hk1 := s1 _ _ hk
      have o : Ok4 32 ((List.range 20).foldl (rc6UnF ks) (rc6UnIn ks ws)) := fold_inv (f := rc6UnF ks) (Ok4 32) o1 (fun v i => rc6Unround_ok v _ _) (List.range 20)
      generalize (List.range 20).foldl (rc6UnF ks) (rc6UnIn ks ws) = v at h1 o q
      obtain ⟨l2, a2⟩ := o
      walk_at "rd"
      exact q _ _ (by walk_at "sm") upd_same
theorem ok_speck_seal (T : Txt K mg a) : FnOk P w K mg base CX0 4 a.f_speck_seal a.d_speck_seal ["words", "keys"] (spSeal2 64 32 fun ks ws => ks.foldl speckM ws) := by
  refine T.speck_seal.F.ok sc_speck_seal (fun vs H Q E h => ?_) (fun cdv A outer s H vs Q E hr h => ?_)
  · obtain ⟨_, _, rfl, _⟩ := h
    rfl
  · skip
    have G_speck_round := ok_speck_round (P := P) (w := w) (base := base) T
    obtain ⟨p, c, rfl, ws, ks, hp, hk, ln, ak, o1, q⟩ := h
    refine ⟨_, pss_cons (ps_for PassesOwn.never rfl (pi_list (pv 1)) (pg_name (i := 2) sc_speck_seal.nd rfl (by first | exact Or.inl rfl | exact Or.inr rfl)) (pss_one (ps_set (i := 0) sc_speck_seal.nd rfl (by first | exact Or.inl rfl | exact Or.inr rfl) (T.speck_round.call G_speck_round (hr.mono (by decide)) (pa_cons (pv 0) (pa_cons (pv 2) pa_nil))))))
      (pss_one (ps_ret (pv 0))), ?_⟩
    walk_at "rd"
    refine for_nats (ks := ks) (fun i σ H' => Hold (∃ p' u, σ = [some (.ref p'), some (.ref c), u] ∧ Same H H' ∧ H' p' = some (.lst (nvs ((ks.take i).foldl speckM ws))))) (.mk ⟨p, none, rfl, Same.refl _, hp⟩) (fun i σ H' z => by obtain ⟨_, _, _, s1, _⟩ := z.out; exact s1 _ _ hk) ?_ ?_
    · intro i k σ H' hki z
      obtain ⟨p', u, rfl, s1, h1⟩ := z.out
      have o := fold_invM (f := speckM) (Ok2 64) (ks.take i) ws o1 fun v x hx => speckM_ok v x (ak x (List.mem_of_mem_take hx))
      have e := foldl_take_succ speckM ws hki
      generalize (ks.take i).foldl speckM ws = v at h1 o e
      obtain ⟨l2, a2⟩ := o
      walk_at "rd"
      rename_i H2 p2 s2 n2 h2
      exact .mk ⟨_, _, rfl, s1.trans s2, by rw [e]; exact h2⟩
    · intro σ H' z
      obtain ⟨p', u, rfl, s1, h1⟩ := z.out
      rw [List.take_length] at h1
      walk_at "rd"
      exact q _ _ s1 h1
theorem ok_speck_unseal (T : Txt K mg a) : FnOk P w K mg base CX0 3 a.f_speck_unseal a.d_speck_unseal ["words", "keys"] (spSeal2 64 32 fun ks ws => ks.reverse.foldl skUn ws) := by
  refine T.speck_unseal.F.ok sc_speck_unseal (fun vs H Q E h => ?_) (fun cdv A outer s H vs Q E hr h => ?_)
  · obtain ⟨_, _, rfl, _⟩ := h
    rfl
  · skip
    have G_turned_left := ok_turned_left (P := P) (w := w) (base := base) T
    have G_turned_right := ok_turned_right (P := P) (w := w) (base := base) T
    obtain ⟨p, c, rfl, ws, ks, hp, hk, ln, ak, o1, q⟩ := h
    refine ⟨_, pss_cons (ps_for PassesOwn.never rfl (pi_reversed rfl T.n_reversed (pa_cons (pv 1) pa_nil)) (pg_name (i := 2) sc_speck_unseal.nd rfl (by first | exact Or.inl rfl | exact Or.inr rfl)) (pss_cons (ps_set (i := 3) sc_speck_unseal.nd rfl (by first | exact Or.inl rfl | exact Or.inr rfl) (T.turned_right.call G_turned_right (hr.mono (by decide)) (pa_cons (pe_op op_xorN (pe_ix ix_listN (pv 0) (pe_nat 0) (fun _ _ => rfl)) (pe_ix ix_listN (pv 0) (pe_nat 1) (fun _ _ => rfl))) (pa_cons (pe_nat 3) (pa_cons (pe_nat 64) pa_nil)))))
      (pss_one (ps_set (i := 0) sc_speck_unseal.nd rfl (by first | exact Or.inl rfl | exact Or.inr rfl) (pe_lst (pa_cons (pv 3) (pa_cons (T.turned_left.call G_turned_left (hr.mono (by decide)) (pa_cons (pe_op op_modSM (pe_op op_sub (pe_op op_xorN (pe_ix ix_listN (pv 0) (pe_nat 1) (fun _ _ => rfl)) (pv 2)) (pv 3)) (pc T.c_TWO_64)) (pa_cons (pe_nat 8) (pa_cons (pe_nat 64) pa_nil)))) pa_nil)))))))
      (pss_one (ps_ret (pv 0))), ?_⟩
    walk_at "rd"
    refine for_natsR (ks := ks) (fun i σ H' => Hold (∃ p' u u2, σ = [some (.ref p'), some (.ref c), u, u2] ∧ Same H H' ∧ H' p' = some (.lst (nvs ((ks.reverse.take i).foldl skUn ws))))) (.mk ⟨p, none, none, rfl, Same.refl _, hp⟩) (fun i σ H' z => by obtain ⟨_, _, _, _, s1, _⟩ := z.out; exact s1 _ _ hk) ?_ ?_
    · intro i k σ H' hki z
      obtain ⟨p', u, u2, rfl, s1, h1⟩ := z.out
      have hkl : k < 2 ^ 64 := ak k (List.mem_reverse.mp (List.mem_of_getElem? hki))
      have o := fold_inv (Ok2 64) o1 skUn_ok (ks.reverse.take i)
      have e := foldl_take_succ skUn ws hki
      generalize (ks.reverse.take i).foldl skUn ws = v at h1 o e
      obtain ⟨l2, a2⟩ := o
      walk_at "rd"
      exact .mk ⟨_, _, _, rfl, by walk_at "sm", by rw [upd_same, e]; rfl⟩
    · intro σ H' z
      obtain ⟨p', u, u2, rfl, s1, h1⟩ := z.out
      rw [← List.length_reverse, List.take_length] at h1
      walk_at "rd"
      exact q _ _ s1 h1
end
end Sx
end
section
set_option Elab.async false
set_option linter.all false
set_option maxRecDepth 100000
set_option maxHeartbeats 2000000
set_option exponentiation.threshold 2000
namespace Sx
open PySem PySem.Spec PyProof.Rows L2
local macro_rules | `(tactic| walk_at "fa") => `(tactic| (first
  | assumption
  | exact upd_same
  | (refine upd_get ?n ?g; (case n => assumption); (case g => walk_at "fa"))
  | (refine Same.use (Same.upd ?n) ?g; (case n => assumption); (case g => walk_at "fa"))
  | (refine Same.use (H := ?m) ?s ?g; (case s => assumption); (case g => walk_at "fa"))))
local macro_rules | `(tactic| walk_at "sm") => `(tactic| (first
  | assumption
  | exact Same.refl _
  | (refine Same.after (Same.upd ?n) ?g; (case n => assumption); (case g => walk_at "sm"))
  | (refine Same.after (H1 := ?m) ?s ?g; (case s => assumption); (case g => walk_at "sm"))))
local macro_rules | `(tactic| walk_at "nn") => `(tactic| (first
  | assumption
  | (refine Same.free (H' := ?m) ?s ?n; (case n => assumption); (case s => walk_at "sm"))))
local macro_rules | `(tactic| walk_at "lt") => `(tactic| (first
  | assumption
  | omega
  | exact Nat.mod_lt _ (by decide)
  | (refine at_lt ?_; walk_at "al")
  | exact mlt_lt _ _
  | exact sqd_lt
  | (refine Nat.xor_lt_two_pow ?_ ?_ <;> walk_at "lt")
  | (refine lft_lt ?_ (by decide); walk_at "lt")
  | (refine rgt_lt ?_ (by decide); walk_at "lt")
  | (refine lt64_of16 ?_; walk_at "lt")))
local macro_rules | `(tactic| walk_at "al") => `(tactic| (first
  | assumption
  | exact AllLt.nil
  | (refine AllLt.cons ?_ ?_; (walk_at "lt"); (walk_at "al"))
  | (refine AllLt.drop ?_; walk_at "al")
  | (refine AllLt.take ?_; walk_at "al")))
local macro_rules | `(tactic| walk_at "bd") => `(tactic| ((try dsimp only); first
  | (simp only [List.length_drop, List.length_take, List.length_cons, List.length_nil, List.length_map, List.length_range, nvs_len]; first | omega | decide)
  | omega
  | decide
  | ((with_reducible show AllLt _ _); walk_at "al")
  | walk_at "lt"
  | exact fun _ _ => trivial
  | (refine leM ?_; walk_at "lt")
  | (refine leL ?_; walk_at "lt")
  | (refine ⟨?_, ?_⟩ <;> walk_at "bd")))
local macro_rules | `(tactic| walk_at "rd") => `(tactic| repeat (walk_at "r1"))
local macro_rules | `(tactic| walk_at "r1") => `(tactic| (first
  | refine ⟨_, rfl, ?_⟩
  | refine ⟨_, _, rfl, rfl, ?_⟩
  | refine ⟨_, _, _, rfl, rfl, ?_⟩
  | refine ⟨_, _, _, rfl, rfl, rfl, ?_⟩
  | refine ⟨_, _, rfl, rfl, rfl, ?_⟩
  | refine ⟨_, _, _, rfl, ?_⟩
  | refine ⟨_, _, rfl, ?_⟩
  | (refine And.intro ?c ?_; (case c => (with_reducible show _ = some _); walk_at "fa"))
  | (refine ⟨?ws, ?h, ?_⟩; (case h => (with_reducible show _ = some (HO.lst _)); walk_at "fa"))
  | (refine ⟨?ws, ?ks, ?h, ?g, ?_⟩; (case h => (with_reducible show _ = some (HO.lst _)); walk_at "fa"); (case g => (with_reducible show _ = some (HO.lst _)); walk_at "fa"))
  | (refine ⟨?ws, SqL.of ?h, ?_⟩; (case h => walk_at "fa"))
  | (refine And.intro ⟨?ws, SqL.of ?h⟩ ?_; (case h => walk_at "fa"))
  | (refine ⟨_, ?xs, rfl, SqL.of ?h, ?_⟩; (case h => walk_at "fa"))
  | (refine ⟨_, ?xs, rfl, Or.inl (SqL.of ?h), ?_⟩; (case h => walk_at "fa"))
  | (refine ⟨_, _, ?xs, ?ys, rfl, SqL.of ?h, SqL.of ?g, ?_⟩; (case h => walk_at "fa"); (case g => walk_at "fa"))
  | (refine And.intro (Or.inl ⟨rfl, ?xs, SqL.of ?h⟩) ?_; (case h => walk_at "fa"))
  | refine And.intro rfl ?_
  | refine And.intro (by walk_at "bd") ?_
  | (refine ⟨_, ?xs, _, ?v, rfl, rfl, SqL.of ?h, ?e, ?_⟩; (case h => walk_at "fa"); (case e => first | exact rfl | (refine nvs_get (at_get ?_); walk_at "bd")))
  | (refine ⟨_, ?xs, _, ?v, rfl, rfl, SqT.of ?h, ?e, ?_⟩; (case h => walk_at "fa"); (case e => exact rfl))
  | refine retV.nvs_drop ?_
  | refine retV.nvs_take ?_
  | refine retV.nvs_cut ?_
  | ((with_reducible show retL _ _ _); intro Hn pn sn nn hn)
  | rw [nvs_reverse]
  | refine fun (pn : Addr) (nn : _ = none) => ?_))
open Sz25 (at_ M L GOLD)
def ideaF (ks v : List Nat) (i : Nat) : List Nat := swapM (mixedM (keyedM v ((ks.drop (6 * i)).take 6)) ((ks.drop (6 * i)).take 6))
def ideaUnF (us v : List Nat) (j : Nat) : List Nat := keyedM (mixedM (swapM v) ((us.drop (42 - 6 * j)).take 6)) ((us.drop (42 - 6 * j)).take 6)
def ideaSealM (ks ws : List Nat) : List Nat := keyedM (swapM ((List.range 8).foldl (ideaF ks) ws)) (ks.drop 48)
def ideaUnM (us ws : List Nat) : List Nat := (List.range 8).foldl (ideaUnF us) (swapM (keyedM ws (us.drop 48)))
theorem swapM_ok {v : List Nat} (h : Ok4 16 v) : Ok4 16 (swapM v) := ok4 (at_lt h.2) (at_lt h.2) (at_lt h.2) (at_lt h.2)
theorem keyedM_ok (v k : List Nat) : Ok4 16 (keyedM v k) := ok4 (mlt_lt _ _) (Nat.mod_lt _ (by decide)) (Nat.mod_lt _ (by decide)) (mlt_lt _ _)
theorem mixedM_ok {v : List Nat} (k : List Nat) (h : Ok4 16 v) : Ok4 16 (mixedM v k) := by
  have g : ∀ x y : Nat, (x + y) % 65536 < 2 ^ 16 := fun x y => Nat.mod_lt _ (by decide)
  exact ok4 (Nat.xor_lt_two_pow (at_lt h.2) (mlt_lt _ _)) (Nat.xor_lt_two_pow (at_lt h.2) (g _ _)) (Nat.xor_lt_two_pow (at_lt h.2) (mlt_lt _ _)) (Nat.xor_lt_two_pow (at_lt h.2) (g _ _))
theorem ideaF_ok (ks v : List Nat) (i : Nat) : Ok4 16 (ideaF ks v i) := swapM_ok (mixedM_ok _ (keyedM_ok _ _))
def spIdea (f : List Nat → List Nat → List Nat → List Nat) : Sp := fun vs H Q _ => ∃ p c, vs = [.ref p, .ref c] ∧ ∃ ws k1 k2 ks us, H p = some (.lst (nvs ws)) ∧ H c = some (.tup [.ref k1, .ref k2]) ∧ H k1 = some (.lst (nvs ks)) ∧ H k2 = some (.lst (nvs us)) ∧
  ks.length = 52 ∧ us.length = 52 ∧ AllLt 16 ks ∧ AllLt 16 us ∧ Ok4 16 ws ∧ retW H Q (f ks us ws)
section
variable {P : Program} {w : World} {K : PySem.W.Frag} {mg : Str → Option Value} {base : Heap} {a : Ad}
theorem ok_idea_seal (T : Txt K mg a) : FnOk P w K mg base CX0 3 a.f_idea_seal a.d_idea_seal ["words", "schedule"] (spIdea fun ks _ ws => ideaSealM ks ws) := by
  refine T.idea_seal.F.ok sc_idea_seal (fun vs H Q E h => ?_) (fun cdv A outer s H vs Q E hr h => ?_)
  · obtain ⟨_, _, rfl, _⟩ := h
    rfl
  · skip
    have G_idea_keyed := ok_idea_keyed (P := P) (w := w) (base := base) T
    have G_idea_swapped := ok_idea_swapped (P := P) (w := w) (base := base) T
    have G_idea_mixed := ok_idea_mixed (P := P) (w := w) (base := base) T
    obtain ⟨p, c, rfl, ws, k1, k2, ks, us, hp, hc, hk, hu, ln, lu, ak, au, o0, q⟩ := h
    have q : retW H Q (keyedM (swapM ((List.range 8).foldl (ideaF ks) ws)) (ks.drop 48)) := q
    refine ⟨_, pss_cons (ps_set (i := 2) sc_idea_seal.nd rfl (by first | exact Or.inl rfl | exact Or.inr rfl) (pe_ix ix_tupN (pv 1) (pe_nat 0) (fun _ _ => rfl)))
      (pss_cons (ps_for PassesOwn.never rfl (pi_range3 rfl T.n_range (pa_cons (pe_nat 0) (pa_cons (pe_nat 48) (pa_cons (pe_nat 6) pa_nil)))) (pg_name (i := 3) sc_idea_seal.nd rfl (by first | exact Or.inl rfl | exact Or.inr rfl)) (pss_cons (ps_set (i := 4) sc_idea_seal.nd rfl (by first | exact Or.inl rfl | exact Or.inr rfl) (pe_slice sl_ij (pv 2) (po_some (pv 3)) (po_some (pe_op op_addN (pv 3) (pe_nat 6)))))
      (pss_one (ps_set (i := 0) sc_idea_seal.nd rfl (by first | exact Or.inl rfl | exact Or.inr rfl) (T.idea_swapped.call G_idea_swapped (hr.mono (by decide)) (pa_cons (T.idea_mixed.call G_idea_mixed (hr.mono (by decide)) (pa_cons (T.idea_keyed.call G_idea_keyed (hr.mono (by decide)) (pa_cons (pv 0) (pa_cons (pv 4) pa_nil))) (pa_cons (pv 4) pa_nil))) pa_nil))))))
      (pss_one (ps_ret (T.idea_keyed.call G_idea_keyed (hr.mono (by decide)) (pa_cons (T.idea_swapped.call G_idea_swapped (hr.mono (by decide)) (pa_cons (pv 0) pa_nil)) (pa_cons (pe_slice sl_i (pv 2) (po_some (pe_nat 48)) po_none) pa_nil)))))), ?_⟩
    walk_at "rd"
    refine ⟨_, _, _, 8, rfl, ⟨by decide, by decide, by decide, by decide⟩, ?_⟩
    refine for_stepN (n := 8) (fun i => 6 * i) (fun i hi => by omega) (fun i σ H' => Hold (∃ p' u u2, σ = [some (.ref p'), some (.ref c), some (.ref k1), u, u2] ∧ Same H H' ∧ H' p' = some (.lst (nvs ((List.range i).foldl (ideaF ks) ws))))) (.mk ⟨p, none, none, rfl, Same.refl _, hp⟩) ?_ ?_
    · intro i σ H' hi z
      obtain ⟨p', u, u2, rfl, s1, h1⟩ := z.out
      have hk1 := s1 _ _ hk
      have o := fold_inv (Ok4 16) o0 (fun v i _ => ideaF_ok ks v i) (List.range i)
      have e := foldl_range_succ (ideaF ks) ws i
      generalize (List.range i).foldl (ideaF ks) ws = v at h1 e o
      obtain ⟨l2, a2⟩ := o
      walk_at "rd"
      rename_i h2
      dsimp only at h2
      rw [show 6 * i + 6 - 6 * i = 6 by omega] at h2
      exact .mk ⟨_, _, _, rfl, by walk_at "sm", by rw [e]; exact h2⟩
    · intro σ H' z
      obtain ⟨p', u, u2, rfl, s1, h1⟩ := z.out
      have hk1 := s1 _ _ hk
      have o : Ok4 16 ((List.range 8).foldl (ideaF ks) ws) := fold_inv (Ok4 16) o0 (fun v i _ => ideaF_ok ks v i) (List.range 8)
      generalize (List.range 8).foldl (ideaF ks) ws = v at h1 o q
      obtain ⟨l2, a2⟩ := o
      walk_at "rd"
      exact q _ _ (by walk_at "sm") (by walk_at "fa")
theorem ok_idea_unseal (T : Txt K mg a) : FnOk P w K mg base CX0 3 a.f_idea_unseal a.d_idea_unseal ["words", "schedule"] (spIdea fun _ us ws => ideaUnM us ws) := by
  refine T.idea_unseal.F.ok sc_idea_unseal (fun vs H Q E h => ?_) (fun cdv A outer s H vs Q E hr h => ?_)
  · obtain ⟨_, _, rfl, _⟩ := h
    rfl
  · skip
    have G_idea_keyed := ok_idea_keyed (P := P) (w := w) (base := base) T
    have G_idea_mixed := ok_idea_mixed (P := P) (w := w) (base := base) T
    have G_idea_swapped := ok_idea_swapped (P := P) (w := w) (base := base) T
    obtain ⟨p, c, rfl, ws, k1, k2, ks, us, hp, hc, hk, hu, ln, lu, ak, au, ⟨l1, a1⟩, q⟩ := h
    have q : retW H Q ((List.range 8).foldl (ideaUnF us) (swapM (keyedM ws (us.drop 48)))) := q
    refine ⟨_, pss_cons (ps_set (i := 2) sc_idea_unseal.nd rfl (by first | exact Or.inl rfl | exact Or.inr rfl) (pe_ix ix_tupN (pv 1) (pe_nat 1) (fun _ _ => rfl)))
      (pss_cons (ps_set (i := 0) sc_idea_unseal.nd rfl (by first | exact Or.inl rfl | exact Or.inr rfl) (T.idea_swapped.call G_idea_swapped (hr.mono (by decide)) (pa_cons (T.idea_keyed.call G_idea_keyed (hr.mono (by decide)) (pa_cons (pv 0) (pa_cons (pe_slice sl_i (pv 2) (po_some (pe_nat 48)) po_none) pa_nil))) pa_nil)))
      (pss_cons (ps_for PassesOwn.never rfl (pi_range3 rfl T.n_range (pa_cons (pe_nat 42) (pa_cons (pe_un un_neg (pe_nat 1)) (pa_cons (pe_un un_neg (pe_nat 6)) pa_nil)))) (pg_name (i := 3) sc_idea_unseal.nd rfl (by first | exact Or.inl rfl | exact Or.inr rfl)) (pss_cons (ps_set (i := 4) sc_idea_unseal.nd rfl (by first | exact Or.inl rfl | exact Or.inr rfl) (pe_slice sl_ij (pv 2) (po_some (pv 3)) (po_some (pe_op op_addN (pv 3) (pe_nat 6)))))
      (pss_one (ps_set (i := 0) sc_idea_unseal.nd rfl (by first | exact Or.inl rfl | exact Or.inr rfl) (T.idea_keyed.call G_idea_keyed (hr.mono (by decide)) (pa_cons (T.idea_mixed.call G_idea_mixed (hr.mono (by decide)) (pa_cons (T.idea_swapped.call G_idea_swapped (hr.mono (by decide)) (pa_cons (pv 0) pa_nil)) (pa_cons (pv 4) pa_nil))) (pa_cons (pv 4) pa_nil)))))))
      (pss_one (ps_ret (pv 0))))), ?_⟩
    walk_at "rd"
    refine ⟨_, _, _, 8, rfl, ⟨by decide, by decide, by decide, by decide⟩, ?_⟩
    refine for_stepN (n := 8) (fun i => 42 - 6 * i) (fun i hi => by omega) (fun i σ H' => Hold (∃ p' u u2, σ = [some (.ref p'), some (.ref c), some (.ref k2), u, u2] ∧ Same H H' ∧ H' p' = some (.lst (nvs ((List.range i).foldl (ideaUnF us) (swapM (keyedM ws (us.drop 48)))))))) (.mk ⟨_, none, none, rfl, by walk_at "sm", by walk_at "fa"⟩) ?_ ?_
    · intro i σ H' hi z
      obtain ⟨p', u, u2, rfl, s1, h1⟩ := z.out
      have hk1 := s1 _ _ hu
      have o := fold_inv (f := ideaUnF us) (Ok4 16) (swapM_ok (keyedM_ok ws (us.drop 48))) (fun v i _ => (keyedM_ok _ _ : Ok4 16 (ideaUnF us v i))) (List.range i)
      have e := foldl_range_succ (ideaUnF us) (swapM (keyedM ws (us.drop 48))) i
      generalize (List.range i).foldl (ideaUnF us) (swapM (keyedM ws (us.drop 48))) = v at h1 e o
      obtain ⟨l2, a2⟩ := o
      walk_at "rd"
      rename_i h2
      dsimp only at h2
      rw [show 42 - 6 * i + 6 - (42 - 6 * i) = 6 by omega] at h2
      exact .mk ⟨_, _, _, rfl, by walk_at "sm", by rw [e]; exact h2⟩
    · intro σ H' z
      obtain ⟨p', u, u2, rfl, s1, h1⟩ := z.out
      walk_at "rd"
      exact q _ _ s1 h1
end
end Sx
end
section
set_option Elab.async false
set_option linter.all false
set_option maxRecDepth 100000
set_option maxHeartbeats 2000000
set_option exponentiation.threshold 2000
namespace Sx
open PySem PySem.Spec PyProof.Rows L2
local macro_rules | `(tactic| walk_at "fa") => `(tactic| (first
  | assumption
  | exact upd_same
  | (refine upd_get ?n ?g; (case n => assumption); (case g => walk_at "fa"))
  | (refine Same.use (Same.upd ?n) ?g; (case n => assumption); (case g => walk_at "fa"))
  | (refine Same.use (H := ?m) ?s ?g; (case s => assumption); (case g => walk_at "fa"))))
local macro_rules | `(tactic| walk_at "sm") => `(tactic| (first
  | assumption
  | exact Same.refl _
  | (refine Same.after (Same.upd ?n) ?g; (case n => assumption); (case g => walk_at "sm"))
  | (refine Same.after (H1 := ?m) ?s ?g; (case s => assumption); (case g => walk_at "sm"))))
local macro_rules | `(tactic| walk_at "nn") => `(tactic| (first
  | assumption
  | (refine Same.free (H' := ?m) ?s ?n; (case n => assumption); (case s => walk_at "sm"))))
local macro_rules | `(tactic| walk_at "lt") => `(tactic| (first
  | assumption
  | omega
  | exact Nat.mod_lt _ (by decide)
  | (refine at_lt ?_; walk_at "al")
  | exact mlt_lt _ _
  | exact sqd_lt
  | (refine Nat.xor_lt_two_pow ?_ ?_ <;> walk_at "lt")
  | (refine lft_lt ?_ (by decide); walk_at "lt")
  | (refine rgt_lt ?_ (by decide); walk_at "lt")
  | (refine lt64_of16 ?_; walk_at "lt")))
local macro_rules | `(tactic| walk_at "al") => `(tactic| (first
  | assumption
  | exact AllLt.nil
  | (refine AllLt.cons ?_ ?_; (walk_at "lt"); (walk_at "al"))
  | (refine AllLt.drop ?_; walk_at "al")
  | (refine AllLt.take ?_; walk_at "al")))
local macro_rules | `(tactic| walk_at "bd") => `(tactic| ((try dsimp only); first
  | (simp only [List.length_drop, List.length_take, List.length_cons, List.length_nil, List.length_map, List.length_range, nvs_len]; first | omega | decide)
  | omega
  | decide
  | ((with_reducible show AllLt _ _); walk_at "al")
  | walk_at "lt"
  | exact fun _ _ => trivial
  | (refine leM ?_; walk_at "lt")
  | (refine leL ?_; walk_at "lt")
  | (refine ⟨?_, ?_⟩ <;> walk_at "bd")))
local macro_rules | `(tactic| walk_at "rd") => `(tactic| repeat (walk_at "r1"))
local macro_rules | `(tactic| walk_at "r1") => `(tactic| (first
  | refine ⟨_, rfl, ?_⟩
  | refine ⟨_, _, rfl, rfl, ?_⟩
  | refine ⟨_, _, _, rfl, rfl, ?_⟩
  | refine ⟨_, _, _, rfl, rfl, rfl, ?_⟩
  | refine ⟨_, _, rfl, rfl, rfl, ?_⟩
  | refine ⟨_, _, _, rfl, ?_⟩
  | refine ⟨_, _, rfl, ?_⟩
  | (refine And.intro ?c ?_; (case c => (with_reducible show _ = some _); walk_at "fa"))
  | (refine ⟨?ws, ?h, ?_⟩; (case h => (with_reducible show _ = some (HO.lst _)); walk_at "fa"))
  | (refine ⟨?ws, ?ks, ?h, ?g, ?_⟩; (case h => (with_reducible show _ = some (HO.lst _)); walk_at "fa"); (case g => (with_reducible show _ = some (HO.lst _)); walk_at "fa"))
  | (refine ⟨?ws, SqL.of ?h, ?_⟩; (case h => walk_at "fa"))
  | (refine And.intro ⟨?ws, SqL.of ?h⟩ ?_; (case h => walk_at "fa"))
  | (refine ⟨_, ?xs, rfl, SqL.of ?h, ?_⟩; (case h => walk_at "fa"))
  | (refine ⟨_, ?xs, rfl, Or.inl (SqL.of ?h), ?_⟩; (case h => walk_at "fa"))
  | (refine ⟨_, _, ?xs, ?ys, rfl, SqL.of ?h, SqL.of ?g, ?_⟩; (case h => walk_at "fa"); (case g => walk_at "fa"))
  | (refine And.intro (Or.inl ⟨rfl, ?xs, SqL.of ?h⟩) ?_; (case h => walk_at "fa"))
  | refine And.intro rfl ?_
  | refine And.intro (by walk_at "bd") ?_
  | (refine ⟨_, ?xs, _, ?v, rfl, rfl, SqL.of ?h, ?e, ?_⟩; (case h => walk_at "fa"); (case e => first | exact rfl | (refine nvs_get (at_get ?_); walk_at "bd")))
  | (refine ⟨_, ?xs, _, ?v, rfl, rfl, SqT.of ?h, ?e, ?_⟩; (case h => walk_at "fa"); (case e => exact rfl))
  | refine retV.nvs_drop ?_
  | refine retV.nvs_take ?_
  | refine retV.nvs_cut ?_
  | ((with_reducible show retL _ _ _); intro Hn pn sn nn hn)
  | rw [nvs_reverse]
  | refine fun (pn : Addr) (nn : _ = none) => ?_))
open Sz25 (at_ M L GOLD plus less fishTurns)
theorem fold_invM' {f : List Nat → Nat → List Nat} (p : List Nat → Prop) : ∀ (l : List Nat) (x : List Nat), p x → (∀ v i, i ∈ l → p v → p (f v i)) → p (l.foldl f x)
  | [], _, h0, _ => h0
  | y :: l, x, h0, hs => fold_invM' (f := f) p l (f x y) (hs x y (List.mem_cons_self ..) h0) fun v i hi => hs v i (List.mem_cons_of_mem _ hi)
def fishRound (v : List Nat) (d : Nat) : List Nat := fishM v (fishTurns.getD (d % 8) (0, 0)).1 (fishTurns.getD (d % 8) (0, 0)).2
def fishUnround (v : List Nat) (d : Nat) : List Nat := unfishM v (fishTurns.getD (d % 8) (0, 0)).1 (fishTurns.getD (d % 8) (0, 0)).2
def fishF (fk : Nat → List Nat) (v : List Nat) (d : Nat) : List Nat := fishRound (if d % 4 = 0 then plus v (fk (d / 4)) else v) d
def fishUnF (fk : Nat → List Nat) (v : List Nat) (j : Nat) : List Nat := if (71 - j) % 4 = 0 then less (fishUnround v (71 - j)) (fk ((71 - j) / 4)) else fishUnround v (71 - j)
theorem plus_ok {v k : List Nat} (h : v.length = 4) (g : k.length = 4) : Ok4 64 (plus v k) := by
  refine ⟨?_, fun x hx => ?_⟩
  · unfold plus
    rw [List.length_map, List.length_zip, h, g] <;> rfl
  · unfold plus at hx
    obtain ⟨z, _, rfl⟩ := List.mem_map.mp hx
    exact Nat.mod_lt _ (by decide)
theorem less_ok {v k : List Nat} (h : v.length = 4) (g : k.length = 4) : Ok4 64 (less v k) := by
  refine ⟨?_, fun x hx => ?_⟩
  · unfold less
    rw [List.length_map, List.length_zip, h, g] <;> rfl
  · unfold less at hx
    obtain ⟨z, _, rfl⟩ := List.mem_map.mp hx
    exact Nat.mod_lt _ (by decide)
theorem fishRound_ok {v : List Nat} (d : Nat) (h : Ok4 64 v) : Ok4 64 (fishRound v d) :=
  ok4 (Nat.mod_lt _ (by decide)) (Nat.xor_lt_two_pow (lft_lt (at_lt h.2) (by decide)) (Nat.mod_lt _ (by decide))) (Nat.mod_lt _ (by decide)) (Nat.xor_lt_two_pow (lft_lt (at_lt h.2) (by decide)) (Nat.mod_lt _ (by decide)))
theorem fishUnround_ok {v : List Nat} (d : Nat) (h : Ok4 64 v) : Ok4 64 (fishUnround v d) :=
  ok4 (Nat.mod_lt _ (by decide)) (rgt_lt (Nat.xor_lt_two_pow (at_lt h.2) (at_lt h.2)) (by decide)) (Nat.mod_lt _ (by decide)) (rgt_lt (Nat.xor_lt_two_pow (at_lt h.2) (at_lt h.2)) (by decide))
theorem turns_at {K : PySem.W.Frag} {mg : Str → Option Value} {a : Ad} (T : Txt K mg a) : ∀ j, j < 8 → ∃ q, ([.ref a.tt0, .ref a.tt1, .ref a.tt2, .ref a.tt3, .ref a.tt4, .ref a.tt5, .ref a.tt6, .ref a.tt7] : List V)[j]? = some (.ref q) ∧ Tp K q (nvs [(fishTurns.getD j (0, 0)).1, (fishTurns.getD j (0, 0)).2])
  | 0, _ => ⟨_, rfl, T.q_tt0⟩
  | 1, _ => ⟨_, rfl, T.q_tt1⟩
  | 2, _ => ⟨_, rfl, T.q_tt2⟩
  | 3, _ => ⟨_, rfl, T.q_tt3⟩
  | 4, _ => ⟨_, rfl, T.q_tt4⟩
  | 5, _ => ⟨_, rfl, T.q_tt5⟩
  | 6, _ => ⟨_, rfl, T.q_tt6⟩
  | 7, _ => ⟨_, rfl, T.q_tt7⟩
  | _ + 8, h => by omega
structure FKey (H : Hp) (c : Addr) (fk : Nat → List Nat) : Prop where
  at_ : ∃ xs, H c = some (.lst xs) ∧ ∀ j, j < 19 → ∃ r, xs[j]? = some (.ref r) ∧ H r = some (.lst (nvs (fk j)))
  ok : ∀ j, j < 19 → Ok4 64 (fk j)
theorem FKey.mono {H H' : Hp} {c : Addr} {fk : Nat → List Nat} (h : FKey H c fk) (s : Same H H') : FKey H' c fk := by
  obtain ⟨⟨xs, h1, h2⟩, h3⟩ := h
  exact ⟨⟨xs, s _ _ h1, fun j hj => let ⟨r, e1, e2⟩ := h2 j hj; ⟨r, e1, s _ _ e2⟩⟩, h3⟩
theorem FKey.ix {K : PySem.W.Frag} {H : Hp} {c : Addr} {fk : Nat → List Nat} (h : FKey H c fk) {j : Nat} (hj : j < 19) {Q : VK} (q : ∀ r, H r = some (.lst (nvs (fk j))) → (fk j).length = 4 → AllLt 64 (fk j) → Q (.ref r) H) : rIxLN K (.ref c) (vn j) H Q := by
  obtain ⟨⟨xs, h1, h2⟩, h3⟩ := h
  obtain ⟨r, e1, e2⟩ := h2 j hj
  exact ⟨_, _, _, _, rfl, rfl, SqL.of h1, e1, q r e2 (h3 j hj).1 (h3 j hj).2⟩
def spFish (f : (Nat → List Nat) → List Nat → List Nat) : Sp := fun vs H Q _ => ∃ p c, vs = [.ref p, .ref c] ∧ ∃ ws fk, H p = some (.lst (nvs ws)) ∧ FKey H c fk ∧ Ok4 64 ws ∧ retW H Q (f fk ws)
theorem turn_ix {K : PySem.W.Frag} {mg : Str → Option Value} {a : Ad} (T : Txt K mg a) {H : Hp} {j : Nat} (hj : j < 8) {Q : VK} (q : ∀ r, SqT K H r (nvs [(fishTurns.getD j (0, 0)).1, (fishTurns.getD j (0, 0)).2]) → Q (.ref r) H) : rIxTN K (.ref a.t_THREEFISH_TURNS) (vn j) H Q := by
  obtain ⟨r, e1, e2⟩ := turns_at T j hj
  exact ⟨_, _, _, _, rfl, rfl, T.q_THREEFISH_TURNS.sq, e1, q r e2.sq⟩
section
variable {P : Program} {w : World} {K : PySem.W.Frag} {mg : Str → Option Value} {base : Heap} {a : Ad}
theorem ok_threefish_seal (T : Txt K mg a) : FnOk P w K mg base CX0 3 a.f_threefish_seal a.d_threefish_seal ["words", "schedule"] (spFish fun fk ws => plus ((List.range 72).foldl (fishF fk) ws) (fk 18)) := by
  refine T.threefish_seal.F.ok sc_threefish_seal (fun vs H Q E h => ?_) (fun cdv A outer s H vs Q E hr h => ?_)
  · obtain ⟨_, _, rfl, _⟩ := h
    rfl
  · skip
    have G_threefish_sum := ok_threefish_sum (P := P) (w := w) (base := base) T
    have G_threefish_round := ok_threefish_round (P := P) (w := w) (base := base) T
    obtain ⟨p, c, rfl, ws, fk, hp, hc, o0, q⟩ := h
    have q : retW H Q (plus ((List.range 72).foldl (fishF fk) ws) (fk 18)) := q
    have oF : ∀ v i, i ∈ List.range 72 → Ok4 64 v → Ok4 64 (fishF fk v i) := fun v i hi o => by
      have hi' := List.mem_range.mp hi
      unfold fishF
      refine fishRound_ok i ?_
      by_cases z : i % 4 = 0
      · rw [if_pos z]; exact plus_ok o.1 (hc.ok _ (by omega)).1
      · rw [if_neg z]; exact o
    refine ⟨_, pss_cons (ps_for PassesOwn.never rfl (pi_range1 rfl T.n_range (pa_cons (pe_nat 72) pa_nil)) (pg_name (i := 2) sc_threefish_seal.nd rfl (by first | exact Or.inl rfl | exact Or.inr rfl)) (pss_cons (ps_if (pt_cmpR op_eqI (pe_op op_modN' (pv 2) (pe_nat 4)) (pe_nat 0) (nomark _)) (pss_one (ps_set (i := 0) sc_threefish_seal.nd rfl (by first | exact Or.inl rfl | exact Or.inr rfl) (T.threefish_sum.call G_threefish_sum (hr.mono (by decide)) (pa_cons (pv 0) (pa_cons (pe_ix ix_listN (pv 1) (pe_op op_divN' (pv 2) (pe_nat 4)) (fun _ _ => rfl)) pa_nil))))) pss_nil)
      (pss_one (ps_set (i := 0) sc_threefish_seal.nd rfl (by first | exact Or.inl rfl | exact Or.inr rfl) (T.threefish_round.call G_threefish_round (hr.mono (by decide)) (pa_cons (pv 0) (pa_cons (pe_ix ix_tupN (pe_glob (v := .ref a.t_THREEFISH_TURNS) rfl T.g_THREEFISH_TURNS rfl) (pe_op op_modN' (pv 2) (pe_nat 8)) (fun _ _ => rfl)) pa_nil)))))))
      (pss_one (ps_ret (T.threefish_sum.call G_threefish_sum (hr.mono (by decide)) (pa_cons (pv 0) (pa_cons (pe_ix ix_listN (pv 1) (pe_nat 18) (fun _ _ => rfl)) pa_nil))))), ?_⟩
    walk_at "rd"
    refine for_rangeN (lo := 0) (n := 72) (fun i σ H' => Hold (∃ p' u, σ = [some (.ref p'), some (.ref c), u] ∧ Same H H' ∧ H' p' = some (.lst (nvs ((List.range i).foldl (fishF fk) ws))))) (.mk ⟨p, none, rfl, Same.refl _, hp⟩) ?_ ?_
    · intro i σ H' hi z
      obtain ⟨p', u, rfl, s1, h1⟩ := z.out
      have hc1 := hc.mono s1
      have o := fold_invM' (f := fishF fk) (Ok4 64) (List.range i) ws o0 fun v x hx => oF v x (List.mem_range.mpr (by have := List.mem_range.mp hx; omega))
      have e := foldl_range_succ (fishF fk) ws i
      generalize (List.range i).foldl (fishF fk) ws = v at h1 e o
      obtain ⟨l2, a2⟩ := o
      rw [Nat.zero_add]
      walk_at "rd"
      refine ite2 (fun hd => ?_) (fun hd => ?_)
      · have hm : i % 4 = 0 := by have := of_decide_eq_true hd; dsimp only at this; omega
        rw [fishF, if_pos hm] at e
        walk_at "rd"
        refine hc1.ix (j := i / 4) (by omega) fun r hr1 lr ar => ?_
        walk_at "rd"
        rename_i H2 p2 s2 n2 h2
        obtain ⟨l3, a3⟩ := plus_ok l2 lr
        have h2 : H2 p2 = some (.lst (nvs (plus v (fk (i / 4))))) := h2
        refine turn_ix T (j := i % 8) (by omega) fun r2 hr2 => ?_
        walk_at "rd"
        refine ⟨_, _, _, h2, hr2, l3, a3, ?_⟩
        walk_at "rd"
        rename_i H3 p3 s3 n3 h3
        exact .mk ⟨_, _, rfl, (s1.trans s2).trans s3, by rw [e]; exact h3⟩
      · have hm : ¬ i % 4 = 0 := fun z => hd (decide_eq_true (by dsimp only; omega))
        rw [fishF, if_neg hm] at e
        walk_at "rd"
        refine turn_ix T (j := i % 8) (by omega) fun r2 hr2 => ?_
        walk_at "rd"
        refine ⟨_, _, _, h1, hr2, l2, a2, ?_⟩
        walk_at "rd"
        rename_i H3 p3 s3 n3 h3
        exact .mk ⟨_, _, rfl, s1.trans s3, by rw [e]; exact h3⟩
    · intro σ H' z
      obtain ⟨p', u, rfl, s1, h1⟩ := z.out
      have hc1 := hc.mono s1
      have o : Ok4 64 ((List.range 72).foldl (fishF fk) ws) := fold_invM' (f := fishF fk) (Ok4 64) (List.range 72) ws o0 oF
      generalize (List.range 72).foldl (fishF fk) ws = v at h1 o q
      obtain ⟨l2, a2⟩ := o
      walk_at "rd"
      refine hc1.ix (j := 18) (by omega) fun r hr1 lr ar => ?_
      walk_at "rd"
      exact q _ _ (by walk_at "sm") (by walk_at "fa")
theorem ok_threefish_unseal (T : Txt K mg a) : FnOk P w K mg base CX0 4 a.f_threefish_unseal a.d_threefish_unseal ["words", "schedule"] (spFish fun fk ws => (List.range 72).foldl (fishUnF fk) (less ws (fk 18))) := by
  refine T.threefish_unseal.F.ok sc_threefish_unseal (fun vs H Q E h => ?_) (fun cdv A outer s H vs Q E hr h => ?_)
  · obtain ⟨_, _, rfl, _⟩ := h
    rfl
  · skip
    have G_threefish_difference := ok_threefish_difference (P := P) (w := w) (base := base) T
    have G_threefish_unround := ok_threefish_unround (P := P) (w := w) (base := base) T
    obtain ⟨p, c, rfl, ws, fk, hp, hc, o0, q⟩ := h
    have q : retW H Q ((List.range 72).foldl (fishUnF fk) (less ws (fk 18))) := q
    obtain ⟨l1, a1⟩ := id o0
    have o1 : Ok4 64 (less ws (fk 18)) := less_ok l1 (hc.ok 18 (by omega)).1
    have oF : ∀ v i, i ∈ List.range 72 → Ok4 64 v → Ok4 64 (fishUnF fk v i) := fun v i hi o => by
      have hi' := List.mem_range.mp hi
      unfold fishUnF
      by_cases z : (71 - i) % 4 = 0
      · rw [if_pos z]; exact less_ok (fishUnround_ok _ o).1 (hc.ok _ (by omega)).1
      · rw [if_neg z]; exact fishUnround_ok _ o
    refine ⟨_, pss_cons (ps_set (i := 0) sc_threefish_unseal.nd rfl (by first | exact Or.inl rfl | exact Or.inr rfl) (T.threefish_difference.call G_threefish_difference (hr.mono (by decide)) (pa_cons (pv 0) (pa_cons (pe_ix ix_listN (pv 1) (pe_nat 18) (fun _ _ => rfl)) pa_nil))))
      (pss_cons (ps_for PassesOwn.never rfl (pi_range3 rfl T.n_range (pa_cons (pe_nat 71) (pa_cons (pe_un un_neg (pe_nat 1)) (pa_cons (pe_un un_neg (pe_nat 1)) pa_nil)))) (pg_name (i := 2) sc_threefish_unseal.nd rfl (by first | exact Or.inl rfl | exact Or.inr rfl)) (pss_cons (ps_set (i := 0) sc_threefish_unseal.nd rfl (by first | exact Or.inl rfl | exact Or.inr rfl) (T.threefish_unround.call G_threefish_unround (hr.mono (by decide)) (pa_cons (pv 0) (pa_cons (pe_ix ix_tupN (pe_glob (v := .ref a.t_THREEFISH_TURNS) rfl T.g_THREEFISH_TURNS rfl) (pe_op op_modN' (pv 2) (pe_nat 8)) (fun _ _ => rfl)) pa_nil))))
      (pss_one (ps_if (pt_cmpR op_eqI (pe_op op_modN' (pv 2) (pe_nat 4)) (pe_nat 0) (nomark _)) (pss_one (ps_set (i := 0) sc_threefish_unseal.nd rfl (by first | exact Or.inl rfl | exact Or.inr rfl) (T.threefish_difference.call G_threefish_difference (hr.mono (by decide)) (pa_cons (pv 0) (pa_cons (pe_ix ix_listN (pv 1) (pe_op op_divN' (pv 2) (pe_nat 4)) (fun _ _ => rfl)) pa_nil))))) pss_nil))))
      (pss_one (ps_ret (pv 0)))), ?_⟩
    walk_at "rd"
    refine hc.ix (j := 18) (by omega) fun r hr1 lr ar => ?_
    walk_at "rd"
    rename_i H1 p1 s1 n1 h1
    refine ⟨_, _, _, 72, rfl, ⟨by decide, by decide, by decide, by decide⟩, ?_⟩
    refine for_stepN (n := 72) (fun i => 71 - i) (fun i hi => by omega) (fun i σ H' => Hold (∃ p' u, σ = [some (.ref p'), some (.ref c), u] ∧ Same H1 H' ∧ H' p' = some (.lst (nvs ((List.range i).foldl (fishUnF fk) (less ws (fk 18))))))) (.mk ⟨p1, none, rfl, Same.refl _, h1⟩) ?_ ?_
    · intro i σ H' hi z
      obtain ⟨p', u, rfl, s2, h2⟩ := z.out
      have hc1 := hc.mono (s1.trans s2)
      have o := fold_invM' (f := fishUnF fk) (Ok4 64) (List.range i) (less ws (fk 18)) o1 fun v x hx => oF v x (List.mem_range.mpr (by have := List.mem_range.mp hx; omega))
      have e := foldl_range_succ (fishUnF fk) (less ws (fk 18)) i
      generalize (List.range i).foldl (fishUnF fk) (less ws (fk 18)) = v at h2 e o
      have o3 : Ok4 64 (fishUnround v (71 - i)) := fishUnround_ok _ o
      obtain ⟨l2, a2⟩ := o
      walk_at "rd"
      refine turn_ix T (j := (71 - i) % 8) (by omega) fun r2 hr2 => ?_
      walk_at "rd"
      refine ⟨_, _, _, h2, hr2, l2, a2, ?_⟩
      walk_at "rd"
      rename_i H3 p3 s3 n3 h3
      have h3 : H3 p3 = some (.lst (nvs (fishUnround v (71 - i)))) := h3
      have hc2 := hc1.mono s3
      obtain ⟨l4, a4⟩ := o3
      refine ite2 (fun hd => ?_) (fun hd => ?_)
      · have hm : (71 - i) % 4 = 0 := by have := of_decide_eq_true hd; dsimp only at this; omega
        rw [fishUnF, if_pos hm] at e
        walk_at "rd"
        refine hc2.ix (j := (71 - i) / 4) (by omega) fun r hr1 lr ar => ?_
        walk_at "rd"
        rename_i H4 p4 s4 n4 h4
        exact .mk ⟨_, _, rfl, (s2.trans s3).trans s4, by rw [e]; exact h4⟩
      · have hm : ¬ (71 - i) % 4 = 0 := fun z => hd (decide_eq_true (by dsimp only; omega))
        rw [fishUnF, if_neg hm] at e
        walk_at "rd"
        exact .mk ⟨_, _, rfl, s2.trans s3, by rw [e]; exact h3⟩
    · intro σ H' z
      obtain ⟨p', u, rfl, s2, h2⟩ := z.out
      walk_at "rd"
      exact q _ _ (s1.trans s2) h2
end
end Sx
end
section
set_option Elab.async false
set_option linter.all false
set_option maxRecDepth 100000
set_option maxHeartbeats 2000000
set_option exponentiation.threshold 2000
namespace Sx
open PySem PySem.Spec PyProof.Rows L2
local macro_rules | `(tactic| walk_at "fa") => `(tactic| (first
  | assumption
  | exact upd_same
  | (refine upd_get ?n ?g; (case n => assumption); (case g => walk_at "fa"))
  | (refine Same.use (Same.upd ?n) ?g; (case n => assumption); (case g => walk_at "fa"))
  | (refine Same.use (H := ?m) ?s ?g; (case s => assumption); (case g => walk_at "fa"))))
local macro_rules | `(tactic| walk_at "sm") => `(tactic| (first
  | assumption
  | exact Same.refl _
  | (refine Same.after (Same.upd ?n) ?g; (case n => assumption); (case g => walk_at "sm"))
  | (refine Same.after (H1 := ?m) ?s ?g; (case s => assumption); (case g => walk_at "sm"))))
local macro_rules | `(tactic| walk_at "nn") => `(tactic| (first
  | assumption
  | (refine Same.free (H' := ?m) ?s ?n; (case n => assumption); (case s => walk_at "sm"))))
local macro_rules | `(tactic| walk_at "lt") => `(tactic| (first
  | assumption
  | omega
  | exact Nat.mod_lt _ (by decide)
  | (refine at_lt ?_; walk_at "al")
  | exact mlt_lt _ _
  | exact sqd_lt
  | (refine Nat.xor_lt_two_pow ?_ ?_ <;> walk_at "lt")
  | (refine lft_lt ?_ (by decide); walk_at "lt")
  | (refine rgt_lt ?_ (by decide); walk_at "lt")
  | (refine lt64_of16 ?_; walk_at "lt")))
local macro_rules | `(tactic| walk_at "al") => `(tactic| (first
  | assumption
  | exact AllLt.nil
  | (refine AllLt.cons ?_ ?_; (walk_at "lt"); (walk_at "al"))
  | (refine AllLt.drop ?_; walk_at "al")
  | (refine AllLt.take ?_; walk_at "al")))
local macro_rules | `(tactic| walk_at "bd") => `(tactic| ((try dsimp only); first
  | (simp only [List.length_drop, List.length_take, List.length_cons, List.length_nil, List.length_map, List.length_range, nvs_len]; first | omega | decide)
  | omega
  | decide
  | ((with_reducible show AllLt _ _); walk_at "al")
  | walk_at "lt"
  | exact fun _ _ => trivial
  | (refine leM ?_; walk_at "lt")
  | (refine leL ?_; walk_at "lt")
  | (refine ⟨?_, ?_⟩ <;> walk_at "bd")))
local macro_rules | `(tactic| walk_at "rd") => `(tactic| repeat (walk_at "r1"))
local macro_rules | `(tactic| walk_at "r1") => `(tactic| (first
  | refine ⟨_, rfl, ?_⟩
  | refine ⟨_, _, rfl, rfl, ?_⟩
  | refine ⟨_, _, _, rfl, rfl, ?_⟩
  | refine ⟨_, _, _, rfl, rfl, rfl, ?_⟩
  | refine ⟨_, _, rfl, rfl, rfl, ?_⟩
  | refine ⟨_, _, _, rfl, ?_⟩
  | refine ⟨_, _, rfl, ?_⟩
  | (refine And.intro ?c ?_; (case c => (with_reducible show _ = some _); walk_at "fa"))
  | (refine ⟨?ws, ?h, ?_⟩; (case h => (with_reducible show _ = some (HO.lst _)); walk_at "fa"))
  | (refine ⟨?ws, ?ks, ?h, ?g, ?_⟩; (case h => (with_reducible show _ = some (HO.lst _)); walk_at "fa"); (case g => (with_reducible show _ = some (HO.lst _)); walk_at "fa"))
  | (refine ⟨?ws, SqL.of ?h, ?_⟩; (case h => walk_at "fa"))
  | (refine And.intro ⟨?ws, SqL.of ?h⟩ ?_; (case h => walk_at "fa"))
  | (refine ⟨_, ?xs, rfl, SqL.of ?h, ?_⟩; (case h => walk_at "fa"))
  | (refine ⟨_, ?xs, rfl, Or.inl (SqL.of ?h), ?_⟩; (case h => walk_at "fa"))
  | (refine ⟨_, _, ?xs, ?ys, rfl, SqL.of ?h, SqL.of ?g, ?_⟩; (case h => walk_at "fa"); (case g => walk_at "fa"))
  | (refine And.intro (Or.inl ⟨rfl, ?xs, SqL.of ?h⟩) ?_; (case h => walk_at "fa"))
  | refine And.intro rfl ?_
  | refine And.intro (by walk_at "bd") ?_
  | (refine ⟨_, ?xs, _, ?v, rfl, rfl, SqL.of ?h, ?e, ?_⟩; (case h => walk_at "fa"); (case e => first | exact rfl | (refine nvs_get (at_get ?_); walk_at "bd")))
  | (refine ⟨_, ?xs, _, ?v, rfl, rfl, SqT.of ?h, ?e, ?_⟩; (case h => walk_at "fa"); (case e => exact rfl))
  | refine retV.nvs_drop ?_
  | refine retV.nvs_take ?_
  | refine retV.nvs_cut ?_
  | ((with_reducible show retL _ _ _); intro Hn pn sn nn hn)
  | rw [nvs_reverse]
  | refine fun (pn : Addr) (nn : _ = none) => ?_))
open Sz25 (at_ M L GOLD plus less)
/-! ### the keys -/
@[irreducible] def undoM (ks : List Nat) (n : Nat) : List Nat := (List.range n).foldl (fun u i => if i % 6 = 0 ∨ i % 6 = 3 then u.set i (powM (at_ ks i) 16) else if i % 6 = 1 ∨ i % 6 = 2 then u.set i ((65536 - at_ ks i) % 65536) else u) ks
theorem undoM_len (ks : List Nat) : ∀ n, (undoM ks n).length = ks.length
  | 0 => by unfold undoM; rfl
  | n + 1 => by
    have ih := undoM_len ks n
    unfold undoM at ih ⊢
    rw [foldl_range_succ]
    split
    · rw [List.length_set]; exact ih
    · split
      · rw [List.length_set]; exact ih
      · exact ih
theorem undoM_ok {ks : List Nat} (h : AllLt 16 ks) : ∀ n, AllLt 16 (undoM ks n)
  | 0 => by unfold undoM; exact h
  | n + 1 => by
    have ih := undoM_ok h n
    unfold undoM at ih ⊢
    rw [foldl_range_succ]
    split
    · exact ih.set (powM_lt _ _)
    · split
      · exact ih.set (Nat.mod_lt _ (by decide))
      · exact ih
def spUndo : Sp := fun vs H Q _ => ∃ p, vs = [.ref p] ∧ ∃ ks, H p = some (.lst (nvs ks)) ∧ ks.length = 52 ∧ AllLt 16 ks ∧ retL H Q (undoM ks 52)
section
variable {P : Program} {w : World} {K : PySem.W.Frag} {mg : Str → Option Value} {base : Heap} {a : Ad}
theorem in2 (j x y : Nat) : inV (vn j) [vn x, vn y] = decide (j = x ∨ j = y) := by
  have e : ∀ m n : Nat, eqV (vn m) (vn n) = decide (n = m) := fun m n => by
    show ((m : Int) == (n : Int)) = decide (n = m)
    rw [Bool.beq_eq_decide_eq]
    exact decide_eq_decide.mpr (by omega)
  show (eqV (vn x) (vn j) || (eqV (vn y) (vn j) || false)) = _
  rw [e, e, Bool.or_false]
  by_cases h1 : j = x
  · simp [h1]
  · by_cases h2 : j = y
    · simp [h2]
    · simp [h1, h2]
theorem for_enumN {g : TG} {tb : TS} {D : Ends} {σ : L2.St} {H : Hp} {p : Addr} {ks : List Nat} (Pv : Nat → L2.St → Hp → Prop) (h0 : Pv 0 σ H) (hl : ∀ i σ H, Pv i σ H → H p = some (.lst (nvs ks)))
    (hs : ∀ i σ H t k, ks[i]? = some k → Pv i σ H → H t = none → g (.ref t) σ (upd H t (.tup [vn i, vn k])) fun σ2 H2 => tb { D with nx := Pv (i + 1), ct := Pv (i + 1), bk := D.nx } σ2 H2) (hd : ∀ σ H, Pv ks.length σ H → D.nx σ H) :
    ∃ W : Nat → Nat → L2.St → Hp → Prop, (∃ m, W 0 m σ H) ∧ ∀ i m σ H, W i m σ H →
      ((Ite K p).stop i H ∧ D.nx σ H) ∨ ((Ite K p).go i H ∧ ∃ N : L2.St → Hp → Prop, (∀ σ' H', N σ' H' → ∃ m', m' < m ∧ W (i + 1) m' σ' H') ∧ ∀ x H', (Ite K p).yld i H x H' → g x σ H' fun σ2 H2 => tb { D with nx := N, ct := N, bk := D.nx } σ2 H2) := by
  refine ⟨fun i m σ H => m = ks.length - i ∧ i ≤ ks.length ∧ Pv i σ H, ⟨ks.length, by simp, Nat.zero_le _, h0⟩, ?_⟩
  rintro i m σ H ⟨rfl, hi, pv⟩
  have q := hl i σ H pv
  by_cases hlt : i < ks.length
  · refine .inr ⟨⟨nvs ks, _, SqL.of q, nvs_get (at_get hlt)⟩, Pv (i + 1), fun σ' H' p' => ⟨ks.length - (i + 1), by omega, rfl, hlt, p'⟩, fun x H' y => ?_⟩
    obtain ⟨t, v, rfl, nt, rfl, hv⟩ := y
    obtain ⟨k, e1, rfl⟩ := nvs_of (hv _ (SqL.of q))
    exact hs i σ H t k e1 pv nt
  · have e : i = ks.length := by omega
    subst e
    exact .inl ⟨⟨nvs ks, SqL.of q, by rw [nvs_len]; exact Nat.le_refl _⟩, hd σ H pv⟩
theorem ok_idea_undoing (T : Txt K mg a) : FnOk P w K mg base CX0 3 a.f_idea_undoing a.d_idea_undoing ["keys"] spUndo := by
  refine T.idea_undoing.F.ok sc_idea_undoing (fun vs H Q E h => ?_) (fun cdv A outer s H vs Q E hr h => ?_)
  · obtain ⟨_, rfl, _⟩ := h
    rfl
  · skip
    have G_idea_inverse := ok_idea_inverse (P := P) (w := w) (base := base) T
    obtain ⟨p, rfl, ks, hp, ln, ak, q⟩ := h
    refine ⟨_, pss_cons (ps_set (i := 1) sc_idea_undoing.nd rfl (by first | exact Or.inl rfl | exact Or.inr rfl) (pe_callTy call_list_of rfl T.n_list PyProof.Rows.boot_list (pa_cons (pv 0) pa_nil)))
      (pss_cons (ps_for PassesOwn.never rfl (pi_enum rfl T.n_enumerate (pa_cons (pv 0) pa_nil)) (pg_tup rfl (pgs_cons (pg_name (i := 2) sc_idea_undoing.nd rfl (by first | exact Or.inl rfl | exact Or.inr rfl)) (pgs_cons (pg_name (i := 3) sc_idea_undoing.nd rfl (by first | exact Or.inl rfl | exact Or.inr rfl)) pgs_nil))) (pss_one (ps_if (pt_cmpR op_in_seq (pe_op op_modN' (pv 2) (pe_nat 6)) (pe_tup (pa_cons (pe_nat 0) (pa_cons (pe_nat 3) pa_nil))) (by with_unfolding_all rfl)) (pss_one (ps_asg (T.idea_inverse.call G_idea_inverse (hr.mono (by decide)) (pa_cons (pv 3) pa_nil)) (pg_sub (pv 1) (pv 2) set_list))) (pss_one (ps_if (pt_cmpR op_in_seq (pe_op op_modN' (pv 2) (pe_nat 6)) (pe_tup (pa_cons (pe_nat 1) (pa_cons (pe_nat 2) pa_nil))) (by with_unfolding_all rfl)) (pss_one (ps_asg (pe_op op_modN' (pe_op op_subN (pc T.c_TWO_16) (pv 3)) (pc T.c_TWO_16)) (pg_sub (pv 1) (pv 2) set_list))) pss_nil)))))
      (pss_one (ps_ret (pv 1)))), ?_⟩
    walk_at "rd"
    rename_i p1 n1
    refine for_enumN (ks := ks) (fun i σ H' => Hold (∃ u u2, σ = [some (.ref p), some (.ref p1), u, u2] ∧ Same H H' ∧ H' p1 = some (.lst (nvs (undoM ks i))))) (.mk ⟨none, none, rfl, Same.upd n1, by rw [upd_same]; unfold undoM; rfl⟩) (fun i σ H' z => by obtain ⟨_, _, _, s1, _⟩ := z.out; exact s1 _ _ hp) ?_ ?_
    · intro i σ H' t k hki z nt
      obtain ⟨u, u2, rfl, s1, h1⟩ := z.out
      have hi : i < ks.length := (List.getElem?_eq_some_iff.mp hki).1
      have hk : k = at_ ks i := Option.some.inj (hki.symm.trans (at_get hi))
      have hkl : k < 2 ^ 16 := ak k (List.mem_of_getElem? hki)
      have e : undoM ks (i + 1) = if i % 6 = 0 ∨ i % 6 = 3 then (undoM ks i).set i (powM (at_ ks i) 16) else if i % 6 = 1 ∨ i % 6 = 2 then (undoM ks i).set i ((65536 - at_ ks i) % 65536) else undoM ks i := by unfold undoM; exact foldl_range_succ _ _ _
      have lu := undoM_len ks i
      rw [← hk] at e
      generalize undoM ks i = v at h1 e lu
      have h2 : (upd H' t (.tup [vn i, vn k])) p1 = some (.lst (nvs v)) := by rw [upd_ne (ne_of_none h1 nt)]; exact h1
      have s2 : Same H (upd H' t (.tup [vn i, vn k])) := s1.trans (Same.upd nt)
      have h3 : (upd H' t (.tup [vn i, vn k])) t = some (.tup [vn i, vn k]) := upd_same
      have hix : ixN (nvs v).length (i : Int) = some i := by
        unfold ixN
        rw [nvs_len, if_pos (by omega), if_pos (by omega)]
        simp
      generalize upd H' t (.tup [vn i, vn k]) = H2 at h2 s2 h3
      refine ⟨t, _, rfl, SqT.of h3, rfl, _, _, rfl, _, _, rfl, rfl, ?_⟩
      walk_at "rd"
      rename_i t3 n3
      refine ⟨_, _, rfl, .inr (SqT.of upd_same), rfl, rfl, ?_⟩
      rw [if_neg (by decide), in2]
      refine ⟨_, rfl, ?_⟩
      have h4 : (upd H2 t3 (.tup [vn 0, vn 3])) p1 = some (.lst (nvs v)) := by rw [upd_ne (ne_of_none h2 n3)]; exact h2
      have s4 : Same H (upd H2 t3 (.tup [vn 0, vn 3])) := s2.trans (Same.upd n3)
      generalize upd H2 t3 (.tup [vn 0, vn 3]) = H4 at h4 s4
      refine ite2 (fun hd => ?_) (fun hd => ?_)
      · have hd := of_decide_eq_true hd
        dsimp only at hd
        rw [if_pos hd] at e
        walk_at "rd"
        refine ⟨_, _, _, i, rfl, rfl, h4, hix, ?_⟩
        exact .mk ⟨_, _, rfl, s4.over n1, by rw [upd_same, e, nvs_set]⟩
      · have hd := of_decide_eq_false (eq_false_of_ne_true hd)
        dsimp only at hd
        rw [if_neg hd] at e
        walk_at "rd"
        rename_i t5 n5
        refine ⟨_, _, rfl, .inr (SqT.of upd_same), rfl, rfl, ?_⟩
        rw [if_neg (by decide), in2]
        refine ⟨_, rfl, ?_⟩
        have h6 : (upd H4 t5 (.tup [vn 1, vn 2])) p1 = some (.lst (nvs v)) := by rw [upd_ne (ne_of_none h4 n5)]; exact h4
        have s6 : Same H (upd H4 t5 (.tup [vn 1, vn 2])) := s4.trans (Same.upd n5)
        generalize upd H4 t5 (.tup [vn 1, vn 2]) = H6 at h6 s6
        refine ite2 (fun hd2 => ?_) (fun hd2 => ?_)
        · have hd2 := of_decide_eq_true hd2
          dsimp only at hd2
          rw [if_pos hd2] at e
          walk_at "rd"
          refine ⟨_, _, _, i, rfl, rfl, h6, hix, ?_⟩
          exact .mk ⟨_, _, rfl, s6.over n1, by rw [upd_same, e, ← nvs_set]⟩
        · have hd2 := of_decide_eq_false (eq_false_of_ne_true hd2)
          dsimp only at hd2
          rw [if_neg hd2] at e
          exact .mk ⟨_, _, rfl, s6, by rw [e]; exact h6⟩
    · intro σ H' z
      obtain ⟨u, u2, rfl, s1, h1⟩ := z.out
      rw [ln] at h1
      walk_at "rd"
      exact q.use s1 n1 h1
end
end Sx
end
section
set_option Elab.async false
set_option linter.all false
set_option maxRecDepth 100000
set_option maxHeartbeats 2000000
set_option exponentiation.threshold 2000
namespace Sx
open PySem PySem.Spec PyProof.Rows L2
local macro_rules | `(tactic| walk_at "fa") => `(tactic| (first
  | assumption
  | exact upd_same
  | (refine upd_get ?n ?g; (case n => assumption); (case g => walk_at "fa"))
  | (refine Same.use (Same.upd ?n) ?g; (case n => assumption); (case g => walk_at "fa"))
  | (refine Same.use (H := ?m) ?s ?g; (case s => assumption); (case g => walk_at "fa"))))
local macro_rules | `(tactic| walk_at "sm") => `(tactic| (first
  | assumption
  | exact Same.refl _
  | (refine Same.after (Same.upd ?n) ?g; (case n => assumption); (case g => walk_at "sm"))
  | (refine Same.after (H1 := ?m) ?s ?g; (case s => assumption); (case g => walk_at "sm"))))
local macro_rules | `(tactic| walk_at "nn") => `(tactic| (first
  | assumption
  | (refine Same.free (H' := ?m) ?s ?n; (case n => assumption); (case s => walk_at "sm"))))
local macro_rules | `(tactic| walk_at "lt") => `(tactic| (first
  | assumption
  | omega
  | exact Nat.mod_lt _ (by decide)
  | (refine at_lt ?_; walk_at "al")
  | exact mlt_lt _ _
  | exact sqd_lt
  | (refine Nat.xor_lt_two_pow ?_ ?_ <;> walk_at "lt")
  | (refine lft_lt ?_ (by decide); walk_at "lt")
  | (refine rgt_lt ?_ (by decide); walk_at "lt")
  | (refine lt64_of16 ?_; walk_at "lt")))
local macro_rules | `(tactic| walk_at "al") => `(tactic| (first
  | assumption
  | exact AllLt.nil
  | (refine AllLt.cons ?_ ?_; (walk_at "lt"); (walk_at "al"))
  | (refine AllLt.drop ?_; walk_at "al")
  | (refine AllLt.take ?_; walk_at "al")))
local macro_rules | `(tactic| walk_at "bd") => `(tactic| ((try dsimp only); first
  | (simp only [List.length_drop, List.length_take, List.length_cons, List.length_nil, List.length_map, List.length_range, nvs_len]; first | omega | decide)
  | omega
  | decide
  | ((with_reducible show AllLt _ _); walk_at "al")
  | walk_at "lt"
  | exact fun _ _ => trivial
  | (refine leM ?_; walk_at "lt")
  | (refine leL ?_; walk_at "lt")
  | (refine ⟨?_, ?_⟩ <;> walk_at "bd")))
local macro_rules | `(tactic| walk_at "rd") => `(tactic| repeat (walk_at "r1"))
local macro_rules | `(tactic| walk_at "r1") => `(tactic| (first
  | refine ⟨_, rfl, ?_⟩
  | refine ⟨_, _, rfl, rfl, ?_⟩
  | refine ⟨_, _, _, rfl, rfl, ?_⟩
  | refine ⟨_, _, _, rfl, rfl, rfl, ?_⟩
  | refine ⟨_, _, rfl, rfl, rfl, ?_⟩
  | refine ⟨_, _, _, rfl, ?_⟩
  | refine ⟨_, _, rfl, ?_⟩
  | (refine And.intro ?c ?_; (case c => (with_reducible show _ = some _); walk_at "fa"))
  | (refine ⟨?ws, ?h, ?_⟩; (case h => (with_reducible show _ = some (HO.lst _)); walk_at "fa"))
  | (refine ⟨?ws, ?ks, ?h, ?g, ?_⟩; (case h => (with_reducible show _ = some (HO.lst _)); walk_at "fa"); (case g => (with_reducible show _ = some (HO.lst _)); walk_at "fa"))
  | (refine ⟨?ws, SqL.of ?h, ?_⟩; (case h => walk_at "fa"))
  | (refine And.intro ⟨?ws, SqL.of ?h⟩ ?_; (case h => walk_at "fa"))
  | (refine ⟨_, ?xs, rfl, SqL.of ?h, ?_⟩; (case h => walk_at "fa"))
  | (refine ⟨_, ?xs, rfl, Or.inl (SqL.of ?h), ?_⟩; (case h => walk_at "fa"))
  | (refine ⟨_, _, ?xs, ?ys, rfl, SqL.of ?h, SqL.of ?g, ?_⟩; (case h => walk_at "fa"); (case g => walk_at "fa"))
  | (refine And.intro (Or.inl ⟨rfl, ?xs, SqL.of ?h⟩) ?_; (case h => walk_at "fa"))
  | refine And.intro rfl ?_
  | refine And.intro (by walk_at "bd") ?_
  | (refine ⟨_, ?xs, _, ?v, rfl, rfl, SqL.of ?h, ?e, ?_⟩; (case h => walk_at "fa"); (case e => first | exact rfl | (refine nvs_get (at_get ?_); walk_at "bd")))
  | (refine ⟨_, ?xs, _, ?v, rfl, rfl, SqT.of ?h, ?e, ?_⟩; (case h => walk_at "fa"); (case e => exact rfl))
  | refine retV.nvs_drop ?_
  | refine retV.nvs_take ?_
  | refine retV.nvs_cut ?_
  | ((with_reducible show retL _ _ _); intro Hn pn sn nn hn)
  | rw [nvs_reverse]
  | refine fun (pn : Addr) (nn : _ = none) => ?_))
open Sz25 (at_ M L GOLD plus less)
theorem rowF_len (n c b : Nat) : (rowF n c b).length = c := by unfold rowF; rw [List.length_map, List.length_range]
theorem rowF_lt (n c b : Nat) : AllLt b (rowF n c b) := fun x hx => by
  unfold rowF at hx
  obtain ⟨i, _, rfl⟩ := List.mem_map.mp hx
  exact Nat.mod_lt _ (Nat.two_pow_pos _)
theorem nvs_snoc (l : List Nat) (x : Nat) : nvs l ++ [vn x] = nvs (l ++ [x]) := nvs_append l [x]
theorem line_of {n : Nat} (h : n < 1000) : n < sizeLine := Nat.lt_trans h (by decide)
/-- what is new -/
def Nw (H H' : Hp) : Hp := fun b => match H b with
  | none => H' b
  | some _ => none
theorem nw_get {H H' : Hp} {b : Addr} {o : HO} (n : H b = none) (h : H' b = some o) : Nw H H' b = some o := by
  unfold Nw
  rw [n]
  exact h
theorem nw_of {H H' : Hp} {b : Addr} {o : HO} (h : Nw H H' b = some o) : H b = none ∧ H' b = some o := by
  unfold Nw at h
  cases e : H b with
  | none => rw [e] at h; exact ⟨rfl, h⟩
  | some u => rw [e] at h; cases h
/-- what the spreads promise -/
def spSpread (n : Nat) (post : List Nat → Hp → Addr → Prop) : Sp := fun vs H Q _ => ∃ p, vs = [.ref p] ∧ ∃ key, H p = some (.lst (nvs key)) ∧ key.length = n ∧ AllLt 8 key ∧ ∀ H' c, Same H H' → post key (Nw H H') c → Q (.ref c) H'
def numI0 (key : List Nat) : Nat → Nat
  | 0 => numF 8 key
  | i + 1 => lft 128 (numI0 key i) 25
@[irreducible] def numI (key : List Nat) (i : Nat) : Nat := numI0 key i
theorem numI_z (key : List Nat) : numI key 0 = numF 8 key := by unfold numI; rfl
theorem numI_s (key : List Nat) (i : Nat) : numI key (i + 1) = lft 128 (numI key i) 25 := by
  unfold numI
  rfl
def keysI0 (key : List Nat) : Nat → List Nat
  | 0 => []
  | i + 1 => keysI0 key i ++ rowF (numI key i) 8 16
@[irreducible] def keysI (key : List Nat) (i : Nat) : List Nat := keysI0 key i
theorem keysI_z (key : List Nat) : keysI key 0 = [] := by unfold keysI; rfl
theorem keysI_s (key : List Nat) (i : Nat) : keysI key (i + 1) = keysI key i ++ rowF (numI key i) 8 16 := by
  unfold keysI
  rfl
theorem numI_lt {key : List Nat} (h : key.length = 16) (al : AllLt 8 key) : ∀ i, numI key i < 2 ^ 128
  | 0 => by rw [numI_z]; exact numF_lt 8 16 key h al
  | i + 1 => by rw [numI_s]; exact lft_lt (numI_lt h al i) (by decide)
theorem keysI_len (key : List Nat) : ∀ i, (keysI key i).length = 8 * i
  | 0 => by rw [keysI_z]; rfl
  | i + 1 => by
    rw [keysI_s, List.length_append, keysI_len key i, rowF_len]
    omega
theorem keysI_lt (key : List Nat) : ∀ i, AllLt 16 (keysI key i)
  | 0 => by rw [keysI_z]; exact .nil
  | i + 1 => by rw [keysI_s]; exact (keysI_lt key i).app (rowF_lt _ _ _)
@[irreducible] def ideaKeysM (key : List Nat) : List Nat := (keysI key 7).take 52
structure ISch (H : Hp) (c : Addr) (ks us : List Nat) : Prop where
  at_ : ∃ k1 k2, H c = some (.tup [.ref k1, .ref k2]) ∧ H k1 = some (.lst (nvs ks)) ∧ H k2 = some (.lst (nvs us))
  l1 : ks.length = 52
  l2 : us.length = 52
  a1 : AllLt 16 ks
  a2 : AllLt 16 us
def sumsM0 (k : List Nat) : Nat → List Nat
  | 0 => []
  | i + 1 => sumsM0 k i ++ [(i * GOLD % M + at_ k (i * GOLD % M % 4)) % M] ++ [((i + 1) * GOLD % M + at_ k ((i + 1) * GOLD % M / 2048 % 4)) % M]
@[irreducible] def sumsM (k : List Nat) (i : Nat) : List Nat := sumsM0 k i
theorem sumsM_z (k : List Nat) : sumsM k 0 = [] := by unfold sumsM; rfl
theorem sumsM_s (k : List Nat) (i : Nat) : sumsM k (i + 1) = sumsM k i ++ [(i * GOLD % M + at_ k (i * GOLD % M % 4)) % M] ++ [((i + 1) * GOLD % M + at_ k ((i + 1) * GOLD % M / 2048 % 4)) % M] := by
  unfold sumsM
  rfl
theorem sumsM_len (k : List Nat) : ∀ i, (sumsM k i).length = 2 * i
  | 0 => by rw [sumsM_z]; rfl
  | i + 1 => by
    rw [sumsM_s, List.length_append, List.length_append, sumsM_len k i]
    simp only [List.length_cons, List.length_nil]
    omega
theorem sumsM_lt (k : List Nat) : ∀ i, AllLt 32 (sumsM k i)
  | 0 => by rw [sumsM_z]; exact .nil
  | i + 1 => by rw [sumsM_s]; exact ((sumsM_lt k i).app (.cons (Nat.mod_lt _ (by decide)) .nil)).app (.cons (Nat.mod_lt _ (by decide)) .nil)
def skW0 (w : List Nat) : Nat → List Nat
  | 0 => w
  | i + 1 => speckM (skW0 w i) i
@[irreducible] def skW (w : List Nat) (i : Nat) : List Nat := skW0 w i
theorem skW_z (w : List Nat) : skW w 0 = w := by unfold skW; rfl
theorem skW_s (w : List Nat) (i : Nat) : skW w (i + 1) = speckM (skW w i) i := by
  unfold skW
  rfl
def skK0 (w : List Nat) : Nat → List Nat
  | 0 => [at_ w 0]
  | i + 1 => skK0 w i ++ [at_ (skW w (i + 1)) 0]
@[irreducible] def skK (w : List Nat) (i : Nat) : List Nat := skK0 w i
theorem skK_z (w : List Nat) : skK w 0 = [at_ w 0] := by unfold skK; rfl
theorem skK_s (w : List Nat) (i : Nat) : skK w (i + 1) = skK w i ++ [at_ (skW w (i + 1)) 0] := by
  unfold skK
  rfl
theorem skW_ok {w : List Nat} (h : Ok2 64 w) : ∀ i, i ≤ 31 → Ok2 64 (skW w i)
  | 0, _ => by rw [skW_z]; exact h
  | i + 1, hi => by rw [skW_s]; exact speckM_ok _ _ (Nat.lt_trans (show i < 31 by omega) (by decide)) (skW_ok h i (by omega))
theorem skK_len (w : List Nat) : ∀ i, (skK w i).length = i + 1
  | 0 => by rw [skK_z]; rfl
  | i + 1 => by
    rw [skK_s, List.length_append, skK_len w i] <;> rfl
theorem skK_lt {w : List Nat} (h : Ok2 64 w) : ∀ i, i ≤ 31 → AllLt 64 (skK w i)
  | 0, _ => by rw [skK_z]; exact .cons (at_lt h.2) .nil
  | i + 1, hi => by rw [skK_s]; exact (skK_lt h i (by omega)).app (.cons (at_lt (skW_ok h (i + 1) hi).2) .nil)
section
variable {P : Program} {w : World} {K : PySem.W.Frag} {mg : Str → Option Value} {base : Heap} {a : Ad}
theorem ok_idea_spread (T : Txt K mg a) : FnOk P w K mg base CX0 4 a.f_idea_spread a.d_idea_spread ["key"] (spSpread 16 fun key H c => ISch H c (ideaKeysM key) (undoM (ideaKeysM key) 52)) := by
  refine T.idea_spread.F.ok sc_idea_spread (fun vs H Q E h => ?_) (fun cdv A outer s H vs Q E hr h => ?_)
  · obtain ⟨_, rfl, _⟩ := h
    rfl
  · skip
    have G_idea_undoing := ok_idea_undoing (P := P) (w := w) (base := base) T
    have G_turned_left := ok_turned_left (P := P) (w := w) (base := base) T
    have G_row_from := ok_row_from (P := P) (w := w) (base := base) T
    have G_number_from := ok_number_from (P := P) (w := w) (base := base) T
    obtain ⟨p, rfl, key, hp, ln, ak, q⟩ := h
    refine ⟨_, pss_cons (ps_set (i := 1) sc_idea_spread.nd rfl (by first | exact Or.inl rfl | exact Or.inr rfl) (T.number_from.call G_number_from (hr.mono (by decide)) (pa_cons (pv 0) (pa_cons (pe_nat 8) pa_nil))))
      (pss_cons (ps_set (i := 2) sc_idea_spread.nd rfl (by first | exact Or.inl rfl | exact Or.inr rfl) (pe_lst pa_nil))
      (pss_cons (ps_while PassesOwn.never (pt_cmpR op_ltI (pe_callB call_len_seq rfl T.n_len PySem.boot_len (pa_cons (pv 2) pa_nil)) (pe_nat 52) (nomark _)) (pss_cons (ps_expr (pe_bm PySem.F.plainAttrs_list PySem.F.slot_list_extend PySem.F.type_list_extend mt_extend (pv 2) (pa_cons (T.row_from.call G_row_from (hr.mono (by decide)) (pa_cons (pv 1) (pa_cons (pe_nat 8) (pa_cons (pe_nat 16) pa_nil)))) pa_nil)))
      (pss_one (ps_set (i := 1) sc_idea_spread.nd rfl (by first | exact Or.inl rfl | exact Or.inr rfl) (T.turned_left.call G_turned_left (hr.mono (by decide)) (pa_cons (pv 1) (pa_cons (pe_nat 25) (pa_cons (pe_nat 128) pa_nil))))))))
      (pss_cons (ps_set (i := 2) sc_idea_spread.nd rfl (by first | exact Or.inl rfl | exact Or.inr rfl) (pe_slice sl_j (pv 2) po_none (po_some (pe_nat 52))))
      (pss_one (ps_ret (pe_tup (pa_cons (pv 2) (pa_cons (T.idea_undoing.call G_idea_undoing (hr.mono (by decide)) (pa_cons (pv 2) pa_nil)) pa_nil)))))))), ?_⟩
    walk_at "rd"
    rename_i p1 n1
    have q : ∀ H' c, Same H H' → ISch (Nw H H') c (ideaKeysM key) (undoM (ideaKeysM key) 52) → Q (.ref c) H' := q
    refine ⟨fun m σ H' => Hold (∃ i, i ≤ 7 ∧ m = 7 - i ∧ σ = [some (.ref p), some (vn (numI key i)), some (.ref p1)] ∧ Same H H' ∧ H' p1 = some (.lst (nvs (keysI key i)))), ⟨7, .mk ⟨0, by omega, rfl, by rw [numI_z]; rfl, Same.upd n1, by rw [upd_same, keysI_z]; rfl⟩⟩, ?_⟩
    intro m σ H' z
    obtain ⟨i, hi, rfl, rfl, s1, h1⟩ := z.out
    have hn := numI_lt ln ak i
    have kl := keysI_len key i
    walk_at "rd"
    refine ite2 (fun hd => ?_) (fun hd => ?_)
    · have hd := of_decide_eq_true hd
      dsimp only at hd
      rw [nvs_len, kl] at hd
      refine ⟨fun σ' H' => Hold (σ' = [some (.ref p), some (vn (numI key (i + 1))), some (.ref p1)] ∧ Same H H' ∧ H' p1 = some (.lst (nvs (keysI key (i + 1))))), fun σ' H' z => ?_, ?_⟩
      · obtain ⟨rfl, s2, h2⟩ := z.out
        exact ⟨7 - (i + 1), by omega, .mk ⟨i + 1, by omega, rfl, rfl, s2, h2⟩⟩
      · walk_at "rd"
        rename_i H2 p2 s2 n2 h2
        refine ⟨_, _, _, _, rfl, rfl, s2 _ _ h1, h2, ?_, ?_⟩
        · rw [nvs_len, nvs_len, kl, rowF_len]
          exact Nat.le_of_lt (line_of (by omega))
        · walk_at "rd"
          have e : keysI key (i + 1) = keysI key i ++ rowF (numI key i) 8 16 := by rw [keysI_s]
          have e2 : numI key (i + 1) = lft 128 (numI key i) 25 := by rw [numI_s]
          exact .mk ⟨by rw [e2]; rfl, (s1.trans s2).over n1, by rw [upd_same, nvs_append, e]⟩
    · have hd := of_decide_eq_false (eq_false_of_ne_true hd)
      dsimp only at hd
      rw [nvs_len, kl] at hd
      have e7 : i = 7 := by omega
      subst e7
      have kt : ((keysI key 7).take 52).length = 52 := by rw [List.length_take, kl]; rfl
      have ka : AllLt 16 ((keysI key 7).take 52) := (keysI_lt key 7).take
      have ek : ideaKeysM key = (keysI key 7).take 52 := by unfold ideaKeysM; rfl
      rw [ek] at q
      have lu := undoM_len ((keysI key 7).take 52) 52
      have au := undoM_ok ka 52
      walk_at "rd"
      exact q _ _ (by walk_at "sm") ⟨⟨_, _, nw_get (by walk_at "nn") upd_same, nw_get (by walk_at "nn") (by walk_at "fa"), nw_get (by walk_at "nn") (by walk_at "fa")⟩, kt, lu.trans kt, ka, au⟩
theorem ok_xtea_spread (T : Txt K mg a) : FnOk P w K mg base CX0 3 a.f_xtea_spread a.d_xtea_spread ["key"] (spSpread 16 fun key H c => H c = some (.lst (nvs (sumsM (hfM key 8 32) 32)))) := by
  refine T.xtea_spread.F.ok sc_xtea_spread (fun vs H Q E h => ?_) (fun cdv A outer s H vs Q E hr h => ?_)
  · obtain ⟨_, rfl, _⟩ := h
    rfl
  · skip
    have G_highest_first := ok_highest_first (P := P) (w := w) (base := base) T
    obtain ⟨p, rfl, key, hp, ln, ak, q⟩ := h
    refine ⟨_, pss_cons (ps_set (i := 1) sc_xtea_spread.nd rfl (by first | exact Or.inl rfl | exact Or.inr rfl) (T.highest_first.call G_highest_first (hr.mono (by decide)) (pa_cons (pv 0) (pa_cons (pe_nat 8) (pa_cons (pe_nat 32) pa_nil)))))
      (pss_cons (ps_set (i := 2) sc_xtea_spread.nd rfl (by first | exact Or.inl rfl | exact Or.inr rfl) (pe_lst pa_nil))
      (pss_cons (ps_for PassesOwn.never rfl (pi_range1 rfl T.n_range (pa_cons (pe_nat 32) pa_nil)) (pg_name (i := 3) sc_xtea_spread.nd rfl (by first | exact Or.inl rfl | exact Or.inr rfl)) (pss_cons (ps_set (i := 4) sc_xtea_spread.nd rfl (by first | exact Or.inl rfl | exact Or.inr rfl) (pe_op op_modN' (pe_op op_mulN (pv 3) (pc T.c_GOLDEN)) (pc T.c_TWO_32)))
      (pss_cons (ps_expr (pe_bm PySem.F.plainAttrs_list PySem.F.slot_list_append PySem.F.type_list_append mt_append (pv 2) (pa_cons (pe_op op_modN' (pe_op op_addN (pv 4) (pe_ix ix_listN (pv 1) (pe_op op_modN' (pv 4) (pe_nat 4)) (fun _ _ => rfl))) (pc T.c_TWO_32)) pa_nil)))
      (pss_cons (ps_set (i := 4) sc_xtea_spread.nd rfl (by first | exact Or.inl rfl | exact Or.inr rfl) (pe_op op_modN' (pe_op op_mulN (pe_op op_addN (pv 3) (pe_nat 1)) (pc T.c_GOLDEN)) (pc T.c_TWO_32)))
      (pss_one (ps_expr (pe_bm PySem.F.plainAttrs_list PySem.F.slot_list_append PySem.F.type_list_append mt_append (pv 2) (pa_cons (pe_op op_modN' (pe_op op_addN (pv 4) (pe_ix ix_listN (pv 1) (pe_op op_modN' (pe_op op_divN' (pv 4) (pe_nat 2048)) (pe_nat 4)) (fun _ _ => rfl))) (pc T.c_TWO_32)) pa_nil))))))))
      (pss_one (ps_ret (pv 2))))), ?_⟩
    walk_at "rd"
    rename_i H1 p1 s1 n1 h1 p2 n2
    have q : ∀ H' c, Same H H' → Nw H H' c = some (.lst (nvs (sumsM (hfM key 8 32) 32))) → Q (.ref c) H' := q
    have l1 : (hfM key 8 32).length = 4 := by unfold hfM; rw [rowF_len, ln]
    generalize hfM key 8 32 = ks at h1 l1 q
    refine for_rangeN (lo := 0) (n := 32) (fun i σ H' => Hold (∃ u u2, σ = [some (.ref p), some (.ref p1), some (.ref p2), u, u2] ∧ Same H1 H' ∧ H' p2 = some (.lst (nvs (sumsM ks i))))) (.mk ⟨none, none, rfl, Same.upd n2, by rw [upd_same, sumsM_z]; rfl⟩) ?_ ?_
    · intro i σ H' hi z
      obtain ⟨u, u2, rfl, s3, h3⟩ := z.out
      have h1' := s3 _ _ h1
      have sl := sumsM_len ks i
      have e : sumsM ks (i + 1) = sumsM ks i ++ [(i * GOLD % M + at_ ks (i * GOLD % M % 4)) % M] ++ [((i + 1) * GOLD % M + at_ ks ((i + 1) * GOLD % M / 2048 % 4)) % M] := by rw [sumsM_s]
      generalize sumsM ks i = v at h3 sl e
      have b1 : i * GOLD % M % 4 < ks.length := by rw [l1]; exact Nat.mod_lt _ (by decide)
      have b2 : (i + 1) * GOLD % M / 2048 % 4 < ks.length := by rw [l1]; exact Nat.mod_lt _ (by decide)
      rw [Nat.zero_add]
      walk_at "rd"
      refine ⟨_, _, _, rfl, rfl, h3, line_of (by rw [nvs_len]; omega), ?_⟩
      have h5 : (upd H' p2 (.lst (nvs v ++ [vn ((i * GOLD % M + at_ ks (i * GOLD % M % 4)) % M)]))) p2 = some (.lst (nvs (v ++ [(i * GOLD % M + at_ ks (i * GOLD % M % 4)) % M]))) := by rw [upd_same, nvs_snoc]
      have s5 : Same H1 (upd H' p2 (.lst (nvs v ++ [vn ((i * GOLD % M + at_ ks (i * GOLD % M % 4)) % M)]))) := s3.over n2
      generalize upd H' p2 (.lst (nvs v ++ [vn ((i * GOLD % M + at_ ks (i * GOLD % M % 4)) % M)])) = H5 at h5 s5
      have h1'' := s5 _ _ h1
      walk_at "rd"
      refine ⟨_, _, _, rfl, rfl, h5, line_of (by rw [nvs_len, List.length_append, List.length_singleton]; omega), ?_⟩
      exact .mk ⟨_, _, rfl, s5.over n2, by rw [upd_same, e, nvs_snoc]⟩
    · intro σ H' z
      obtain ⟨u, u2, rfl, s3, h3⟩ := z.out
      walk_at "rd"
      exact q _ _ (s1.trans s3) (nw_get (s1.free n2) h3)
theorem ok_speck_spread (T : Txt K mg a) : FnOk P w K mg base CX0 4 a.f_speck_spread a.d_speck_spread ["key"] (spSpread 16 fun key H c => H c = some (.lst (nvs (skK (hfM key.reverse 8 64).reverse 31)))) := by
  refine T.speck_spread.F.ok sc_speck_spread (fun vs H Q E h => ?_) (fun cdv A outer s H vs Q E hr h => ?_)
  · obtain ⟨_, rfl, _⟩ := h
    rfl
  · skip
    have G_speck_round := ok_speck_round (P := P) (w := w) (base := base) T
    have G_lowest_first := ok_lowest_first (P := P) (w := w) (base := base) T
    obtain ⟨p, rfl, key, hp, ln, ak, q⟩ := h
    refine ⟨_, pss_cons (ps_set (i := 1) sc_speck_spread.nd rfl (by first | exact Or.inl rfl | exact Or.inr rfl) (T.lowest_first.call G_lowest_first (hr.mono (by decide)) (pa_cons (pv 0) (pa_cons (pe_nat 8) (pa_cons (pe_nat 64) pa_nil)))))
      (pss_cons (ps_set (i := 2) sc_speck_spread.nd rfl (by first | exact Or.inl rfl | exact Or.inr rfl) (pe_lst (pa_cons (pe_ix ix_listN (pv 1) (pe_nat 0) (fun _ _ => rfl)) pa_nil)))
      (pss_cons (ps_for PassesOwn.never rfl (pi_range1 rfl T.n_range (pa_cons (pe_nat 31) pa_nil)) (pg_name (i := 3) sc_speck_spread.nd rfl (by first | exact Or.inl rfl | exact Or.inr rfl)) (pss_cons (ps_set (i := 1) sc_speck_spread.nd rfl (by first | exact Or.inl rfl | exact Or.inr rfl) (T.speck_round.call G_speck_round (hr.mono (by decide)) (pa_cons (pv 1) (pa_cons (pv 3) pa_nil))))
      (pss_one (ps_expr (pe_bm PySem.F.plainAttrs_list PySem.F.slot_list_append PySem.F.type_list_append mt_append (pv 2) (pa_cons (pe_ix ix_listN (pv 1) (pe_nat 0) (fun _ _ => rfl)) pa_nil))))))
      (pss_one (ps_ret (pv 2))))), ?_⟩
    walk_at "rd"
    rename_i H1 p1 s1 n1 h1
    have q : ∀ H' c, Same H H' → Nw H H' c = some (.lst (nvs (skK (hfM key.reverse 8 64).reverse 31))) → Q (.ref c) H' := q
    have l1 : (hfM key.reverse 8 64).reverse.length = 2 := by unfold hfM; rw [List.length_reverse, rowF_len, List.length_reverse, ln]
    have a1 : AllLt 64 (hfM key.reverse 8 64).reverse := (rowF_lt _ _ _).rev
    generalize (hfM key.reverse 8 64).reverse = ws at h1 l1 a1 q
    walk_at "rd"
    rename_i p2 n2
    refine for_rangeN (lo := 0) (n := 31) (fun i σ H' => Hold (∃ p' u, σ = [some (.ref p), some (.ref p'), some (.ref p2), u] ∧ Same H1 H' ∧ H' p' = some (.lst (nvs (skW ws i))) ∧ H' p2 = some (.lst (nvs (skK ws i))))) (.mk ⟨p1, none, rfl, Same.upd n2, by rw [skW_z]; exact Same.upd n2 _ _ h1, by rw [upd_same, skK_z]; rfl⟩) ?_ ?_
    · intro i σ H' hi z
      obtain ⟨p', u, rfl, s3, h3, h4⟩ := z.out
      have o := skW_ok ⟨l1, a1⟩ i (by omega)
      have o2 := skW_ok ⟨l1, a1⟩ (i + 1) (by omega)
      have kl := skK_len ws i
      have e : skK ws (i + 1) = skK ws i ++ [at_ (skW ws (i + 1)) 0] := by rw [skK_s]
      have e2 : skW ws (i + 1) = speckM (skW ws i) i := by rw [skW_s]
      obtain ⟨l3, a3⟩ := o
      rw [Nat.zero_add]
      walk_at "rd"
      rename_i H5 p5 s5 n5 h5
      rw [← e2] at h5
      obtain ⟨l4, a4⟩ := o2
      walk_at "rd"
      refine ⟨_, _, _, rfl, rfl, s5 _ _ h4, line_of (by rw [nvs_len]; omega), ?_⟩
      have ne : p5 ≠ p2 := fun z => by rw [z, h4] at n5; cases n5
      exact .mk ⟨_, _, rfl, (s3.trans s5).over n2, by rw [upd_ne ne]; exact h5, by rw [upd_same, e, nvs_snoc, e2]; rfl⟩
    · intro σ H' z
      obtain ⟨p', u, rfl, s3, h3, h4⟩ := z.out
      walk_at "rd"
      exact q _ _ (s1.trans s3) (nw_get (s1.free n2) h4)
end
end Sx
end
section
namespace L2
open PySem
theorem upd_get {H : Hp} {p q : Addr} {o u : HO} (ne : q ≠ p) (h : H q = some u) : upd H p o q = some u := by rw [upd_ne ne]; exact h
end L2
set_option Elab.async false
set_option linter.all false
set_option maxRecDepth 100000
set_option maxHeartbeats 2000000
set_option exponentiation.threshold 2000
namespace Sx
open PySem PySem.Spec PyProof.Rows L2
local macro_rules | `(tactic| walk_at "fa") => `(tactic| (first
  | assumption
  | exact upd_same
  | (refine upd_get ?n ?g; (case n => assumption); (case g => walk_at "fa"))
  | (refine Same.use (Same.upd ?n) ?g; (case n => assumption); (case g => walk_at "fa"))
  | (refine Same.use (H := ?m) ?s ?g; (case s => assumption); (case g => walk_at "fa"))))
local macro_rules | `(tactic| walk_at "sm") => `(tactic| (first
  | assumption
  | exact Same.refl _
  | (refine Same.after (Same.upd ?n) ?g; (case n => assumption); (case g => walk_at "sm"))
  | (refine Same.after (H1 := ?m) ?s ?g; (case s => assumption); (case g => walk_at "sm"))))
local macro_rules | `(tactic| walk_at "nn") => `(tactic| (first
  | assumption
  | (refine Same.free (H' := ?m) ?s ?n; (case n => assumption); (case s => walk_at "sm"))))
local macro_rules | `(tactic| walk_at "lt") => `(tactic| (first
  | assumption
  | omega
  | exact Nat.mod_lt _ (by decide)
  | (refine at_lt ?_; walk_at "al")
  | exact mlt_lt _ _
  | exact sqd_lt
  | (refine Nat.xor_lt_two_pow ?_ ?_ <;> walk_at "lt")
  | (refine lft_lt ?_ (by decide); walk_at "lt")
  | (refine rgt_lt ?_ (by decide); walk_at "lt")
  | (refine lt64_of16 ?_; walk_at "lt")))
local macro_rules | `(tactic| walk_at "al") => `(tactic| (first
  | assumption
  | exact AllLt.nil
  | (refine AllLt.cons ?_ ?_; (walk_at "lt"); (walk_at "al"))
  | (refine AllLt.drop ?_; walk_at "al")
  | (refine AllLt.take ?_; walk_at "al")))
local macro_rules | `(tactic| walk_at "bd") => `(tactic| ((try dsimp only); first
  | (simp only [List.length_drop, List.length_take, List.length_cons, List.length_nil, List.length_map, List.length_range, nvs_len]; first | omega | decide)
  | omega
  | decide
  | ((with_reducible show AllLt _ _); walk_at "al")
  | walk_at "lt"
  | exact fun _ _ => trivial
  | (refine leM ?_; walk_at "lt")
  | (refine leL ?_; walk_at "lt")
  | (refine ⟨?_, ?_⟩ <;> walk_at "bd")))
local macro_rules | `(tactic| walk_at "rd") => `(tactic| repeat (walk_at "r1"))
local macro_rules | `(tactic| walk_at "r1") => `(tactic| (first
  | refine ⟨_, rfl, ?_⟩
  | refine ⟨_, _, rfl, rfl, ?_⟩
  | refine ⟨_, _, _, rfl, rfl, ?_⟩
  | refine ⟨_, _, _, rfl, rfl, rfl, ?_⟩
  | refine ⟨_, _, rfl, rfl, rfl, ?_⟩
  | refine ⟨_, _, _, rfl, ?_⟩
  | refine ⟨_, _, rfl, ?_⟩
  | (refine And.intro ?c ?_; (case c => (with_reducible show _ = some _); walk_at "fa"))
  | (refine ⟨?ws, ?h, ?_⟩; (case h => (with_reducible show _ = some (HO.lst _)); walk_at "fa"))
  | (refine ⟨?ws, ?ks, ?h, ?g, ?_⟩; (case h => (with_reducible show _ = some (HO.lst _)); walk_at "fa"); (case g => (with_reducible show _ = some (HO.lst _)); walk_at "fa"))
  | (refine ⟨?ws, SqL.of ?h, ?_⟩; (case h => walk_at "fa"))
  | (refine And.intro ⟨?ws, SqL.of ?h⟩ ?_; (case h => walk_at "fa"))
  | (refine ⟨_, ?xs, rfl, SqL.of ?h, ?_⟩; (case h => walk_at "fa"))
  | (refine ⟨_, ?xs, rfl, Or.inl (SqL.of ?h), ?_⟩; (case h => walk_at "fa"))
  | (refine ⟨_, _, ?xs, ?ys, rfl, SqL.of ?h, SqL.of ?g, ?_⟩; (case h => walk_at "fa"); (case g => walk_at "fa"))
  | (refine And.intro (Or.inl ⟨rfl, ?xs, SqL.of ?h⟩) ?_; (case h => walk_at "fa"))
  | refine And.intro rfl ?_
  | refine And.intro (by walk_at "bd") ?_
  | (refine ⟨_, ?xs, _, ?v, rfl, rfl, SqL.of ?h, ?e, ?_⟩; (case h => walk_at "fa"); (case e => first | exact rfl | (refine nvs_get (at_get ?_); walk_at "bd")))
  | (refine ⟨_, ?xs, _, ?v, rfl, rfl, SqT.of ?h, ?e, ?_⟩; (case h => walk_at "fa"); (case e => exact rfl))
  | refine retV.nvs_drop ?_
  | refine retV.nvs_take ?_
  | refine retV.nvs_cut ?_
  | ((with_reducible show retL _ _ _); intro Hn pn sn nn hn)
  | rw [nvs_reverse]
  | refine fun (pn : Addr) (nn : _ = none) => ?_))
open Sz25 (at_ M L GOLD plus less)
theorem ix_nat {n j : Nat} (h : j < n) : ixN n (j : Int) = some j := by
  unfold ixN
  rw [if_pos (by omega), if_pos (by omega)]
  simp
theorem lc_endR {J : It} {g : TG} {te : TE} {vs : List Nat} {σ : L2.St} {H1 : Hp} {R : Hp → Prop} {D : Addr} (n : Nat) (f : Nat → V) (hD : H1 D = none) (hn : n ≤ sizeLine)
    (hgo : ∀ i H', i < n → Same H1 H' → J.go i H') (hst : ∀ H', Same H1 H' → J.stop n H')
    (hstep : ∀ i x H' H'' Qp, i < n → Same H1 H' → J.yld i H' x H'' → (∀ H4, Same H' H4 → Qp (f i) H4) → g x (wipe σ vs) H'' fun σ2 H2 => wipe σ2 vs = wipe σ vs ∧ te σ2 H2 Qp)
    (k : ∀ H', Same H1 H' → H' D = some (.lst ((List.range n).map f)) → R H') :
    ∃ W : Nat → Nat → Hp → Prop, (∃ m, W 0 m (upd H1 D (.lst []))) ∧ ∀ i m H, W i m H →
      (J.stop i H ∧ R H) ∨ (J.go i H ∧ ∃ Nx : Hp → Prop, (∀ H', Nx H' → ∃ m', m' < m ∧ W (i + 1) m' H') ∧ ∀ x H', J.yld i H x H' → g x (wipe σ vs) H' fun σ2 H2 => wipe σ2 vs = wipe σ vs ∧ tYes σ2 H2 fun b H3 =>
        if b = true then te σ2 H3 fun y H4 => ∃ acc, H4 D = some (.lst acc) ∧ acc.length < sizeLine ∧ Nx (upd H4 D (.lst (acc ++ [y]))) else Nx H3) :=
  lc_end (Q := fun _ H => R H) n f hD hn hgo hst hstep k
abbrev Q4 := List Nat × List Nat × Nat × Nat
def rcF (t : Nat) (x : Q4) (n : Nat) : Q4 :=
  (x.1.set (n % t) (lft 32 ((at_ x.1 (n % t) + x.2.2.1 + x.2.2.2) % M) 3),
   x.2.1.set (n % 4) (lft 32 ((at_ x.2.1 (n % 4) + lft 32 ((at_ x.1 (n % t) + x.2.2.1 + x.2.2.2) % M) 3 + x.2.2.2) % M) (lft 32 ((at_ x.1 (n % t) + x.2.2.1 + x.2.2.2) % M) 3 + x.2.2.2)),
   lft 32 ((at_ x.1 (n % t) + x.2.2.1 + x.2.2.2) % M) 3,
   lft 32 ((at_ x.2.1 (n % 4) + lft 32 ((at_ x.1 (n % t) + x.2.2.1 + x.2.2.2) % M) 3 + x.2.2.2) % M) (lft 32 ((at_ x.1 (n % t) + x.2.2.1 + x.2.2.2) % M) 3 + x.2.2.2))
@[irreducible] def rcS0 (t : Nat) : List Nat := (List.range t).map fun i => (3084996963 + i * GOLD) % M
@[irreducible] def rcX (t : Nat) (l : List Nat) (n : Nat) : Q4 := (List.range n).foldl (rcF t) (rcS0 t, l, 0, 0)
theorem rcX_z (t : Nat) (l : List Nat) : rcX t l 0 = (rcS0 t, l, 0, 0) := by unfold rcX; rfl
theorem rcX_s (t : Nat) (l : List Nat) (n : Nat) : rcX t l (n + 1) = rcF t (rcX t l n) n := by unfold rcX; exact foldl_range_succ _ _ _
structure RcOk (t : Nat) (x : Q4) : Prop where
  l1 : x.1.length = t
  l2 : x.2.1.length = 4
  a1 : AllLt 32 x.1
theorem rcS0_len (t : Nat) : (rcS0 t).length = t := by unfold rcS0; rw [List.length_map, List.length_range]
theorem rcX_ok {t : Nat} {l : List Nat} (h : l.length = 4) : ∀ n, RcOk t (rcX t l n)
  | 0 => by
    rw [rcX_z]
    refine ⟨rcS0_len t, h, fun x hx => ?_⟩
    have hx : x ∈ rcS0 t := hx
    unfold rcS0 at hx
    obtain ⟨i, _, rfl⟩ := List.mem_map.mp hx
    exact Nat.mod_lt _ (by decide)
  | n + 1 => by
    have ih := rcX_ok (t := t) h n
    rw [rcX_s]
    exact ⟨by show (List.set _ _ _).length = t; rw [List.length_set]; exact ih.l1, by show (List.set _ _ _).length = 4; rw [List.length_set]; exact ih.l2, ih.a1.set (lft_lt (Nat.mod_lt _ (by decide)) (by decide))⟩
def spRc : Sp := fun vs H Q _ => ∃ p t, vs = [.ref p, vn t] ∧ ∃ key, H p = some (.lst (nvs key)) ∧ key.length = 16 ∧ AllLt 8 key ∧ 0 < t ∧ t ≤ 64 ∧ ∀ H' c, Same H H' → Nw H H' c = some (.lst (nvs (rcX t (hfM key.reverse 8 32).reverse (3 * t)).1)) → Q (.ref c) H'
section
variable {P : Program} {w : World} {K : PySem.W.Frag} {mg : Str → Option Value} {base : Heap} {a : Ad}
theorem ok_rc_spread (T : Txt K mg a) : FnOk P w K mg base CX0 4 a.f_rc_spread a.d_rc_spread ["key", "t"] spRc := by
  refine T.rc_spread.F.ok sc_rc_spread (fun vs H Q E h => ?_) (fun cdv A outer s H vs Q E hr h => ?_)
  · obtain ⟨_, _, rfl, _⟩ := h
    rfl
  · skip
    have G_turned_left := ok_turned_left (P := P) (w := w) (base := base) T
    have G_lowest_first := ok_lowest_first (P := P) (w := w) (base := base) T
    obtain ⟨p, t, rfl, key, hp, ln, ak, t0, t1, q⟩ := h
    refine ⟨_, pss_cons (ps_setLc (i := 2) rfl sc_rc_spread.nd rfl rfl rfl (pi_range1 rfl T.n_range (pa_cons (pv 1) pa_nil)) (blkOk_by (N := ["key", "t", "s", "key_words", "a", "b", "n", "i"]) (sc := defScope s_rc_spread) (own := [("i", 7)]) (by decide +kernel)) (fun _ _ _ _ _ => (pg_name (i := 7) sc_rc_spread.nd rfl (by first | exact Or.inl rfl | exact Or.inr rfl))) (fun _ _ _ _ _ => pts_nil) (fun _ _ _ _ _ => (pe_op op_modN' (pe_op op_addN (pe_nat 3084996963) (pe_op op_mulN (pv 7) (pc T.c_GOLDEN))) (pc T.c_TWO_32))))
      (pss_cons (ps_set (i := 3) sc_rc_spread.nd rfl (by first | exact Or.inl rfl | exact Or.inr rfl) (T.lowest_first.call G_lowest_first (hr.mono (by decide)) (pa_cons (pv 0) (pa_cons (pe_nat 8) (pa_cons (pe_nat 32) pa_nil)))))
      (pss_cons (ps_set (i := 4) sc_rc_spread.nd rfl (by first | exact Or.inl rfl | exact Or.inr rfl) (pe_nat 0))
      (pss_cons (ps_set (i := 5) sc_rc_spread.nd rfl (by first | exact Or.inl rfl | exact Or.inr rfl) (pe_nat 0))
      (pss_cons (ps_for PassesOwn.never rfl (pi_range1 rfl T.n_range (pa_cons (pe_op op_mulN (pe_nat 3) (pv 1)) pa_nil)) (pg_name (i := 6) sc_rc_spread.nd rfl (by first | exact Or.inl rfl | exact Or.inr rfl)) (pss_cons (ps_set (i := 4) sc_rc_spread.nd rfl (by first | exact Or.inl rfl | exact Or.inr rfl) (T.turned_left.call G_turned_left (hr.mono (by decide)) (pa_cons (pe_op op_modN' (pe_op op_addN (pe_op op_addN (pe_ix ix_listN (pv 2) (pe_op op_modN' (pv 6) (pv 1)) (fun _ _ => rfl)) (pv 4)) (pv 5)) (pc T.c_TWO_32)) (pa_cons (pe_nat 3) (pa_cons (pe_nat 32) pa_nil)))))
      (pss_cons (ps_asg (pv 4) (pg_sub (pv 2) (pe_op op_modN' (pv 6) (pv 1)) set_list))
      (pss_cons (ps_set (i := 5) sc_rc_spread.nd rfl (by first | exact Or.inl rfl | exact Or.inr rfl) (T.turned_left.call G_turned_left (hr.mono (by decide)) (pa_cons (pe_op op_modN' (pe_op op_addN (pe_op op_addN (pe_ix ix_listN (pv 3) (pe_op op_modN' (pv 6) (pe_nat 4)) (fun _ _ => rfl)) (pv 4)) (pv 5)) (pc T.c_TWO_32)) (pa_cons (pe_op op_addN (pv 4) (pv 5)) (pa_cons (pe_nat 32) pa_nil)))))
      (pss_one (ps_asg (pv 5) (pg_sub (pv 3) (pe_op op_modN' (pv 6) (pe_nat 4)) set_list)))))))
      (pss_one (ps_ret (pv 2))))))), ?_⟩
    walk_at "rd"
    rename_i ps ns
    refine lc_endR (J := Itr 0 t) t (fun i => vn ((3084996963 + i * GOLD) % M)) ns (Nat.le_trans t1 (by decide)) (fun i H' hi _ => hi) (fun H' _ => Nat.le_refl _) ?_ ?_
    · rintro i x H' H'' Qp hi s1 ⟨rfl, rfl⟩ k
      have e4 : (0 : Int) + (i : Nat) = ((i : Nat) : Int) := by omega
      rw [e4]
      walk_at "rd"
      exact k _ (Same.refl _)
    · intro H1 s1 h1
      have h1 : H1 ps = some (.lst (nvs (rcS0 t))) := by
        rw [h1]
        unfold rcS0 nvs
        rw [List.map_map]
        rfl
      have hp1 := s1 _ _ hp
      walk_at "rd"
      rename_i H2 pk s2 nk hk
      have l1 : (hfM key.reverse 8 32).reverse.length = 4 := by unfold hfM; rw [List.length_reverse, rowF_len, List.length_reverse, ln]
      generalize (hfM key.reverse 8 32).reverse = l at hk l1 q
      have ne : ps ≠ pk := fun z => by rw [← z, h1] at nk; cases nk
      have ne2 := ne.symm
      have nk0 : H pk = none := s1.free nk
      refine for_rangeN (lo := 0) (n := 3 * t) (fun i σ H' => Hold (∃ u u2, σ = [some (.ref p), some (vn t), some (.ref ps), some (.ref pk), some (vn (rcX t l i).2.2.1), some (vn (rcX t l i).2.2.2), u, u2] ∧ Same H H' ∧ H' ps = some (.lst (nvs (rcX t l i).1)) ∧ H' pk = some (.lst (nvs (rcX t l i).2.1)))) (.mk ⟨none, none, by rw [rcX_z]; rfl, s1.trans s2, by rw [rcX_z]; exact s2 _ _ h1, by rw [rcX_z]; exact hk⟩) ?_ ?_
      · intro n σ H' hn z
        obtain ⟨u, u2, rfl, s3, h3, h4⟩ := z.out
        have o := rcX_ok (t := t) l1 n
        have e := rcX_s t l n
        generalize rcX t l n = x at h3 h4 o e
        obtain ⟨s, kl, A0, B0⟩ := x
        obtain ⟨o1, o2, o3⟩ := o
        have o1 : s.length = t := o1
        have o2 : kl.length = 4 := o2
        have b1 : n % t < s.length := by rw [o1]; exact Nat.mod_lt _ t0
        have b2 : n % 4 < kl.length := by rw [o2]; exact Nat.mod_lt _ (by decide)
        have h3 : H' ps = some (.lst (nvs s)) := h3
        have h4 : H' pk = some (.lst (nvs kl)) := h4
        rw [Nat.zero_add]
        walk_at "rd"
        refine ⟨_, _, _, n % t, rfl, rfl, h3, ix_nat (by rw [nvs_len]; exact b1), ?_⟩
        walk_at "rd"
        refine ⟨_, _, _, n % 4, rfl, rfl, upd_get ne.symm h4, ix_nat (by rw [nvs_len]; exact b2), ?_⟩
        refine .mk ⟨_, _, by rw [e]; rfl, Same.over (Same.over s3 ns) nk0, ?_, ?_⟩
        · rw [upd_ne ne, upd_same, e]
          exact congrArg (fun z => some (HO.lst z)) (nvs_set _ _ _)
        · rw [upd_same, e]
          exact congrArg (fun z => some (HO.lst z)) (nvs_set _ _ _)
      · intro σ H' z
        obtain ⟨u, u2, rfl, s3, h3, h4⟩ := z.out
        walk_at "rd"
        exact q _ _ s3 (nw_get ns h3)
def spRcS (t : Nat) : Sp := spSpread 16 fun key H c => H c = some (.lst (nvs (rcX t (hfM key.reverse 8 32).reverse (3 * t)).1))
theorem ok_rc5_spread (T : Txt K mg a) : FnOk P w K mg base CX0 5 a.f_rc5_spread a.d_rc5_spread ["key"] (spRcS 26) := by
  refine T.rc5_spread.F.ok sc_rc5_spread (fun vs H Q E h => ?_) (fun cdv A outer s H vs Q E hr h => ?_)
  · obtain ⟨_, rfl, _⟩ := h
    rfl
  · skip
    have G_rc_spread := ok_rc_spread (P := P) (w := w) (base := base) T
    obtain ⟨p, rfl, key, hp, ln, ak, q⟩ := h
    refine ⟨_, pss_one (ps_ret (T.rc_spread.call G_rc_spread (hr.mono (by decide)) (pa_cons (pv 0) (pa_cons (pe_nat 26) pa_nil)))), ?_⟩
    walk_at "rd"
    exact q
theorem ok_rc6_spread (T : Txt K mg a) : FnOk P w K mg base CX0 5 a.f_rc6_spread a.d_rc6_spread ["key"] (spRcS 44) := by
  refine T.rc6_spread.F.ok sc_rc6_spread (fun vs H Q E h => ?_) (fun cdv A outer s H vs Q E hr h => ?_)
  · obtain ⟨_, rfl, _⟩ := h
    rfl
  · skip
    have G_rc_spread := ok_rc_spread (P := P) (w := w) (base := base) T
    obtain ⟨p, rfl, key, hp, ln, ak, q⟩ := h
    refine ⟨_, pss_one (ps_ret (T.rc_spread.call G_rc_spread (hr.mono (by decide)) (pa_cons (pv 0) (pa_cons (pe_nat 44) pa_nil)))), ?_⟩
    walk_at "rd"
    exact q
end
end Sx
end
section
set_option Elab.async false
set_option linter.all false
set_option maxRecDepth 100000
set_option maxHeartbeats 2000000
set_option exponentiation.threshold 2000
namespace Sx
open PySem PySem.Spec PyProof.Rows L2
local macro_rules | `(tactic| walk_at "fa") => `(tactic| (first
  | assumption
  | exact upd_same
  | (refine upd_get ?n ?g; (case n => assumption); (case g => walk_at "fa"))
  | (refine Same.use (Same.upd ?n) ?g; (case n => assumption); (case g => walk_at "fa"))
  | (refine Same.use (H := ?m) ?s ?g; (case s => assumption); (case g => walk_at "fa"))))
local macro_rules | `(tactic| walk_at "sm") => `(tactic| (first
  | assumption
  | exact Same.refl _
  | (refine Same.after (Same.upd ?n) ?g; (case n => assumption); (case g => walk_at "sm"))
  | (refine Same.after (H1 := ?m) ?s ?g; (case s => assumption); (case g => walk_at "sm"))))
local macro_rules | `(tactic| walk_at "nn") => `(tactic| (first
  | assumption
  | (refine Same.free (H' := ?m) ?s ?n; (case n => assumption); (case s => walk_at "sm"))))
local macro_rules | `(tactic| walk_at "lt") => `(tactic| (first
  | assumption
  | omega
  | exact Nat.mod_lt _ (by decide)
  | (refine at_lt ?_; walk_at "al")
  | exact mlt_lt _ _
  | exact sqd_lt
  | (refine Nat.xor_lt_two_pow ?_ ?_ <;> walk_at "lt")
  | (refine lft_lt ?_ (by decide); walk_at "lt")
  | (refine rgt_lt ?_ (by decide); walk_at "lt")
  | (refine lt64_of16 ?_; walk_at "lt")))
local macro_rules | `(tactic| walk_at "al") => `(tactic| (first
  | assumption
  | exact AllLt.nil
  | (refine AllLt.cons ?_ ?_; (walk_at "lt"); (walk_at "al"))
  | (refine AllLt.drop ?_; walk_at "al")
  | (refine AllLt.take ?_; walk_at "al")))
local macro_rules | `(tactic| walk_at "bd") => `(tactic| ((try dsimp only); first
  | (simp only [List.length_drop, List.length_take, List.length_cons, List.length_nil, List.length_map, List.length_range, nvs_len]; first | omega | decide)
  | omega
  | decide
  | ((with_reducible show AllLt _ _); walk_at "al")
  | walk_at "lt"
  | exact fun _ _ => trivial
  | (refine leM ?_; walk_at "lt")
  | (refine leL ?_; walk_at "lt")
  | (refine ⟨?_, ?_⟩ <;> walk_at "bd")))
local macro_rules | `(tactic| walk_at "rd") => `(tactic| repeat (walk_at "r1"))
local macro_rules | `(tactic| walk_at "r1") => `(tactic| (first
  | refine ⟨_, rfl, ?_⟩
  | refine ⟨_, _, rfl, rfl, ?_⟩
  | refine ⟨_, _, _, rfl, rfl, ?_⟩
  | refine ⟨_, _, _, rfl, rfl, rfl, ?_⟩
  | refine ⟨_, _, rfl, rfl, rfl, ?_⟩
  | refine ⟨_, _, _, rfl, ?_⟩
  | refine ⟨_, _, rfl, ?_⟩
  | (refine And.intro ?c ?_; (case c => (with_reducible show _ = some _); walk_at "fa"))
  | (refine ⟨?ws, ?h, ?_⟩; (case h => (with_reducible show _ = some (HO.lst _)); walk_at "fa"))
  | (refine ⟨?ws, ?ks, ?h, ?g, ?_⟩; (case h => (with_reducible show _ = some (HO.lst _)); walk_at "fa"); (case g => (with_reducible show _ = some (HO.lst _)); walk_at "fa"))
  | (refine ⟨?ws, SqL.of ?h, ?_⟩; (case h => walk_at "fa"))
  | (refine And.intro ⟨?ws, SqL.of ?h⟩ ?_; (case h => walk_at "fa"))
  | (refine ⟨_, ?xs, rfl, SqL.of ?h, ?_⟩; (case h => walk_at "fa"))
  | (refine ⟨_, ?xs, rfl, Or.inl (SqL.of ?h), ?_⟩; (case h => walk_at "fa"))
  | (refine ⟨_, _, ?xs, ?ys, rfl, SqL.of ?h, SqL.of ?g, ?_⟩; (case h => walk_at "fa"); (case g => walk_at "fa"))
  | (refine And.intro (Or.inl ⟨rfl, ?xs, SqL.of ?h⟩) ?_; (case h => walk_at "fa"))
  | refine And.intro rfl ?_
  | refine And.intro (by walk_at "bd") ?_
  | (refine ⟨_, ?xs, _, ?v, rfl, rfl, SqL.of ?h, ?e, ?_⟩; (case h => walk_at "fa"); (case e => first | exact rfl | (refine nvs_get (at_get ?_); walk_at "bd")))
  | (refine ⟨_, ?xs, _, ?v, rfl, rfl, SqT.of ?h, ?e, ?_⟩; (case h => walk_at "fa"); (case e => exact rfl))
  | refine retV.nvs_drop ?_
  | refine retV.nvs_take ?_
  | refine retV.nvs_cut ?_
  | ((with_reducible show retL _ _ _); intro Hn pn sn nn hn)
  | rw [nvs_reverse]
  | refine fun (pn : Addr) (nn : _ = none) => ?_))
open Sz25 (at_ M L GOLD plus less)
@[irreducible] def fkM (k t : List Nat) (s : Nat) : List Nat := plus [at_ k (s % 5), at_ k ((s + 1) % 5), at_ k ((s + 2) % 5), at_ k ((s + 3) % 5)] [0, at_ t (s % 3), at_ t ((s + 1) % 3), s]
@[irreducible] def kxM (k : List Nat) : List Nat := k ++ [at_ k 0 ^^^ at_ k 1 ^^^ at_ k 2 ^^^ at_ k 3 ^^^ 2004413935125273122]
@[irreducible] def txM (t : List Nat) : List Nat := t ++ [at_ t 0 ^^^ at_ t 1]
theorem kxM_len {k : List Nat} (h : k.length = 4) : (kxM k).length = 5 := by unfold kxM; rw [List.length_append, h] <;> rfl
theorem txM_len {k : List Nat} (h : k.length = 2) : (txM k).length = 3 := by unfold txM; rw [List.length_append, h] <;> rfl
theorem fkM_ok (k t : List Nat) (s : Nat) : Ok4 64 (fkM k t s) := by unfold fkM; exact plus_ok rfl rfl
def fishKw (key : List Nat) : List Nat := kxM (hfM (key.take 32).reverse 8 64).reverse
def fishTw (key : List Nat) : List Nat := txM (hfM (key.drop 32).reverse 8 64).reverse
theorem app_step {H : Hp} {p : Addr} {xs ys : List V} {y : V} {Q : VK} (h : H p = some (.lst xs)) (hl : xs.length < sizeLine) (e : xs ++ [y] = ys) (k : ∀ H', H' p = some (.lst ys) → (∀ b o, H b = some o → b ≠ p → H' b = some o) → Q .non H') : rAppend (.ref p) [y] H Q :=
  ⟨p, xs, y, rfl, rfl, h, hl, k _ (by rw [upd_same, e]) fun b o q ne => by rw [upd_ne ne]; exact q⟩
section
variable {P : Program} {w : World} {K : PySem.W.Frag} {mg : Str → Option Value} {base : Heap} {a : Ad}
theorem ok_threefish_spread (T : Txt K mg a) : FnOk P w K mg base CX0 4 a.f_threefish_spread a.d_threefish_spread ["key"] (spSpread 48 fun key H c => FKey H c (fkM (fishKw key) (fishTw key))) := by
  refine T.threefish_spread.F.ok sc_threefish_spread (fun vs H Q E h => ?_) (fun cdv A outer s H vs Q E hr h => ?_)
  · obtain ⟨_, rfl, _⟩ := h
    rfl
  · skip
    have G_threefish_sum := ok_threefish_sum (P := P) (w := w) (base := base) T
    have G_lowest_first := ok_lowest_first (P := P) (w := w) (base := base) T
    obtain ⟨p, rfl, key, hp, ln, ak, q⟩ := h
    have q : ∀ H' c, Same H H' → FKey (Nw H H') c (fkM (kxM (hfM (key.take 32).reverse 8 64).reverse) (txM (hfM (key.drop 32).reverse 8 64).reverse)) → Q (.ref c) H' := q
    have l1 : (hfM (key.take 32).reverse 8 64).reverse.length = 4 := by unfold hfM; rw [List.length_reverse, rowF_len, List.length_reverse, List.length_take, ln] <;> rfl
    have l2 : (hfM (key.drop 32).reverse 8 64).reverse.length = 2 := by unfold hfM; rw [List.length_reverse, rowF_len, List.length_reverse, List.length_drop, ln] <;> rfl
    refine ⟨_, pss_cons (ps_set (i := 1) sc_threefish_spread.nd rfl (by first | exact Or.inl rfl | exact Or.inr rfl) (T.lowest_first.call G_lowest_first (hr.mono (by decide)) (pa_cons (pe_slice sl_j (pv 0) po_none (po_some (pe_nat 32))) (pa_cons (pe_nat 8) (pa_cons (pe_nat 64) pa_nil)))))
      (pss_cons (ps_expr (pe_bm PySem.F.plainAttrs_list PySem.F.slot_list_append PySem.F.type_list_append mt_append (pv 1) (pa_cons (pe_op op_xorN (pe_op op_xorN (pe_op op_xorN (pe_op op_xorN (pe_ix ix_listN (pv 1) (pe_nat 0) (fun _ _ => rfl)) (pe_ix ix_listN (pv 1) (pe_nat 1) (fun _ _ => rfl))) (pe_ix ix_listN (pv 1) (pe_nat 2) (fun _ _ => rfl))) (pe_ix ix_listN (pv 1) (pe_nat 3) (fun _ _ => rfl))) (pe_nat 2004413935125273122)) pa_nil)))
      (pss_cons (ps_set (i := 2) sc_threefish_spread.nd rfl (by first | exact Or.inl rfl | exact Or.inr rfl) (T.lowest_first.call G_lowest_first (hr.mono (by decide)) (pa_cons (pe_slice sl_i (pv 0) (po_some (pe_nat 32)) po_none) (pa_cons (pe_nat 8) (pa_cons (pe_nat 64) pa_nil)))))
      (pss_cons (ps_expr (pe_bm PySem.F.plainAttrs_list PySem.F.slot_list_append PySem.F.type_list_append mt_append (pv 2) (pa_cons (pe_op op_xorN (pe_ix ix_listN (pv 2) (pe_nat 0) (fun _ _ => rfl)) (pe_ix ix_listN (pv 2) (pe_nat 1) (fun _ _ => rfl))) pa_nil)))
      (pss_cons (ps_set (i := 3) sc_threefish_spread.nd rfl (by first | exact Or.inl rfl | exact Or.inr rfl) (pe_lst pa_nil))
      (pss_cons (ps_for PassesOwn.never rfl (pi_range1 rfl T.n_range (pa_cons (pe_nat 19) pa_nil)) (pg_name (i := 4) sc_threefish_spread.nd rfl (by first | exact Or.inl rfl | exact Or.inr rfl)) (pss_cons (ps_set (i := 5) sc_threefish_spread.nd rfl (by first | exact Or.inl rfl | exact Or.inr rfl) (pe_lst (pa_cons (pe_ix ix_listN (pv 1) (pe_op op_modN' (pv 4) (pe_nat 5)) (fun _ _ => rfl)) (pa_cons (pe_ix ix_listN (pv 1) (pe_op op_modN' (pe_op op_addN (pv 4) (pe_nat 1)) (pe_nat 5)) (fun _ _ => rfl)) (pa_cons (pe_ix ix_listN (pv 1) (pe_op op_modN' (pe_op op_addN (pv 4) (pe_nat 2)) (pe_nat 5)) (fun _ _ => rfl)) (pa_cons (pe_ix ix_listN (pv 1) (pe_op op_modN' (pe_op op_addN (pv 4) (pe_nat 3)) (pe_nat 5)) (fun _ _ => rfl)) pa_nil))))))
      (pss_one (ps_expr (pe_bm PySem.F.plainAttrs_list PySem.F.slot_list_append PySem.F.type_list_append mt_append (pv 3) (pa_cons (T.threefish_sum.call G_threefish_sum (hr.mono (by decide)) (pa_cons (pv 5) (pa_cons (pe_lst (pa_cons (pe_nat 0) (pa_cons (pe_ix ix_listN (pv 2) (pe_op op_modN' (pv 4) (pe_nat 3)) (fun _ _ => rfl)) (pa_cons (pe_ix ix_listN (pv 2) (pe_op op_modN' (pe_op op_addN (pv 4) (pe_nat 1)) (pe_nat 3)) (fun _ _ => rfl)) (pa_cons (pv 4) pa_nil))))) pa_nil))) pa_nil))))))
      (pss_one (ps_ret (pv 3)))))))), ?_⟩
    walk_at "rd"
    rename_i H1 p0 s1 n0 h0 H2 pk s2 nk hk
    generalize (hfM (key.take 32).reverse 8 64).reverse = kw at hk l1 q ⊢
    try unfold tNil
    refine app_step hk (line_of (by rw [nvs_len, l1]; decide)) (ys := nvs (kxM kw)) (by unfold kxM; exact nvs_snoc _ _) fun H3 h3 k3 => ?_
    have s3 : Same H H3 := fun b o e => k3 b o ((s1.trans s2) b o e) (ne_of_none e (s1.free nk))
    have hp3 := s3 _ _ hp
    have l5 := kxM_len l1
    walk_at "rd"
    rename_i H4 p4 s4 n4 h4 H5 pt s5 nt ht
    generalize (hfM (key.drop 32).reverse 8 64).reverse = tw at ht l2 q ⊢
    try unfold tNil
    refine app_step ht (line_of (by rw [nvs_len, l2]; decide)) (ys := nvs (txM tw)) (by unfold txM; exact nvs_snoc _ _) fun H6 h6 k6 => ?_
    have s6 : Same H3 H6 := fun b o e => k6 b o ((s4.trans s5) b o e) (ne_of_none e (s4.free nt))
    have h3' := s6 _ _ h3
    have l6 := txM_len l2
    generalize kxM kw = kx at h3 h3' l5 q ⊢
    generalize txM tw = tx at h6 l6 q ⊢
    walk_at "rd"
    rename_i pS nS
    refine for_rangeN (lo := 0) (n := 19) (fun i σ H' => Hold (∃ u u2 rs, σ = [some (.ref p), some (.ref pk), some (.ref pt), some (.ref pS), u, u2] ∧ Same H6 H' ∧ H' pS = some (.lst rs) ∧ rs.length = i ∧ ∀ j, j < i → ∃ r, rs[j]? = some (.ref r) ∧ r ≠ pS ∧ H6 r = none ∧ H' r = some (.lst (nvs (fkM kx tx j))))) (.mk ⟨none, none, [], rfl, Same.upd nS, upd_same, rfl, fun j hj => by omega⟩) ?_ ?_
    · intro i σ H' hi z
      obtain ⟨u, u2, rs, rfl, s7, h7, l7, r7⟩ := z.out
      have hk7 := s7 _ _ h3'
      have ht7 := s7 _ _ h6
      rw [Nat.zero_add]
      walk_at "rd"
      rename_i p8 n8 p9 n9
      have ne : p8 ≠ p9 := fun z => by rw [← z, upd_same] at n9; cases n9
      refine ⟨[at_ kx (i % 5), at_ kx ((i + 1) % 5), at_ kx ((i + 2) % 5), at_ kx ((i + 3) % 5)], [0, at_ tx (i % 3), at_ tx ((i + 1) % 3), i], upd_get ne upd_same, upd_same, by show 4 ≤ 64; decide, fun _ _ => trivial, ?_⟩
      intro H8 r s8 nr hr
      have hr : H8 r = some (.lst (nvs (fkM kx tx i))) := by rw [hr]; unfold fkM; rfl
      have s8 : Same H' H8 := ((Same.upd n8).trans (Same.upd n9)).trans s8
      have h7' := s8 _ _ h7
      have nr' : r ≠ pS := fun z => by
        have := ((Same.upd n8).trans (Same.upd n9)).free nr
        rw [z, h7] at this
        cases this
      try unfold tNil
      refine app_step h7' (line_of (by omega)) rfl fun H9 h9 k9 => ?_
      refine .mk ⟨_, _, _, rfl, fun b o e => k9 b o ((s7.trans s8) b o e) (ne_of_none e nS), h9, by rw [List.length_append, l7]; rfl, fun j hj => ?_⟩
      by_cases hj2 : j < i
      · obtain ⟨r', e1, e2, e4, e3⟩ := r7 j hj2
        exact ⟨r', by rw [List.getElem?_append_left (by omega)]; exact e1, e2, e4, k9 _ _ (s8 _ _ e3) e2⟩
      · have ej : j = i := by omega
        subst ej
        exact ⟨r, by rw [List.getElem?_append_right (by omega), l7, Nat.sub_self]; rfl, nr', s7.free (((Same.upd n8).trans (Same.upd n9)).free nr), k9 _ _ hr nr'⟩
    · intro σ H' z
      obtain ⟨u, u2, rs, rfl, s7, h7, l7, r7⟩ := z.out
      walk_at "rd"
      exact q _ _ ((s3.trans s6).trans s7) ⟨⟨rs, nw_get ((s3.trans s6).free nS) h7, fun j hj => let ⟨r, e1, _, e4, e3⟩ := r7 j hj; ⟨r, e1, nw_get ((s3.trans s6).free e4) e3⟩⟩, fun j _ => fkM_ok kx tx j⟩
end
end Sx
end
section
set_option Elab.async false
set_option linter.all false
set_option maxRecDepth 100000
set_option maxHeartbeats 2000000
set_option exponentiation.threshold 2000
namespace Sx
open PySem PySem.Spec PyProof.Rows L2
local macro_rules | `(tactic| walk_at "fa") => `(tactic| (first
  | assumption
  | exact upd_same
  | (refine upd_get ?n ?g; (case n => assumption); (case g => walk_at "fa"))
  | (refine Same.use (Same.upd ?n) ?g; (case n => assumption); (case g => walk_at "fa"))
  | (refine Same.use (H := ?m) ?s ?g; (case s => assumption); (case g => walk_at "fa"))))
local macro_rules | `(tactic| walk_at "sm") => `(tactic| (first
  | assumption
  | exact Same.refl _
  | (refine Same.after (Same.upd ?n) ?g; (case n => assumption); (case g => walk_at "sm"))
  | (refine Same.after (H1 := ?m) ?s ?g; (case s => assumption); (case g => walk_at "sm"))))
local macro_rules | `(tactic| walk_at "nn") => `(tactic| (first
  | assumption
  | (refine Same.free (H' := ?m) ?s ?n; (case n => assumption); (case s => walk_at "sm"))))
local macro_rules | `(tactic| walk_at "lt") => `(tactic| (first
  | assumption
  | omega
  | exact Nat.mod_lt _ (by decide)
  | (refine at_lt ?_; walk_at "al")
  | exact mlt_lt _ _
  | exact sqd_lt
  | (refine Nat.xor_lt_two_pow ?_ ?_ <;> walk_at "lt")
  | (refine lft_lt ?_ (by decide); walk_at "lt")
  | (refine rgt_lt ?_ (by decide); walk_at "lt")
  | (refine lt64_of16 ?_; walk_at "lt")))
local macro_rules | `(tactic| walk_at "al") => `(tactic| (first
  | assumption
  | exact AllLt.nil
  | (refine AllLt.cons ?_ ?_; (walk_at "lt"); (walk_at "al"))
  | (refine AllLt.drop ?_; walk_at "al")
  | (refine AllLt.take ?_; walk_at "al")))
local macro_rules | `(tactic| walk_at "bd") => `(tactic| ((try dsimp only); first
  | (simp only [List.length_drop, List.length_take, List.length_cons, List.length_nil, List.length_map, List.length_range, nvs_len]; first | omega | decide)
  | omega
  | decide
  | ((with_reducible show AllLt _ _); walk_at "al")
  | walk_at "lt"
  | exact fun _ _ => trivial
  | (refine leM ?_; walk_at "lt")
  | (refine leL ?_; walk_at "lt")
  | (refine ⟨?_, ?_⟩ <;> walk_at "bd")))
local macro_rules | `(tactic| walk_at "rd") => `(tactic| repeat (walk_at "r1"))
local macro_rules | `(tactic| walk_at "r1") => `(tactic| (first
  | refine ⟨_, rfl, ?_⟩
  | refine ⟨_, _, rfl, rfl, ?_⟩
  | refine ⟨_, _, _, rfl, rfl, ?_⟩
  | refine ⟨_, _, _, rfl, rfl, rfl, ?_⟩
  | refine ⟨_, _, rfl, rfl, rfl, ?_⟩
  | refine ⟨_, _, _, rfl, ?_⟩
  | refine ⟨_, _, rfl, ?_⟩
  | (refine And.intro ?c ?_; (case c => (with_reducible show _ = some _); walk_at "fa"))
  | (refine ⟨?ws, ?h, ?_⟩; (case h => (with_reducible show _ = some (HO.lst _)); walk_at "fa"))
  | (refine ⟨?ws, ?ks, ?h, ?g, ?_⟩; (case h => (with_reducible show _ = some (HO.lst _)); walk_at "fa"); (case g => (with_reducible show _ = some (HO.lst _)); walk_at "fa"))
  | (refine ⟨?ws, SqL.of ?h, ?_⟩; (case h => walk_at "fa"))
  | (refine And.intro ⟨?ws, SqL.of ?h⟩ ?_; (case h => walk_at "fa"))
  | (refine ⟨_, ?xs, rfl, SqL.of ?h, ?_⟩; (case h => walk_at "fa"))
  | (refine ⟨_, ?xs, rfl, Or.inl (SqL.of ?h), ?_⟩; (case h => walk_at "fa"))
  | (refine ⟨_, _, ?xs, ?ys, rfl, SqL.of ?h, SqL.of ?g, ?_⟩; (case h => walk_at "fa"); (case g => walk_at "fa"))
  | (refine And.intro (Or.inl ⟨rfl, ?xs, SqL.of ?h⟩) ?_; (case h => walk_at "fa"))
  | refine And.intro rfl ?_
  | refine And.intro (by walk_at "bd") ?_
  | (refine ⟨_, ?xs, _, ?v, rfl, rfl, SqL.of ?h, ?e, ?_⟩; (case h => walk_at "fa"); (case e => first | exact rfl | (refine nvs_get (at_get ?_); walk_at "bd")))
  | (refine ⟨_, ?xs, _, ?v, rfl, rfl, SqT.of ?h, ?e, ?_⟩; (case h => walk_at "fa"); (case e => exact rfl))
  | refine retV.nvs_drop ?_
  | refine retV.nvs_take ?_
  | refine retV.nvs_cut ?_
  | ((with_reducible show retL _ _ _); intro Hn pn sn nn hn)
  | rw [nvs_reverse]
  | refine fun (pn : Addr) (nn : _ = none) => ?_))
open Sz25 (at_ M L GOLD plus less)
/-! ### the object -/
theorem putF_hit (f : Str) (v x : V) (r : List (Str × V)) : putF f v ((f, x) :: r) = (f, v) :: r := by
  show (if f = f then _ else _) = _
  rw [if_pos rfl]
theorem putF_miss {f g : Str} (h : g ≠ f) (v x : V) (r : List (Str × V)) : putF f v ((g, x) :: r) = (g, x) :: putF f v r := by
  show (if g = f then _ else _) = _
  rw [if_neg h]
theorem cs : ("cipher" : Str) ≠ "schedule" := by decide +kernel
theorem ct : ("cipher" : Str) ≠ "standing" := by decide +kernel
theorem st : ("schedule" : Str) ≠ "standing" := by decide +kernel
def sfl (c s t : V) : List (Str × V) := [("cipher", c), ("schedule", s), ("standing", t)]
theorem sfl_put_c (c s t v : V) : putF "cipher" v (sfl c s t) = sfl v s t := putF_hit _ _ _ _
theorem sfl_put_s (c s t v : V) : putF "schedule" v (sfl c s t) = sfl c v t := by
  unfold sfl
  rw [putF_miss cs, putF_hit]
theorem sfl_put_t (c s t v : V) : putF "standing" v (sfl c s t) = sfl c s v := by
  unfold sfl
  rw [putF_miss ct, putF_miss st, putF_hit]
theorem sfl_new (c s t : V) : putF "standing" t (putF "schedule" s (putF "cipher" c [])) = sfl c s t := by
  show putF "standing" t (putF "schedule" s [("cipher", c)]) = _
  rw [putF_miss cs]
  show putF "standing" t [("cipher", c), ("schedule", s)] = _
  rw [putF_miss ct, putF_miss st]
  rfl
theorem sfl_look (c s t : V) (m : Str) : (sfl c s t).lookup m = if m = "cipher" then some c else if m = "schedule" then some s else if m = "standing" then some t else none := by
  rw [← sfl_new, lookup_putF, lookup_putF, lookup_putF]
  by_cases h1 : m = "cipher"
  · subst h1
    rw [if_neg ct, if_neg cs, if_pos rfl, if_pos rfl]
  · rw [if_neg h1, if_neg h1]
    by_cases h2 : m = "schedule"
    · subst h2
      rw [if_neg st, if_pos rfl, if_pos rfl]
    · rw [if_neg h2, if_neg h2] <;> rfl
theorem sfl_c (c s t : V) : (sfl c s t).lookup ("cipher" : Str) = some c := by rw [sfl_look, if_pos rfl]
theorem sfl_s (c s t : V) : (sfl c s t).lookup ("schedule" : Str) = some s := by rw [sfl_look, if_neg cs.symm, if_pos rfl]
theorem sfl_t (c s t : V) : (sfl c s t).lookup ("standing" : Str) = some t := by rw [sfl_look, if_neg ct.symm, if_neg st.symm, if_pos rfl]
theorem sfl_no (c s t : V) {m : Str} (h1 : m ≠ "cipher") (h2 : m ≠ "schedule") (h3 : m ≠ "standing") : (sfl c s t).lookup m = none := by rw [sfl_look, if_neg h1, if_neg h2, if_neg h3]
def SealAt (C : Addr) (H : Hp) (x : Addr) (c s t : V) : Prop := ∃ dx, H x = some (.ins C dx (sfl c s t))
theorem SealAt.mono {C : Addr} {H H' : Hp} {x : Addr} {c s t : V} (h : SealAt C H x c s t) (e : Same H H') : SealAt C H' x c s t := let ⟨dx, q⟩ := h; ⟨dx, e _ _ q⟩
def spInit (C : Addr) : Sp := fun vs H Q _ => ∃ p, vs = [.ref p] ∧ ∃ dx, H p = some (.ins C dx []) ∧ ∀ H' l, SealAt C H' p .non .non (.ref l) → (∀ b o, H b = some o → b ≠ p → H' b = some o) → Q .non H'
/-- the sizes -/
def blk (c : Nat) : Nat := at_ [8, 8, 8, 16, 16, 32] c
def wbit (c : Nat) : Nat := at_ [16, 32, 32, 32, 64, 64] c
def spSize (C : Addr) : Sp := fun vs H Q _ => ∃ x, vs = [.ref x] ∧ ∃ c s t, SealAt C H x (vn c) s t ∧ c < 6 ∧ Q (vn (blk c)) H
section
variable {P : Program} {w : World} {K : PySem.W.Frag} {mg : Str → Option Value} {base : Heap} {a : Ad}
theorem ok___init__ (T : Txt K mg a) : FnOk P w K mg base CX0 1 a.f___init__ a.d___init__ ["self"] (spInit a.C) := by
  refine T.__init__.F.ok sc___init__ (fun vs H Q E h => ?_) (fun cdv A outer s H vs Q E hr h => ?_)
  · obtain ⟨_, rfl, _⟩ := h
    rfl
  · skip

    obtain ⟨p, rfl, dx, hp, k⟩ := h
    refine ⟨_, pss_cons (ps_fld (pv 0) pe_non rfl)
      (pss_cons (ps_fld (pv 0) pe_non rfl)
      (pss_one (ps_fld (pv 0) (pe_lst pa_nil) rfl))), ?_⟩
    refine ⟨_, rfl, p, a.C, dx, _, rfl, hp, T.cl, T.na_cipher, (by show 0 < 1000; decide), ?_⟩
    refine ⟨_, rfl, p, a.C, dx, _, rfl, upd_same, T.cl, T.na_schedule, (by show 1 < 1000; decide), ?_⟩
    refine ⟨by decide, fun l nl => ?_⟩
    have ne : p ≠ l := fun z => by rw [← z, upd_same] at nl; cases nl
    refine ⟨_, rfl, p, a.C, dx, _, rfl, upd_get ne upd_same, T.cl, T.na_standing, (by rw [show putF "schedule" V.non (putF "cipher" V.non []) = ([("cipher", V.non), ("schedule", V.non)] : List (Str × V)) from putF_miss cs _ _ _]; show 2 < 1000; decide), ?_⟩
    refine k _ l ⟨dx, by rw [upd_same, sfl_new]⟩ fun b o e hb => ?_
    rw [upd_ne hb]
    have e2 : (upd (upd H p (.ins a.C dx (putF "cipher" V.non []))) p (.ins a.C dx (putF "schedule" V.non (putF "cipher" V.non [])))) b = some o := by rw [upd_ne hb, upd_ne hb]; exact e
    exact Same.upd nl _ _ e2
theorem ok_block_size (T : Txt K mg a) : FnOk P w K mg base CX0 1 a.f_block_size a.d_block_size ["self"] (spSize a.C) := by
  refine T.block_size.F.ok sc_block_size (fun vs H Q E h => ?_) (fun cdv A outer s H vs Q E hr h => ?_)
  · obtain ⟨_, rfl, _⟩ := h
    rfl
  · skip

    obtain ⟨x, rfl, c, s, t, ⟨dx, hx⟩, hc, q⟩ := h
    refine ⟨_, pss_one (ps_ret (pe_ix ix_tupN (pe_glob (v := .ref a.t_BLOCK_SIZES) rfl T.g_BLOCK_SIZES rfl) (pe_fld (pv 0) rfl) (fun _ _ => rfl))), ?_⟩
    refine ⟨_, rfl, _, _, _, _, _, rfl, hx, T.cl, T.na_cipher, sfl_c _ _ _, _, _, _, _, rfl, rfl, T.q_BLOCK_SIZES.sq, nvs_get (at_get hc), q⟩
end
end Sx
end
section
set_option Elab.async false
set_option linter.all false
set_option maxRecDepth 100000
set_option maxHeartbeats 2000000
set_option exponentiation.threshold 2000
namespace Sx
open PySem PySem.Spec PyProof.Rows L2
local macro_rules | `(tactic| walk_at "fa") => `(tactic| (first
  | assumption
  | exact upd_same
  | (refine upd_get ?n ?g; (case n => assumption); (case g => walk_at "fa"))
  | (refine Same.use (Same.upd ?n) ?g; (case n => assumption); (case g => walk_at "fa"))
  | (refine Same.use (H := ?m) ?s ?g; (case s => assumption); (case g => walk_at "fa"))))
local macro_rules | `(tactic| walk_at "sm") => `(tactic| (first
  | assumption
  | exact Same.refl _
  | (refine Same.after (Same.upd ?n) ?g; (case n => assumption); (case g => walk_at "sm"))
  | (refine Same.after (H1 := ?m) ?s ?g; (case s => assumption); (case g => walk_at "sm"))))
local macro_rules | `(tactic| walk_at "nn") => `(tactic| (first
  | assumption
  | (refine Same.free (H' := ?m) ?s ?n; (case n => assumption); (case s => walk_at "sm"))))
local macro_rules | `(tactic| walk_at "lt") => `(tactic| (first
  | assumption
  | omega
  | exact Nat.mod_lt _ (by decide)
  | (refine at_lt ?_; walk_at "al")
  | exact mlt_lt _ _
  | exact sqd_lt
  | (refine Nat.xor_lt_two_pow ?_ ?_ <;> walk_at "lt")
  | (refine lft_lt ?_ (by decide); walk_at "lt")
  | (refine rgt_lt ?_ (by decide); walk_at "lt")
  | (refine lt64_of16 ?_; walk_at "lt")))
local macro_rules | `(tactic| walk_at "al") => `(tactic| (first
  | assumption
  | exact AllLt.nil
  | (refine AllLt.cons ?_ ?_; (walk_at "lt"); (walk_at "al"))
  | (refine AllLt.drop ?_; walk_at "al")
  | (refine AllLt.take ?_; walk_at "al")))
local macro_rules | `(tactic| walk_at "bd") => `(tactic| ((try dsimp only); first
  | (simp only [List.length_drop, List.length_take, List.length_cons, List.length_nil, List.length_map, List.length_range, nvs_len]; first | omega | decide)
  | omega
  | decide
  | ((with_reducible show AllLt _ _); walk_at "al")
  | walk_at "lt"
  | exact fun _ _ => trivial
  | (refine leM ?_; walk_at "lt")
  | (refine leL ?_; walk_at "lt")
  | (refine ⟨?_, ?_⟩ <;> walk_at "bd")))
local macro_rules | `(tactic| walk_at "rd") => `(tactic| repeat (walk_at "r1"))
local macro_rules | `(tactic| walk_at "r1") => `(tactic| (first
  | refine ⟨_, rfl, ?_⟩
  | refine ⟨_, _, rfl, rfl, ?_⟩
  | refine ⟨_, _, _, rfl, rfl, ?_⟩
  | refine ⟨_, _, _, rfl, rfl, rfl, ?_⟩
  | refine ⟨_, _, rfl, rfl, rfl, ?_⟩
  | refine ⟨_, _, _, rfl, ?_⟩
  | refine ⟨_, _, rfl, ?_⟩
  | (refine And.intro ?c ?_; (case c => (with_reducible show _ = some _); walk_at "fa"))
  | (refine ⟨?ws, ?h, ?_⟩; (case h => (with_reducible show _ = some (HO.lst _)); walk_at "fa"))
  | (refine ⟨?ws, ?ks, ?h, ?g, ?_⟩; (case h => (with_reducible show _ = some (HO.lst _)); walk_at "fa"); (case g => (with_reducible show _ = some (HO.lst _)); walk_at "fa"))
  | (refine ⟨?ws, SqL.of ?h, ?_⟩; (case h => walk_at "fa"))
  | (refine And.intro ⟨?ws, SqL.of ?h⟩ ?_; (case h => walk_at "fa"))
  | (refine ⟨_, ?xs, rfl, SqL.of ?h, ?_⟩; (case h => walk_at "fa"))
  | (refine ⟨_, ?xs, rfl, Or.inl (SqL.of ?h), ?_⟩; (case h => walk_at "fa"))
  | (refine ⟨_, _, ?xs, ?ys, rfl, SqL.of ?h, SqL.of ?g, ?_⟩; (case h => walk_at "fa"); (case g => walk_at "fa"))
  | (refine And.intro (Or.inl ⟨rfl, ?xs, SqL.of ?h⟩) ?_; (case h => walk_at "fa"))
  | refine And.intro rfl ?_
  | refine And.intro (by walk_at "bd") ?_
  | (refine ⟨_, ?xs, _, ?v, rfl, rfl, SqL.of ?h, ?e, ?_⟩; (case h => walk_at "fa"); (case e => first | exact rfl | (refine nvs_get (at_get ?_); walk_at "bd")))
  | (refine ⟨_, ?xs, _, ?v, rfl, rfl, SqT.of ?h, ?e, ?_⟩; (case h => walk_at "fa"); (case e => exact rfl))
  | refine retV.nvs_drop ?_
  | refine retV.nvs_take ?_
  | refine retV.nvs_cut ?_
  | ((with_reducible show retL _ _ _); intro Hn pn sn nn hn)
  | rw [nvs_reverse]
  | refine fun (pn : Addr) (nn : _ = none) => ?_))
open Sz25 (at_ M L GOLD plus less)
/-- what stands as the schedule of cipher c with this key -/
def Sch (c : Nat) (key : List Nat) (H : Hp) (q : Addr) : Prop := match c with
  | 0 => ISch H q (ideaKeysM key) (undoM (ideaKeysM key) 52)
  | 1 => H q = some (.lst (nvs (sumsM (hfM key 8 32) 32)))
  | 2 => H q = some (.lst (nvs (rcX 26 (hfM key.reverse 8 32).reverse (3 * 26)).1))
  | 3 => H q = some (.lst (nvs (rcX 44 (hfM key.reverse 8 32).reverse (3 * 44)).1))
  | 4 => H q = some (.lst (nvs (skK (hfM key.reverse 8 64).reverse 31)))
  | _ => FKey H q (fkM (fishKw key) (fishTw key))
theorem Sch.mono {c : Nat} {key : List Nat} {H H' : Hp} {q : Addr} (h : Sch c key H q) (s : Same H H') : Sch c key H' q := by
  match c, h with
  | 0, h =>
    obtain ⟨⟨k1, k2, h1, h2, h3⟩, l1, l2, a1, a2⟩ := (show ISch H q _ _ from h)
    exact ⟨⟨k1, k2, s _ _ h1, s _ _ h2, s _ _ h3⟩, l1, l2, a1, a2⟩
  | 1, h => exact s _ _ h
  | 2, h => exact s _ _ h
  | 3, h => exact s _ _ h
  | 4, h => exact s _ _ h
  | c + 5, h => exact FKey.mono (show FKey H q _ from h) s
def klen (c : Nat) : Nat := if c = 5 then 48 else 16
def nw (c : Nat) : Nat := at_ [4, 2, 2, 4, 2, 4] c
def workM (c : Nat) (key ws : List Nat) : List Nat := match c with
  | 0 => ideaSealM (ideaKeysM key) ws
  | 1 => (sumsM (hfM key 8 32) 32).foldl xtStep ws
  | 2 => ((rcX 26 (hfM key.reverse 8 32).reverse (3 * 26)).1.drop 2).foldl r5Step (r5In (rcX 26 (hfM key.reverse 8 32).reverse (3 * 26)).1 ws)
  | 3 => rc6Out (rcX 44 (hfM key.reverse 8 32).reverse (3 * 44)).1 ((List.range 20).foldl (rc6F (rcX 44 (hfM key.reverse 8 32).reverse (3 * 44)).1) (rc6In (rcX 44 (hfM key.reverse 8 32).reverse (3 * 44)).1 ws))
  | 4 => (skK (hfM key.reverse 8 64).reverse 31).foldl speckM ws
  | _ => plus ((List.range 72).foldl (fishF (fkM (fishKw key) (fishTw key))) ws) (fkM (fishKw key) (fishTw key) 18)
def unworkM (c : Nat) (key ws : List Nat) : List Nat := match c with
  | 0 => ideaUnM (undoM (ideaKeysM key) 52) ws
  | 1 => (sumsM (hfM key 8 32) 32).reverse.foldl xtUn ws
  | 2 => r5Out (rcX 26 (hfM key.reverse 8 32).reverse (3 * 26)).1 (((rcX 26 (hfM key.reverse 8 32).reverse (3 * 26)).1.drop 2).reverse.foldl r5Un ws)
  | 3 => rc6UnOut (rcX 44 (hfM key.reverse 8 32).reverse (3 * 44)).1 ((List.range 20).foldl (rc6UnF (rcX 44 (hfM key.reverse 8 32).reverse (3 * 44)).1) (rc6UnIn (rcX 44 (hfM key.reverse 8 32).reverse (3 * 44)).1 ws))
  | 4 => (skK (hfM key.reverse 8 64).reverse 31).reverse.foldl skUn ws
  | _ => (List.range 72).foldl (fishUnF (fkM (fishKw key) (fishTw key))) (less ws (fkM (fishKw key) (fishTw key) 18))
def spW (c : Nat) (key : List Nat) (W : List Nat → List Nat) : Sp := fun vs H Q _ => ∃ p q, vs = [.ref p, .ref q] ∧ ∃ ws, H p = some (.lst (nvs ws)) ∧ ws.length = nw c ∧ AllLt (wbit c) ws ∧ Sch c key H q ∧ retW H Q (W ws)
/-- a def of two parameters that does the work W -/
def WFn (P : Program) (w : World) (K : PySem.W.Frag) (mg : Str → Option Value) (base : Heap) (c : Nat) (key : List Nat) (W : List Nat → List Nat) (f : Addr) : Prop :=
  ∃ fd ps, FnOk P w K mg base CX0 4 f fd ps (spW c key W) ∧ PySem.W.keepIn K (.ref f) = true ∧ Binds K fd ps []
section
variable {P : Program} {w : World} {K : PySem.W.Frag} {mg : Str → Option Value} {base : Heap} {a : Ad}
theorem lens (key : List Nat) : (hfM key.reverse 8 32).reverse.length = key.length * 8 / 32 ∧ (hfM key.reverse 8 64).reverse.length = key.length * 8 / 64 ∧ AllLt 64 (hfM key.reverse 8 64).reverse := by
  unfold hfM
  refine ⟨?_, ?_, (rowF_lt _ _ _).rev⟩
  · rw [List.length_reverse, rowF_len, List.length_reverse]
  · rw [List.length_reverse, rowF_len, List.length_reverse]
theorem rc_facts {t : Nat} {key : List Nat} (h : key.length = 16) : (rcX t (hfM key.reverse 8 32).reverse (3 * t)).1.length = t ∧ AllLt 32 (rcX t (hfM key.reverse 8 32).reverse (3 * t)).1 := by
  have o := rcX_ok (t := t) (l := (hfM key.reverse 8 32).reverse) (by rw [(lens key).1, h]) (3 * t)
  exact ⟨o.l1, o.a1⟩
theorem sk_facts {key : List Nat} (h : key.length = 16) : (skK (hfM key.reverse 8 64).reverse 31).length = 32 ∧ AllLt 64 (skK (hfM key.reverse 8 64).reverse 31) :=
  ⟨skK_len _ 31, skK_lt ⟨by rw [(lens key).2.1, h], (lens key).2.2⟩ 31 (Nat.le_refl _)⟩
theorem seal_fn (T : Txt K mg a) (key : List Nat) : ∀ c, c < 6 → key.length = klen c → ∃ f, ([.ref a.f_idea_seal, .ref a.f_xtea_seal, .ref a.f_rc5_seal, .ref a.f_rc6_seal, .ref a.f_speck_seal, .ref a.f_threefish_seal] : List V)[c]? = some (.ref f) ∧ WFn P w K mg base c key (workM c key) f
  | 0, _, hk => ⟨_, rfl, _, _, ((ok_idea_seal T).mono (by decide)).imp fun vs H Q E ⟨p, q, e, ws, h1, l, al, s, r⟩ => by
      obtain ⟨⟨k1, k2, h2, h3, h4⟩, l1, l2, a1, a2⟩ := (show ISch H q _ _ from s)
      exact ⟨p, q, e, ws, k1, k2, _, _, h1, h2, h3, h4, l1, l2, a1, a2, ⟨l, al⟩, r⟩, T.idea_seal.F.kp, T.idea_seal.b⟩
  | 1, _, hk => ⟨_, rfl, _, _, ((ok_xtea_seal T).mono (by decide)).imp fun vs H Q E ⟨p, q, e, ws, h1, l, al, s, r⟩ => ⟨p, q, e, ws, _, h1, s, sumsM_len _ _, sumsM_lt _ _, ⟨l, al⟩, r⟩, T.xtea_seal.F.kp, T.xtea_seal.b⟩
  | 2, _, hk => ⟨_, rfl, _, _, ((ok_rc5_seal T).mono (by decide)).imp fun vs H Q E ⟨p, q, e, ws, h1, l, al, s, r⟩ => ⟨p, q, e, ws, _, h1, s, (rc_facts hk).1, (rc_facts hk).2, ⟨l, al⟩, r⟩, T.rc5_seal.F.kp, T.rc5_seal.b⟩
  | 3, _, hk => ⟨_, rfl, _, _, ((ok_rc6_seal T).mono (by decide)).imp fun vs H Q E ⟨p, q, e, ws, h1, l, al, s, r⟩ => ⟨p, q, e, ws, _, h1, s, (rc_facts hk).1, (rc_facts hk).2, ⟨l, al⟩, r⟩, T.rc6_seal.F.kp, T.rc6_seal.b⟩
  | 4, _, hk => ⟨_, rfl, _, _, ((ok_speck_seal T).mono (by decide)).imp fun vs H Q E ⟨p, q, e, ws, h1, l, al, s, r⟩ => ⟨p, q, e, ws, _, h1, s, (sk_facts hk).1, (sk_facts hk).2, ⟨l, al⟩, r⟩, T.speck_seal.F.kp, T.speck_seal.b⟩
  | 5, _, hk => ⟨_, rfl, _, _, ((ok_threefish_seal T).mono (by decide)).imp fun vs H Q E ⟨p, q, e, ws, h1, l, al, s, r⟩ => ⟨p, q, e, ws, _, h1, s, ⟨l, al⟩, r⟩, T.threefish_seal.F.kp, T.threefish_seal.b⟩
  | _ + 6, h, _ => by omega
theorem unseal_fn (T : Txt K mg a) (key : List Nat) : ∀ c, c < 6 → key.length = klen c → ∃ f, ([.ref a.f_idea_unseal, .ref a.f_xtea_unseal, .ref a.f_rc5_unseal, .ref a.f_rc6_unseal, .ref a.f_speck_unseal, .ref a.f_threefish_unseal] : List V)[c]? = some (.ref f) ∧ WFn P w K mg base c key (unworkM c key) f
  | 0, _, hk => ⟨_, rfl, _, _, ((ok_idea_unseal T).mono (by decide)).imp fun vs H Q E ⟨p, q, e, ws, h1, l, al, s, r⟩ => by
      obtain ⟨⟨k1, k2, h2, h3, h4⟩, l1, l2, a1, a2⟩ := (show ISch H q _ _ from s)
      exact ⟨p, q, e, ws, k1, k2, _, _, h1, h2, h3, h4, l1, l2, a1, a2, ⟨l, al⟩, r⟩, T.idea_unseal.F.kp, T.idea_unseal.b⟩
  | 1, _, hk => ⟨_, rfl, _, _, ((ok_xtea_unseal T).mono (by decide)).imp fun vs H Q E ⟨p, q, e, ws, h1, l, al, s, r⟩ => ⟨p, q, e, ws, _, h1, s, sumsM_len _ _, sumsM_lt _ _, ⟨l, al⟩, r⟩, T.xtea_unseal.F.kp, T.xtea_unseal.b⟩
  | 2, _, hk => ⟨_, rfl, _, _, ((ok_rc5_unseal T).mono (by decide)).imp fun vs H Q E ⟨p, q, e, ws, h1, l, al, s, r⟩ => ⟨p, q, e, ws, _, h1, s, (rc_facts hk).1, (rc_facts hk).2, ⟨l, al⟩, r⟩, T.rc5_unseal.F.kp, T.rc5_unseal.b⟩
  | 3, _, hk => ⟨_, rfl, _, _, ((ok_rc6_unseal T).mono (by decide)).imp fun vs H Q E ⟨p, q, e, ws, h1, l, al, s, r⟩ => ⟨p, q, e, ws, _, h1, s, (rc_facts hk).1, (rc_facts hk).2, ⟨l, al⟩, r⟩, T.rc6_unseal.F.kp, T.rc6_unseal.b⟩
  | 4, _, hk => ⟨_, rfl, _, _, ((ok_speck_unseal T).mono (by decide)).imp fun vs H Q E ⟨p, q, e, ws, h1, l, al, s, r⟩ => ⟨p, q, e, ws, _, h1, s, (sk_facts hk).1, (sk_facts hk).2, ⟨l, al⟩, r⟩, T.speck_unseal.F.kp, T.speck_unseal.b⟩
  | 5, _, hk => ⟨_, rfl, _, _, ((ok_threefish_unseal T).mono (by decide)).imp fun vs H Q E ⟨p, q, e, ws, h1, l, al, s, r⟩ => ⟨p, q, e, ws, _, h1, s, ⟨l, al⟩, r⟩, T.threefish_unseal.F.kp, T.threefish_unseal.b⟩
  | _ + 6, h, _ => by omega
end
end Sx
end
section
set_option Elab.async false
set_option linter.all false
set_option maxRecDepth 100000
set_option maxHeartbeats 2000000
set_option exponentiation.threshold 2000
namespace Sx
open PySem PySem.Spec PyProof.Rows L2
local macro_rules | `(tactic| walk_at "fa") => `(tactic| (first
  | assumption
  | exact upd_same
  | (refine upd_get ?n ?g; (case n => assumption); (case g => walk_at "fa"))
  | (refine Same.use (Same.upd ?n) ?g; (case n => assumption); (case g => walk_at "fa"))
  | (refine Same.use (H := ?m) ?s ?g; (case s => assumption); (case g => walk_at "fa"))))
local macro_rules | `(tactic| walk_at "sm") => `(tactic| (first
  | assumption
  | exact Same.refl _
  | (refine Same.after (Same.upd ?n) ?g; (case n => assumption); (case g => walk_at "sm"))
  | (refine Same.after (H1 := ?m) ?s ?g; (case s => assumption); (case g => walk_at "sm"))))
local macro_rules | `(tactic| walk_at "nn") => `(tactic| (first
  | assumption
  | (refine Same.free (H' := ?m) ?s ?n; (case n => assumption); (case s => walk_at "sm"))))
local macro_rules | `(tactic| walk_at "lt") => `(tactic| (first
  | assumption
  | omega
  | exact Nat.mod_lt _ (by decide)
  | (refine at_lt ?_; walk_at "al")
  | exact mlt_lt _ _
  | exact sqd_lt
  | (refine Nat.xor_lt_two_pow ?_ ?_ <;> walk_at "lt")
  | (refine lft_lt ?_ (by decide); walk_at "lt")
  | (refine rgt_lt ?_ (by decide); walk_at "lt")
  | (refine lt64_of16 ?_; walk_at "lt")))
local macro_rules | `(tactic| walk_at "al") => `(tactic| (first
  | assumption
  | exact AllLt.nil
  | (refine AllLt.cons ?_ ?_; (walk_at "lt"); (walk_at "al"))
  | (refine AllLt.drop ?_; walk_at "al")
  | (refine AllLt.take ?_; walk_at "al")))
local macro_rules | `(tactic| walk_at "bd") => `(tactic| ((try dsimp only); first
  | (simp only [List.length_drop, List.length_take, List.length_cons, List.length_nil, List.length_map, List.length_range, nvs_len]; first | omega | decide)
  | omega
  | decide
  | ((with_reducible show AllLt _ _); walk_at "al")
  | walk_at "lt"
  | exact fun _ _ => trivial
  | (refine leM ?_; walk_at "lt")
  | (refine leL ?_; walk_at "lt")
  | (refine ⟨?_, ?_⟩ <;> walk_at "bd")))
local macro_rules | `(tactic| walk_at "rd") => `(tactic| repeat (walk_at "r1"))
local macro_rules | `(tactic| walk_at "r1") => `(tactic| (first
  | refine ⟨_, rfl, ?_⟩
  | refine ⟨_, _, rfl, rfl, ?_⟩
  | refine ⟨_, _, _, rfl, rfl, ?_⟩
  | refine ⟨_, _, _, rfl, rfl, rfl, ?_⟩
  | refine ⟨_, _, rfl, rfl, rfl, ?_⟩
  | refine ⟨_, _, _, rfl, ?_⟩
  | refine ⟨_, _, rfl, ?_⟩
  | (refine And.intro ?c ?_; (case c => (with_reducible show _ = some _); walk_at "fa"))
  | (refine ⟨?ws, ?h, ?_⟩; (case h => (with_reducible show _ = some (HO.lst _)); walk_at "fa"))
  | (refine ⟨?ws, ?ks, ?h, ?g, ?_⟩; (case h => (with_reducible show _ = some (HO.lst _)); walk_at "fa"); (case g => (with_reducible show _ = some (HO.lst _)); walk_at "fa"))
  | (refine ⟨?ws, SqL.of ?h, ?_⟩; (case h => walk_at "fa"))
  | (refine And.intro ⟨?ws, SqL.of ?h⟩ ?_; (case h => walk_at "fa"))
  | (refine ⟨_, ?xs, rfl, SqL.of ?h, ?_⟩; (case h => walk_at "fa"))
  | (refine ⟨_, ?xs, rfl, Or.inl (SqL.of ?h), ?_⟩; (case h => walk_at "fa"))
  | (refine ⟨_, _, ?xs, ?ys, rfl, SqL.of ?h, SqL.of ?g, ?_⟩; (case h => walk_at "fa"); (case g => walk_at "fa"))
  | (refine And.intro (Or.inl ⟨rfl, ?xs, SqL.of ?h⟩) ?_; (case h => walk_at "fa"))
  | refine And.intro rfl ?_
  | refine And.intro (by walk_at "bd") ?_
  | (refine ⟨_, ?xs, _, ?v, rfl, rfl, SqL.of ?h, ?e, ?_⟩; (case h => walk_at "fa"); (case e => first | exact rfl | (refine nvs_get (at_get ?_); walk_at "bd")))
  | (refine ⟨_, ?xs, _, ?v, rfl, rfl, SqT.of ?h, ?e, ?_⟩; (case h => walk_at "fa"); (case e => exact rfl))
  | refine retV.nvs_drop ?_
  | refine retV.nvs_take ?_
  | refine retV.nvs_cut ?_
  | ((with_reducible show retL _ _ _); intro Hn pn sn nn hn)
  | rw [nvs_reverse]
  | refine fun (pn : Addr) (nn : _ = none) => ?_))
open Sz25 (at_ M L GOLD plus less)
def regM (c : Nat) (row : List Nat) (b nb : Nat) : List Nat := if c < 2 then hfM row b nb else (hfM row.reverse b nb).reverse
theorem regM_len (c : Nat) (row : List Nat) (b nb : Nat) : (regM c row b nb).length = row.length * b / nb := by
  unfold regM hfM
  split
  · rw [rowF_len]
  · rw [List.length_reverse, rowF_len, List.length_reverse]
theorem regM_lt (c : Nat) (row : List Nat) (b nb : Nat) : AllLt nb (regM c row b nb) := by
  unfold regM hfM
  split
  · exact rowF_lt _ _ _
  · exact (rowF_lt _ _ _).rev
def spReg (c : Nat) : Sp := fun vs H Q _ => ∃ p b nb, vs = [.ref p, vn b, vn nb] ∧ ∃ row, H p = some (.lst (nvs row)) ∧ AllLt b row ∧ 0 < b ∧ b ≤ 128 ∧ b * row.length ≤ 512 ∧ 0 < nb ∧ nb ≤ 128 ∧ 1 ≤ row.length * b / nb ∧ row.length * b / nb ≤ 64 ∧ retL H Q (regM c row b nb)
theorem sizes : ∀ c, c < 6 → blk c * 8 / wbit c = nw c ∧ nw c * wbit c / 8 = blk c ∧ 0 < wbit c ∧ wbit c ≤ 64 ∧ wbit c * nw c ≤ 512 ∧ 8 * blk c ≤ 512 ∧ 1 ≤ nw c ∧ nw c ≤ 64 ∧ 1 ≤ blk c ∧ blk c ≤ 32 := by decide
section
variable {P : Program} {w : World} {K : PySem.W.Frag} {mg : Str → Option Value} {base : Heap} {a : Ad}
theorem reg_fn (T : Txt K mg a) : ∀ c, c < 6 → ∃ f fd, ([.ref a.f_highest_first, .ref a.f_highest_first, .ref a.f_lowest_first, .ref a.f_lowest_first, .ref a.f_lowest_first, .ref a.f_lowest_first] : List V)[c]? = some (.ref f) ∧ FnOk P w K mg base CX0 3 f fd ["row", "bits", "new_bits"] (spReg c) ∧ PySem.W.keepIn K (.ref f) = true ∧ Binds K fd ["row", "bits", "new_bits"] [] := by
  have hi : ∀ c, c < 2 → FnOk P w K mg base CX0 3 a.f_highest_first a.d_highest_first ["row", "bits", "new_bits"] (spReg c) := fun c hc => ((ok_highest_first T).mono (by decide)).imp fun vs H Q E h => by
    unfold spReg regM at h
    simp only [if_pos hc] at h
    exact h
  have lo : ∀ c, ¬ c < 2 → FnOk P w K mg base CX0 3 a.f_lowest_first a.d_lowest_first ["row", "bits", "new_bits"] (spReg c) := fun c hc => ((ok_lowest_first T).mono (by decide)).imp fun vs H Q E h => by
    unfold spReg regM at h
    simp only [if_neg hc] at h
    exact h
  intro c hc
  match c, hc with
  | 0, _ => exact ⟨_, _, rfl, hi 0 (by decide), T.highest_first.F.kp, T.highest_first.b⟩
  | 1, _ => exact ⟨_, _, rfl, hi 1 (by decide), T.highest_first.F.kp, T.highest_first.b⟩
  | 2, _ => exact ⟨_, _, rfl, lo 2 (by decide), T.lowest_first.F.kp, T.lowest_first.b⟩
  | 3, _ => exact ⟨_, _, rfl, lo 3 (by decide), T.lowest_first.F.kp, T.lowest_first.b⟩
  | 4, _ => exact ⟨_, _, rfl, lo 4 (by decide), T.lowest_first.F.kp, T.lowest_first.b⟩
  | 5, _ => exact ⟨_, _, rfl, lo 5 (by decide), T.lowest_first.F.kp, T.lowest_first.b⟩
def spWk (P : Program) (w : World) (K : PySem.W.Frag) (mg : Str → Option Value) (base : Heap) (C : Addr) : Sp := fun vs H Q _ => ∃ x f pb, vs = [.ref x, .ref f, .ref pb] ∧ ∃ c key q t W b, SealAt C H x (vn c) (.ref q) t ∧ c < 6 ∧ Sch c key H q ∧ WFn P w K mg base c key W f ∧
  (∀ ws, ws.length = nw c → AllLt (wbit c) ws → (W ws).length = nw c ∧ AllLt (wbit c) (W ws)) ∧ H pb = some (.lst (nvs b)) ∧ b.length = blk c ∧ AllLt 8 b ∧ retL H Q (regM c (W (regM c b 8 (wbit c))) (wbit c) 8)
theorem ok_worked (T : Txt K mg a) : FnOk P w K mg base CX0 5 a.f_worked a.d_worked ["self", "work", "block"] (spWk P w K mg base a.C) := by
  refine T.worked.F.ok sc_worked (fun vs H Q E h => ?_) (fun cdv A outer s H vs Q E hr h => ?_)
  · obtain ⟨_, _, _, rfl, _⟩ := h
    rfl
  · skip

    obtain ⟨x, f, pb, rfl, c, key, q0, t, W, b, ⟨dx, hx⟩, hc, sc, ⟨fd, ps, G, kp, bd⟩, hW, hb, lb, ab, q⟩ := h
    obtain ⟨fr, fdr, er, Gr, kr, br⟩ := reg_fn (P := P) (w := w) (base := base) T c hc
    obtain ⟨z1, z2, z3, z4, z5, z6, z7, z8, z9, z10⟩ := sizes c hc
    refine ⟨_, pss_cons (ps_set (i := 3) sc_worked.nd rfl (by first | exact Or.inl rfl | exact Or.inr rfl) (pe_ix ix_tupN (pe_glob (v := .ref a.t_REGROUPS) rfl T.g_REGROUPS rfl) (pe_fld (pv 0) rfl) (fun _ _ => rfl)))
      (pss_cons (ps_set (i := 4) sc_worked.nd rfl (by first | exact Or.inl rfl | exact Or.inr rfl) (pe_ix ix_tupN (pe_glob (v := .ref a.t_WORD_BITS) rfl T.g_WORD_BITS rfl) (pe_fld (pv 0) rfl) (fun _ _ => rfl)))
      (pss_one (ps_ret (pe_callV (pv 3) (pa_cons (pe_callV (pv 1) (pa_cons (pe_callV (pv 3) (pa_cons (pv 2) (pa_cons (pe_nat 8) (pa_cons (pv 4) pa_nil)))) (pa_cons (pe_fld (pv 0) rfl) pa_nil))) (pa_cons (pv 4) (pa_cons (pe_nat 8) pa_nil))))))), ?_⟩
    refine ⟨_, rfl, _, _, _, _, _, rfl, hx, T.cl, T.na_cipher, sfl_c _ _ _, _, _, _, _, rfl, rfl, T.q_REGROUPS.sq, er, ?_⟩
    refine ⟨_, rfl, _, _, _, _, _, rfl, hx, T.cl, T.na_cipher, sfl_c _ _ _, _, _, _, _, rfl, rfl, T.q_WORD_BITS.sq, nvs_get (at_get hc), ?_⟩
    refine ⟨_, rfl, fr, fdr, _, spReg c, 3, rfl, Gr, hr.mono (by decide), kr, br, ?_⟩
    refine ⟨_, rfl, f, fd, ps, spW c key W, 4, rfl, G, hr.mono (by decide), kp, bd, ?_⟩
    refine ⟨_, rfl, fr, fdr, _, spReg c, 3, rfl, Gr, hr.mono (by decide), kr, br, ?_⟩
    refine ⟨_, rfl, _, rfl, ?_⟩
    refine ⟨_, _, _, rfl, b, hb, ab, by decide, by decide, by rw [lb]; exact z6, z3, by show wbit c ≤ 128; omega, by rw [lb]; show 1 ≤ blk c * 8 / wbit c; rw [z1]; exact z7, by rw [lb]; show blk c * 8 / wbit c ≤ 64; rw [z1]; exact z8, ?_⟩
    intro H1 p1 s1 n1 h1
    refine ⟨_, rfl, _, _, _, _, _, rfl, s1 _ _ hx, T.cl, T.na_schedule, sfl_s _ _ _, ?_⟩
    have r1 : (regM c b 8 (wbit c)).length = nw c := by rw [regM_len, lb]; exact z1
    have r2 : AllLt (wbit c) (regM c b 8 (wbit c)) := regM_lt _ _ _ _
    obtain ⟨r3, r4⟩ := hW _ r1 r2
    refine ⟨_, _, rfl, _, h1, r1, r2, sc.mono s1, ?_⟩
    intro H2 p2 s2 h2
    refine ⟨_, rfl, ?_⟩
    refine ⟨_, _, _, rfl, _, h2, r4, z3, by show wbit c ≤ 128; omega, by show wbit c * (W (regM c b 8 (wbit c))).length ≤ 512; rw [r3]; exact z5, by decide, by decide, by show 1 ≤ (W (regM c b 8 (wbit c))).length * wbit c / 8; rw [r3, z2]; exact z9, by show (W (regM c b 8 (wbit c))).length * wbit c / 8 ≤ 64; rw [r3, z2]; omega, ?_⟩
    intro H3 p3 s3 n3 h3
    exact q.use ((s1.trans s2).trans s3) ((s1.trans s2).free n3) h3
/-! the words that come out are words -/
theorem work_ok {c : Nat} {key : List Nat} (hc : c < 6) (hk : key.length = klen c) (ws : List Nat) (l : ws.length = nw c) (al : AllLt (wbit c) ws) : (workM c key ws).length = nw c ∧ AllLt (wbit c) (workM c key ws) := by
  match c, hc, hk, l, al with
  | 0, _, hk, l, al => exact keyedM_ok _ _
  | 1, _, hk, l, al => exact fold_inv (f := xtStep) (Ok2 32) ⟨l, al⟩ xtStep_ok _
  | 2, _, hk, l, al => exact fold_inv (f := r5Step) (Ok2 32) (ok2 (Nat.mod_lt _ (by decide)) (Nat.mod_lt _ (by decide))) r5Step_ok _
  | 3, _, hk, l, al =>
    have o := fold_inv (f := rc6F (rcX 44 (hfM key.reverse 8 32).reverse (3 * 44)).1) (Ok4 32) (rc6In_ok (rcX 44 (hfM key.reverse 8 32).reverse (3 * 44)).1 ws ⟨l, al⟩) (fun v i => rc6Round_ok v _ _) (List.range 20)
    exact ok4 (Nat.mod_lt _ (by decide)) (at_lt o.2) (Nat.mod_lt _ (by decide)) (at_lt o.2)
  | 4, _, hk, l, al => exact fold_invM (f := speckM) (Ok2 64) _ ws ⟨l, al⟩ fun v x hx => speckM_ok v x ((sk_facts hk).2 x hx)
  | 5, _, hk, l, al =>
    have o : Ok4 64 ((List.range 72).foldl (fishF (fkM (fishKw key) (fishTw key))) ws) := fold_invM' (f := fishF (fkM (fishKw key) (fishTw key))) (Ok4 64) (List.range 72) ws ⟨l, al⟩ fun v i hi o => by
      unfold fishF
      refine fishRound_ok i ?_
      split
      · exact plus_ok o.1 (fkM_ok _ _ _).1
      · exact o
    exact plus_ok o.1 (fkM_ok _ _ _).1
theorem unwork_ok {c : Nat} {key : List Nat} (hc : c < 6) (hk : key.length = klen c) (ws : List Nat) (l : ws.length = nw c) (al : AllLt (wbit c) ws) : (unworkM c key ws).length = nw c ∧ AllLt (wbit c) (unworkM c key ws) := by
  match c, hc, hk, l, al with
  | 0, _, hk, l, al =>
    have o : Ok4 16 (ideaUnM (undoM (ideaKeysM key) 52) ws) := by
      unfold ideaUnM
      exact fold_inv (f := ideaUnF (undoM (ideaKeysM key) 52)) (Ok4 16) (swapM_ok (keyedM_ok _ _)) (fun v i _ => by unfold ideaUnF; exact keyedM_ok _ _) (List.range 8)
    exact o
  | 1, _, hk, l, al => exact fold_inv (f := xtUn) (Ok2 32) ⟨l, al⟩ xtUn_ok _
  | 2, _, hk, l, al => exact ok2 (Nat.mod_lt _ (by decide)) (Nat.mod_lt _ (by decide))
  | 3, _, hk, l, al =>
    have o := fold_inv (f := rc6UnF (rcX 44 (hfM key.reverse 8 32).reverse (3 * 44)).1) (Ok4 32) (rc6UnIn_ok (rcX 44 (hfM key.reverse 8 32).reverse (3 * 44)).1 ws ⟨l, al⟩) (fun v i => rc6Unround_ok v _ _) (List.range 20)
    exact ok4 (at_lt o.2) (Nat.mod_lt _ (by decide)) (at_lt o.2) (Nat.mod_lt _ (by decide))
  | 4, _, hk, l, al => exact fold_inv (f := skUn) (Ok2 64) ⟨l, al⟩ skUn_ok _
  | 5, _, hk, l, al =>
    exact fold_invM' (f := fishUnF (fkM (fishKw key) (fishTw key))) (Ok4 64) (List.range 72) (less ws (fkM (fishKw key) (fishTw key) 18)) (less_ok l (fkM_ok _ _ _).1) fun v i hi o => by
      unfold fishUnF
      split
      · exact less_ok (fishUnround_ok _ o).1 (fkM_ok _ _ _).1
      · exact fishUnround_ok _ o
/-- a block sealed, unsealed -/
def sealM (c : Nat) (key b : List Nat) : List Nat := regM c (workM c key (regM c b 8 (wbit c))) (wbit c) 8
def unsealM (c : Nat) (key b : List Nat) : List Nat := regM c (unworkM c key (regM c b 8 (wbit c))) (wbit c) 8
def spSealed (C : Addr) (f : Nat → List Nat → List Nat → List Nat) : Sp := fun vs H Q _ => ∃ x pb, vs = [.ref x, .ref pb] ∧ ∃ c key q t b, SealAt C H x (vn c) (.ref q) t ∧ c < 6 ∧ key.length = klen c ∧ Sch c key H q ∧ H pb = some (.lst (nvs b)) ∧ b.length = blk c ∧ AllLt 8 b ∧ retL H Q (f c key b)
theorem ok_sealed (T : Txt K mg a) : FnOk P w K mg base CX0 6 a.f_sealed a.d_sealed ["self", "block"] (spSealed a.C sealM) := by
  refine T.sealed.F.ok sc_sealed (fun vs H Q E h => ?_) (fun cdv A outer s H vs Q E hr h => ?_)
  · obtain ⟨_, _, rfl, _⟩ := h
    rfl
  · skip
    have G_worked := ok_worked (P := P) (w := w) (base := base) T
    obtain ⟨x, pb, rfl, c, key, q0, t, b, ⟨dx, hx⟩, hc, hk, sc, hb, lb, ab, q⟩ := h
    obtain ⟨f, e, G⟩ := seal_fn (P := P) (w := w) (base := base) T key c hc hk
    refine ⟨_, pss_one (ps_ret (pe_meth (pv 0) T.cl T.worked.m G_worked (hr.mono (by decide)) T.worked.b .nil pass0 (pa_cons (pe_ix ix_tupN (pe_glob (v := .ref a.t_SEALS) rfl T.g_SEALS rfl) (pe_fld (pv 0) rfl) (fun _ _ => rfl)) (pa_cons (pv 1) pa_nil)))), ?_⟩
    refine ⟨_, rfl, x, dx, _, rfl, hx, sfl_no _ _ _ (by decide +kernel) (by decide +kernel) (by decide +kernel), ?_⟩
    refine ⟨_, rfl, _, _, _, _, _, rfl, hx, T.cl, T.na_cipher, sfl_c _ _ _, _, _, _, _, rfl, rfl, T.q_SEALS.sq, e, _, rfl, ?_⟩
    exact ⟨_, _, _, rfl, c, key, q0, t, workM c key, b, ⟨dx, hx⟩, hc, sc, G, work_ok hc hk, hb, lb, ab, q⟩
theorem ok_unsealed (T : Txt K mg a) : FnOk P w K mg base CX0 6 a.f_unsealed a.d_unsealed ["self", "block"] (spSealed a.C unsealM) := by
  refine T.unsealed.F.ok sc_unsealed (fun vs H Q E h => ?_) (fun cdv A outer s H vs Q E hr h => ?_)
  · obtain ⟨_, _, rfl, _⟩ := h
    rfl
  · skip
    have G_worked := ok_worked (P := P) (w := w) (base := base) T
    obtain ⟨x, pb, rfl, c, key, q0, t, b, ⟨dx, hx⟩, hc, hk, sc, hb, lb, ab, q⟩ := h
    obtain ⟨f, e, G⟩ := unseal_fn (P := P) (w := w) (base := base) T key c hc hk
    refine ⟨_, pss_one (ps_ret (pe_meth (pv 0) T.cl T.worked.m G_worked (hr.mono (by decide)) T.worked.b .nil pass0 (pa_cons (pe_ix ix_tupN (pe_glob (v := .ref a.t_UNSEALS) rfl T.g_UNSEALS rfl) (pe_fld (pv 0) rfl) (fun _ _ => rfl)) (pa_cons (pv 1) pa_nil)))), ?_⟩
    refine ⟨_, rfl, x, dx, _, rfl, hx, sfl_no _ _ _ (by decide +kernel) (by decide +kernel) (by decide +kernel), ?_⟩
    refine ⟨_, rfl, _, _, _, _, _, rfl, hx, T.cl, T.na_cipher, sfl_c _ _ _, _, _, _, _, rfl, rfl, T.q_UNSEALS.sq, e, _, rfl, ?_⟩
    exact ⟨_, _, _, rfl, c, key, q0, t, unworkM c key, b, ⟨dx, hx⟩, hc, sc, G, unwork_ok hc hk, hb, lb, ab, q⟩
end
end Sx
end
section
set_option Elab.async false
set_option linter.all false
set_option maxRecDepth 100000
set_option maxHeartbeats 2000000
set_option exponentiation.threshold 2000
namespace Sx
open PySem PySem.Spec PyProof.Rows L2
local macro_rules | `(tactic| walk_at "fa") => `(tactic| (first
  | assumption
  | exact upd_same
  | (refine upd_get ?n ?g; (case n => assumption); (case g => walk_at "fa"))
  | (refine Same.use (Same.upd ?n) ?g; (case n => assumption); (case g => walk_at "fa"))
  | (refine Same.use (H := ?m) ?s ?g; (case s => assumption); (case g => walk_at "fa"))))
local macro_rules | `(tactic| walk_at "sm") => `(tactic| (first
  | assumption
  | exact Same.refl _
  | (refine Same.after (Same.upd ?n) ?g; (case n => assumption); (case g => walk_at "sm"))
  | (refine Same.after (H1 := ?m) ?s ?g; (case s => assumption); (case g => walk_at "sm"))))
local macro_rules | `(tactic| walk_at "nn") => `(tactic| (first
  | assumption
  | (refine Same.free (H' := ?m) ?s ?n; (case n => assumption); (case s => walk_at "sm"))))
local macro_rules | `(tactic| walk_at "lt") => `(tactic| (first
  | assumption
  | omega
  | exact Nat.mod_lt _ (by decide)
  | (refine at_lt ?_; walk_at "al")
  | exact mlt_lt _ _
  | exact sqd_lt
  | (refine Nat.xor_lt_two_pow ?_ ?_ <;> walk_at "lt")
  | (refine lft_lt ?_ (by decide); walk_at "lt")
  | (refine rgt_lt ?_ (by decide); walk_at "lt")
  | (refine lt64_of16 ?_; walk_at "lt")))
local macro_rules | `(tactic| walk_at "al") => `(tactic| (first
  | assumption
  | exact AllLt.nil
  | (refine AllLt.cons ?_ ?_; (walk_at "lt"); (walk_at "al"))
  | (refine AllLt.drop ?_; walk_at "al")
  | (refine AllLt.take ?_; walk_at "al")))
local macro_rules | `(tactic| walk_at "bd") => `(tactic| ((try dsimp only); first
  | (simp only [List.length_drop, List.length_take, List.length_cons, List.length_nil, List.length_map, List.length_range, nvs_len]; first | omega | decide)
  | omega
  | decide
  | ((with_reducible show AllLt _ _); walk_at "al")
  | walk_at "lt"
  | exact fun _ _ => trivial
  | (refine leM ?_; walk_at "lt")
  | (refine leL ?_; walk_at "lt")
  | (refine ⟨?_, ?_⟩ <;> walk_at "bd")))
local macro_rules | `(tactic| walk_at "rd") => `(tactic| repeat (walk_at "r1"))
local macro_rules | `(tactic| walk_at "r1") => `(tactic| (first
  | refine ⟨_, rfl, ?_⟩
  | refine ⟨_, _, rfl, rfl, ?_⟩
  | refine ⟨_, _, _, rfl, rfl, ?_⟩
  | refine ⟨_, _, _, rfl, rfl, rfl, ?_⟩
  | refine ⟨_, _, rfl, rfl, rfl, ?_⟩
  | refine ⟨_, _, _, rfl, ?_⟩
  | refine ⟨_, _, rfl, ?_⟩
  | (refine And.intro ?c ?_; (case c => (with_reducible show _ = some _); walk_at "fa"))
  | (refine ⟨?ws, ?h, ?_⟩; (case h => (with_reducible show _ = some (HO.lst _)); walk_at "fa"))
  | (refine ⟨?ws, ?ks, ?h, ?g, ?_⟩; (case h => (with_reducible show _ = some (HO.lst _)); walk_at "fa"); (case g => (with_reducible show _ = some (HO.lst _)); walk_at "fa"))
  | (refine ⟨?ws, SqL.of ?h, ?_⟩; (case h => walk_at "fa"))
  | (refine And.intro ⟨?ws, SqL.of ?h⟩ ?_; (case h => walk_at "fa"))
  | (refine ⟨_, ?xs, rfl, SqL.of ?h, ?_⟩; (case h => walk_at "fa"))
  | (refine ⟨_, ?xs, rfl, Or.inl (SqL.of ?h), ?_⟩; (case h => walk_at "fa"))
  | (refine ⟨_, _, ?xs, ?ys, rfl, SqL.of ?h, SqL.of ?g, ?_⟩; (case h => walk_at "fa"); (case g => walk_at "fa"))
  | (refine And.intro (Or.inl ⟨rfl, ?xs, SqL.of ?h⟩) ?_; (case h => walk_at "fa"))
  | refine And.intro rfl ?_
  | refine And.intro (by walk_at "bd") ?_
  | (refine ⟨_, ?xs, _, ?v, rfl, rfl, SqL.of ?h, ?e, ?_⟩; (case h => walk_at "fa"); (case e => first | exact rfl | (refine nvs_get (at_get ?_); walk_at "bd")))
  | (refine ⟨_, ?xs, _, ?v, rfl, rfl, SqT.of ?h, ?e, ?_⟩; (case h => walk_at "fa"); (case e => exact rfl))
  | refine retV.nvs_drop ?_
  | refine retV.nvs_take ?_
  | refine retV.nvs_cut ?_
  | ((with_reducible show retL _ _ _); intro Hn pn sn nn hn)
  | rw [nvs_reverse]
  | refine fun (pn : Addr) (nn : _ = none) => ?_))
open Sz25 (at_ M L GOLD plus less)
/-- all but x is as it was -/
def Keep (x : Addr) (H H' : Hp) : Prop := ∀ b o, H b = some o → b ≠ x → H' b = some o
theorem Keep.trans {x : Addr} {H H1 H2 : Hp} (a : Keep x H H1) (b : Keep x H1 H2) : Keep x H H2 := fun c o h n => b c o (a c o h n) n
theorem Keep.of {x : Addr} {H H' : Hp} (s : Same H H') : Keep x H H' := fun b o h _ => s b o h
theorem Keep.put {x : Addr} {H : Hp} {o : HO} : Keep x H (upd H x o) := fun b u h n => by rw [upd_ne n]; exact h
theorem Keep.lst {x C dx : Addr} {fs : List (Str × V)} {H H' : Hp} {p : Addr} {xs : List V} (k : Keep x H H') (hx : H x = some (.ins C dx fs)) (h : H p = some (.lst xs)) : H' p = some (.lst xs) := k _ _ h (ne_of h hx (by intro z; cases z))
theorem Keep.tup {x C dx : Addr} {fs : List (Str × V)} {H H' : Hp} {p : Addr} {xs : List V} (k : Keep x H H') (hx : H x = some (.ins C dx fs)) (h : H p = some (.tup xs)) : H' p = some (.tup xs) := k _ _ h (ne_of h hx (by intro z; cases z))
theorem Sch.keep {c : Nat} {key : List Nat} {H H' : Hp} {q x C dx : Addr} {fs : List (Str × V)} (h : Sch c key H q) (k : Keep x H H') (hx : H x = some (.ins C dx fs)) : Sch c key H' q := by
  match c, h with
  | 0, h =>
    obtain ⟨⟨k1, k2, h1, h2, h3⟩, l1, l2, a1, a2⟩ := (show ISch H q _ _ from h)
    exact ⟨⟨k1, k2, k.tup hx h1, k.lst hx h2, k.lst hx h3⟩, l1, l2, a1, a2⟩
  | 1, h => exact k.lst hx h
  | 2, h => exact k.lst hx h
  | 3, h => exact k.lst hx h
  | 4, h => exact k.lst hx h
  | c + 5, h =>
    obtain ⟨⟨xs, h1, h2⟩, h3⟩ := (show FKey H q _ from h)
    exact ⟨⟨xs, k.lst hx h1, fun j hj => let ⟨r, e1, e2⟩ := h2 j hj; ⟨r, e1, k.lst hx e2⟩⟩, h3⟩
/-- the heap without the addresses A -/
def del (A : List Addr) (H : Hp) : Hp := fun b => if b ∈ A then none else H b
theorem del_get {A : List Addr} {H : Hp} {b : Addr} {o : HO} (n : b ∉ A) (h : H b = some o) : del A H b = some o := by unfold del; rw [if_neg n]; exact h
theorem del_of {A : List Addr} {H : Hp} {b : Addr} {o : HO} (h : del A H b = some o) : b ∉ A ∧ H b = some o := by
  unfold del at h
  by_cases n : b ∈ A
  · rw [if_pos n] at h; cases h
  · rw [if_neg n] at h; exact ⟨n, h⟩
theorem del_same (A : List Addr) (H : Hp) : Same (del A H) H := fun b o h => (del_of h).2
theorem same_del {A : List Addr} {H H' : Hp} (s : Same H H') : Same (del A H) (del A H') := fun b o h => del_get (del_of h).1 (s _ _ (del_of h).2)
theorem Keep.del {x : Addr} {A : List Addr} {H H' : Hp} (k : Keep x H H') : Keep x (del A H) (del A H') := fun b o h n => del_get (del_of h).1 (k _ _ (del_of h).2 n)
theorem del_upd {A : List Addr} {H : Hp} {p : Addr} {o : HO} (h : p ∈ A) : del A (upd H p o) = del A H := by
  funext b
  unfold del
  by_cases n : b ∈ A
  · rw [if_pos n, if_pos n]
  · rw [if_neg n, if_neg n, upd_ne (fun z => n (by rw [z]; exact h))]
/-- they are all there -/
def Tr (A : List Addr) (H : Hp) : Prop := ∀ b ∈ A, ∃ o, H b = some o
theorem Tr.mono {A : List Addr} {H H' : Hp} (t : Tr A H) (s : Same H H') : Tr A H' := fun b hb => let ⟨o, h⟩ := t b hb; ⟨o, s _ _ h⟩
theorem Tr.keep {A : List Addr} {x : Addr} {H H' : Hp} (t : Tr A H) (k : Keep x H H') (n : x ∉ A) : Tr A H' := fun b hb => let ⟨o, h⟩ := t b hb; ⟨o, k _ _ h fun z => n (by rw [← z]; exact hb)⟩
theorem Tr.fresh {A : List Addr} {H : Hp} {b : Addr} (t : Tr A H) (n : H b = none) : b ∉ A := fun hb => by
  obtain ⟨o, h⟩ := t b hb
  rw [n] at h
  cases h
theorem nw_del {A : List Addr} {H H' : Hp} (t : Tr A H) : Same (Nw H H') (del A H') := fun b o h => del_get (t.fresh (nw_of h).1) (nw_of h).2
/-- the object as it stands: cipher, key, what stands for the next block -/
structure Std (C : Addr) (H : Hp) (x : Addr) (c : Nat) (key iv : List Nat) : Prop where
  ex : ∃ q t, SealAt C H x (vn c) (.ref q) (.ref t) ∧ Sch c key H q ∧ H t = some (.lst (nvs iv))
  hc : c < 6
  hk : key.length = klen c
  li : iv.length = blk c
  ai : AllLt 8 iv
theorem Std.mono {C : Addr} {H H' : Hp} {x : Addr} {c : Nat} {key iv : List Nat} (h : Std C H x c key iv) (s : Same H H') : Std C H' x c key iv := by
  obtain ⟨⟨q, t, h1, h2, h3⟩, a, b, d, e⟩ := h
  exact ⟨⟨q, t, h1.mono s, h2.mono s, s _ _ h3⟩, a, b, d, e⟩
def spTK (C : Addr) : Sp := fun vs H Q _ => ∃ (x : Addr) (c : Int) (p : Addr), vs = [.ref x, .int c, .ref p] ∧ ∃ cv sv tv key A, SealAt C (del A H) x cv sv tv ∧ Tr A H ∧ H p = some (.lst (nvs key)) ∧ ((c < 0 ∨ 5 < c) → Q (.int (-1)) H) ∧
  ∀ n : Nat, c = (n : Int) → n < 6 → key.length = klen n ∧ AllLt 8 key ∧ ∀ H', Std C (del A H') x n key (List.replicate (blk n) 0) → Keep x H H' → Q (vn 0) H'
def spTS (C : Addr) : Sp := fun vs H Q _ => ∃ (x p : Addr), vs = [.ref x, .ref p] ∧ ∃ c key iv v A, Std C (del A H) x c key v ∧ Tr A H ∧ H p = some (.lst (nvs iv)) ∧ 32 ≤ iv.length ∧ AllLt 8 iv ∧ ∀ H', Std C (del A H') x c key (iv.take (blk c)) → Keep x H H' → Q (vn 0) H'
section
variable {P : Program} {w : World} {K : PySem.W.Frag} {mg : Str → Option Value} {base : Heap} {a : Ad}
theorem spread_fn (T : Txt K mg a) : ∀ c, c < 6 → ∃ f fd ps, ([.ref a.f_idea_spread, .ref a.f_xtea_spread, .ref a.f_rc5_spread, .ref a.f_rc6_spread, .ref a.f_speck_spread, .ref a.f_threefish_spread] : List V)[c]? = some (.ref f) ∧ FnOk P w K mg base CX0 5 f fd ps (spSpread (klen c) fun key H q => Sch c key H q) ∧ PySem.W.keepIn K (.ref f) = true ∧ Binds K fd ps []
  | 0, _ => ⟨_, _, _, rfl, (ok_idea_spread T).mono (by decide), T.idea_spread.F.kp, T.idea_spread.b⟩
  | 1, _ => ⟨_, _, _, rfl, (ok_xtea_spread T).mono (by decide), T.xtea_spread.F.kp, T.xtea_spread.b⟩
  | 2, _ => ⟨_, _, _, rfl, (ok_rc5_spread T).mono (by decide), T.rc5_spread.F.kp, T.rc5_spread.b⟩
  | 3, _ => ⟨_, _, _, rfl, (ok_rc6_spread T).mono (by decide), T.rc6_spread.F.kp, T.rc6_spread.b⟩
  | 4, _ => ⟨_, _, _, rfl, (ok_speck_spread T).mono (by decide), T.speck_spread.F.kp, T.speck_spread.b⟩
  | 5, _ => ⟨_, _, _, rfl, (ok_threefish_spread T).mono (by decide), T.threefish_spread.F.kp, T.threefish_spread.b⟩
  | _ + 6, h => by omega
theorem rep0 (n : Nat) : (List.replicate n [vn 0]).flatten = nvs (List.replicate n 0) := by
  induction n with
  | zero => rfl
  | succ n ih =>
    rw [List.replicate_succ, List.flatten_cons, ih, List.replicate_succ]
    rfl
theorem ok_take_key (T : Txt K mg a) : FnOk P w K mg base CX0 6 a.f_take_key a.d_take_key ["self", "cipher", "key"] (spTK a.C) := by
  refine T.take_key.F.ok sc_take_key (fun vs H Q E h => ?_) (fun cdv A outer s H vs Q E hr h => ?_)
  · obtain ⟨_, _, _, rfl, _⟩ := h
    rfl
  · skip

    have G_block_size := ok_block_size (P := P) (w := w) (base := base) T
    obtain ⟨x, c, p, rfl, cv, sv, tv, key, A, ⟨dx, hx⟩, tr, hp, q1, q2⟩ := h
    obtain ⟨xA, hx⟩ := del_of hx
    refine ⟨_, pss_cons (ps_if (PW.pt (pw_or (pt_cmpR op_ltI (pv 1) (pe_nat 0) (nomark _)) (pw_or1 (pt_cmpR op_gtI (pv 1) (pe_nat 5) (nomark _))))) (pss_one (ps_ret (pe_un un_neg (pe_nat 1)))) pss_nil)
      (pss_cons (ps_fld (pv 0) (pv 1) rfl)
      (pss_cons (ps_fld (pv 0) (pe_callV (pe_ix ix_tupN (pe_glob (v := .ref a.t_SPREADS) rfl T.g_SPREADS rfl) (pv 1) (fun _ _ => rfl)) (pa_cons (pv 2) pa_nil)) rfl)
      (pss_cons (ps_fld (pv 0) (pe_op op_rep (pe_lst (pa_cons (pe_nat 0) pa_nil)) (pe_meth0 (pv 0) T.cl T.block_size.m G_block_size (hr.mono (by decide)) T.block_size.b .nil pass0)) rfl)
      (pss_one (ps_ret (pe_nat 0)))))), ?_⟩
    refine ⟨_, rfl, _, _, rfl, rfl, _, rfl, ?_⟩
    refine ite2 (fun hd => ?_) (fun hd => ?_)
    · have hd : c < 0 := of_decide_eq_true hd
      refine iteT ?_
      exact ⟨_, rfl, q1 (.inl hd)⟩
    · have hd : ¬ c < 0 := of_decide_eq_false (eq_false_of_ne_true hd)
      refine ⟨_, rfl, _, _, rfl, rfl, _, rfl, ?_⟩
      refine ite2 (fun he => ?_) (fun he => ?_)
      · have he : 5 < c := of_decide_eq_true he
        exact ⟨_, rfl, q1 (.inr he)⟩
      · have he : ¬ 5 < c := of_decide_eq_false (eq_false_of_ne_true he)
        obtain ⟨n, rfl⟩ : ∃ n : Nat, c = (n : Int) := ⟨c.toNat, by omega⟩
        have hn : n < 6 := by omega
        obtain ⟨hk, ak, q⟩ := q2 n rfl hn
        obtain ⟨f, fd, ps, e, G, kp, bd⟩ := spread_fn (P := P) (w := w) (base := base) T n hn
        refine ⟨_, rfl, _, rfl, x, a.C, dx, _, rfl, hx, T.cl, T.na_cipher, (by show 3 < 1000; decide), ?_⟩
        rw [sfl_put_c]
        have k1 : Keep x H (upd H x (.ins a.C dx (sfl (vn n) sv tv))) := Keep.put
        have h1 : (upd H x (.ins a.C dx (sfl (vn n) sv tv))) x = some (.ins a.C dx (sfl (vn n) sv tv)) := upd_same
        have hp1 := k1.lst hx hp
        generalize upd H x (.ins a.C dx (sfl (vn n) sv tv)) = H1 at k1 h1 hp1
        refine ⟨_, rfl, _, _, _, _, rfl, rfl, T.q_SPREADS.sq, e, f, fd, ps, _, 5, rfl, G, hr.mono (by decide), kp, bd, _, rfl, ?_⟩
        refine ⟨_, rfl, key, hp1, hk, ak, fun H2 q0 s2 sc => ?_⟩
        have h2 := s2 _ _ h1
        have tr1 := tr.keep k1 xA
        have tr2 := tr1.mono s2
        have sc : Sch n key (del A H2) q0 := Sch.mono sc (nw_del tr1)
        refine ⟨_, rfl, x, a.C, dx, _, rfl, h2, T.cl, T.na_schedule, (by show 3 < 1000; decide), ?_⟩
        rw [sfl_put_s]
        have k3 : Keep x H2 (upd H2 x (.ins a.C dx (sfl (vn n) (.ref q0) tv))) := Keep.put
        have h3 : (upd H2 x (.ins a.C dx (sfl (vn n) (.ref q0) tv))) x = some (.ins a.C dx (sfl (vn n) (.ref q0) tv)) := upd_same
        have sc3 := sc.keep k3.del (del_get xA h2)
        have tr3 := tr2.keep k3 xA
        generalize upd H2 x (.ins a.C dx (sfl (vn n) (.ref q0) tv)) = H3 at k3 h3 sc3 tr3
        refine ⟨by decide, fun l nl => ?_⟩
        have h4 : (upd H3 l (.lst [vn 0])) x = some (.ins a.C dx (sfl (vn n) (.ref q0) tv)) := Same.upd nl _ _ h3
        refine ⟨_, rfl, x, dx, _, rfl, h4, sfl_no _ _ _ (by decide +kernel) (by decide +kernel) (by decide +kernel), ?_⟩
        refine ⟨_, rfl, n, _, _, ⟨dx, h4⟩, hn, ?_⟩
        obtain ⟨z1, z2, z3, z4, z5, z6, z7, z8, z9, z10⟩ := sizes n hn
        refine ⟨_, _, _, rfl, rfl, upd_same, by omega, by omega, ?_, fun t nt => ?_⟩
        · show 1 * (blk n : Int).toNat ≤ sizeLine
          exact Nat.le_of_lt (line_of (by omega))
        · have h5 := Same.upd nt (o := .lst (List.replicate ((blk n : Nat) : Int).toNat [vn 0]).flatten) _ _ h4
          have t5 : (upd (upd H3 l (.lst [vn 0])) t (.lst (List.replicate ((blk n : Nat) : Int).toNat [vn 0]).flatten)) t = some (.lst (nvs (List.replicate (blk n) 0))) := by rw [upd_same, Int.toNat_natCast, rep0]
          have s5 : Same H3 (upd (upd H3 l (.lst [vn 0])) t (.lst (List.replicate ((blk n : Nat) : Int).toNat [vn 0]).flatten)) := (Same.upd nl).trans (Same.upd nt)
          generalize upd (upd H3 l (.lst [vn 0])) t (.lst (List.replicate ((blk n : Nat) : Int).toNat [vn 0]).flatten) = H5 at h5 t5 s5
          refine ⟨_, rfl, x, a.C, dx, _, rfl, h5, T.cl, T.na_standing, (by show 3 < 1000; decide), ?_⟩
          rw [sfl_put_t]
          have k6 : Keep x H5 (upd H5 x (.ins a.C dx (sfl (vn n) (.ref q0) (.ref t)))) := Keep.put
          have h6 : (upd H5 x (.ins a.C dx (sfl (vn n) (.ref q0) (.ref t)))) x = some (.ins a.C dx (sfl (vn n) (.ref q0) (.ref t))) := upd_same
          have sc6 := (sc3.mono (same_del s5)).keep k6.del (del_get xA h5)
          have t6 := del_get (A := A) ((tr3.mono (Same.upd nl)).fresh nt) (k6.lst h5 t5)
          generalize upd H5 x (.ins a.C dx (sfl (vn n) (.ref q0) (.ref t))) = H6 at k6 h6 sc6 t6
          refine q H6 ⟨⟨q0, t, ⟨dx, del_get xA h6⟩, sc6, t6⟩, hn, hk, List.length_replicate .., fun y hy => ?_⟩ ?_
          · rw [List.eq_of_mem_replicate hy]
            decide
          · exact (((k1.trans (Keep.of s2)).trans k3).trans (Keep.of s5)).trans k6
theorem ok_take_start (T : Txt K mg a) : FnOk P w K mg base CX0 2 a.f_take_start a.d_take_start ["self", "iv"] (spTS a.C) := by
  refine T.take_start.F.ok sc_take_start (fun vs H Q E h => ?_) (fun cdv A outer s H vs Q E hr h => ?_)
  · obtain ⟨_, _, rfl, _⟩ := h
    rfl
  · skip
    have G_block_size := ok_block_size (P := P) (w := w) (base := base) T
    obtain ⟨x, p, rfl, c, key, iv, v, A, std, tr, hp, li, ai, q⟩ := h
    obtain ⟨⟨q0, t, ⟨dx, hx⟩, sc, ht⟩, hc, hk, lv, av⟩ := id std
    obtain ⟨xA, hx⟩ := del_of hx
    obtain ⟨z1, z2, z3, z4, z5, z6, z7, z8, z9, z10⟩ := sizes c hc
    refine ⟨_, pss_cons (ps_fld (pv 0) (pe_slice sl_j (pv 1) po_none (po_some (pe_meth0 (pv 0) T.cl T.block_size.m G_block_size (hr.mono (by decide)) T.block_size.b .nil pass0))) rfl)
      (pss_one (ps_ret (pe_nat 0))), ?_⟩
    refine ⟨_, rfl, ?_⟩
    refine ⟨_, rfl, x, dx, _, rfl, hx, sfl_no _ _ _ (by decide +kernel) (by decide +kernel) (by decide +kernel), ?_⟩
    refine ⟨_, rfl, c, _, _, ⟨dx, hx⟩, hc, ?_⟩
    refine ⟨_, rfl, _, _, rfl, rfl, rfl, _, SqL.of hp, ?_⟩
    refine retV.nvs_take ?_
    intro H1 p1 s1 n1 h1
    have hx1 := s1 _ _ hx
    refine ⟨_, rfl, x, a.C, dx, _, rfl, hx1, T.cl, T.na_standing, (by show 3 < 1000; decide), ?_⟩
    rw [sfl_put_t]
    have k2 : Keep x H1 (upd H1 x (.ins a.C dx (sfl (vn c) (.ref q0) (.ref p1)))) := Keep.put
    have h2 : (upd H1 x (.ins a.C dx (sfl (vn c) (.ref q0) (.ref p1)))) x = some (.ins a.C dx (sfl (vn c) (.ref q0) (.ref p1))) := upd_same
    have sc2 := (sc.mono (same_del s1)).keep k2.del (del_get xA hx1)
    have t2 := del_get (A := A) (tr.fresh n1) (k2.lst hx1 h1)
    generalize upd H1 x (.ins a.C dx (sfl (vn c) (.ref q0) (.ref p1))) = H2 at k2 h2 sc2 t2
    exact q H2 ⟨⟨q0, p1, ⟨dx, del_get xA h2⟩, sc2, t2⟩, hc, hk, by rw [List.length_take]; omega, ai.take⟩ ((Keep.of s1).trans k2)
end
end Sx
end
section
set_option Elab.async false
set_option linter.all false
set_option maxRecDepth 100000
set_option maxHeartbeats 2000000
set_option exponentiation.threshold 2000
namespace Sx
open PySem PySem.Spec PyProof.Rows L2
local macro_rules | `(tactic| walk_at "fa") => `(tactic| (first
  | assumption
  | exact upd_same
  | (refine upd_get ?n ?g; (case n => assumption); (case g => walk_at "fa"))
  | (refine Same.use (Same.upd ?n) ?g; (case n => assumption); (case g => walk_at "fa"))
  | (refine Same.use (H := ?m) ?s ?g; (case s => assumption); (case g => walk_at "fa"))))
local macro_rules | `(tactic| walk_at "sm") => `(tactic| (first
  | assumption
  | exact Same.refl _
  | (refine Same.after (Same.upd ?n) ?g; (case n => assumption); (case g => walk_at "sm"))
  | (refine Same.after (H1 := ?m) ?s ?g; (case s => assumption); (case g => walk_at "sm"))))
local macro_rules | `(tactic| walk_at "nn") => `(tactic| (first
  | assumption
  | (refine Same.free (H' := ?m) ?s ?n; (case n => assumption); (case s => walk_at "sm"))))
local macro_rules | `(tactic| walk_at "lt") => `(tactic| (first
  | assumption
  | omega
  | exact Nat.mod_lt _ (by decide)
  | (refine at_lt ?_; walk_at "al")
  | exact mlt_lt _ _
  | exact sqd_lt
  | (refine Nat.xor_lt_two_pow ?_ ?_ <;> walk_at "lt")
  | (refine lft_lt ?_ (by decide); walk_at "lt")
  | (refine rgt_lt ?_ (by decide); walk_at "lt")
  | (refine lt64_of16 ?_; walk_at "lt")))
local macro_rules | `(tactic| walk_at "al") => `(tactic| (first
  | assumption
  | exact AllLt.nil
  | (refine AllLt.cons ?_ ?_; (walk_at "lt"); (walk_at "al"))
  | (refine AllLt.drop ?_; walk_at "al")
  | (refine AllLt.take ?_; walk_at "al")))
local macro_rules | `(tactic| walk_at "bd") => `(tactic| ((try dsimp only); first
  | (simp only [List.length_drop, List.length_take, List.length_cons, List.length_nil, List.length_map, List.length_range, nvs_len]; first | omega | decide)
  | omega
  | decide
  | ((with_reducible show AllLt _ _); walk_at "al")
  | walk_at "lt"
  | exact fun _ _ => trivial
  | (refine leM ?_; walk_at "lt")
  | (refine leL ?_; walk_at "lt")
  | (refine ⟨?_, ?_⟩ <;> walk_at "bd")))
local macro_rules | `(tactic| walk_at "rd") => `(tactic| repeat (walk_at "r1"))
local macro_rules | `(tactic| walk_at "r1") => `(tactic| (first
  | refine ⟨_, rfl, ?_⟩
  | refine ⟨_, _, rfl, rfl, ?_⟩
  | refine ⟨_, _, _, rfl, rfl, ?_⟩
  | refine ⟨_, _, _, rfl, rfl, rfl, ?_⟩
  | refine ⟨_, _, rfl, rfl, rfl, ?_⟩
  | refine ⟨_, _, _, rfl, ?_⟩
  | refine ⟨_, _, rfl, ?_⟩
  | (refine And.intro ?c ?_; (case c => (with_reducible show _ = some _); walk_at "fa"))
  | (refine ⟨?ws, ?h, ?_⟩; (case h => (with_reducible show _ = some (HO.lst _)); walk_at "fa"))
  | (refine ⟨?ws, ?ks, ?h, ?g, ?_⟩; (case h => (with_reducible show _ = some (HO.lst _)); walk_at "fa"); (case g => (with_reducible show _ = some (HO.lst _)); walk_at "fa"))
  | (refine ⟨?ws, SqL.of ?h, ?_⟩; (case h => walk_at "fa"))
  | (refine And.intro ⟨?ws, SqL.of ?h⟩ ?_; (case h => walk_at "fa"))
  | (refine ⟨_, ?xs, rfl, SqL.of ?h, ?_⟩; (case h => walk_at "fa"))
  | (refine ⟨_, ?xs, rfl, Or.inl (SqL.of ?h), ?_⟩; (case h => walk_at "fa"))
  | (refine ⟨_, _, ?xs, ?ys, rfl, SqL.of ?h, SqL.of ?g, ?_⟩; (case h => walk_at "fa"); (case g => walk_at "fa"))
  | (refine And.intro (Or.inl ⟨rfl, ?xs, SqL.of ?h⟩) ?_; (case h => walk_at "fa"))
  | refine And.intro rfl ?_
  | refine And.intro (by walk_at "bd") ?_
  | (refine ⟨_, ?xs, _, ?v, rfl, rfl, SqL.of ?h, ?e, ?_⟩; (case h => walk_at "fa"); (case e => first | exact rfl | (refine nvs_get (at_get ?_); walk_at "bd")))
  | (refine ⟨_, ?xs, _, ?v, rfl, rfl, SqT.of ?h, ?e, ?_⟩; (case h => walk_at "fa"); (case e => exact rfl))
  | refine retV.nvs_drop ?_
  | refine retV.nvs_take ?_
  | refine retV.nvs_cut ?_
  | ((with_reducible show retL _ _ _); intro Hn pn sn nn hn)
  | rw [nvs_reverse]
  | refine fun (pn : Addr) (nn : _ = none) => ?_))
open Sz25 (at_ M L GOLD plus less)
abbrev xorM : List Nat → List Nat → List Nat := zipM fun x y => x ^^^ y
theorem zipM_len (f : Nat → Nat → Nat) (xs ys : List Nat) : (zipM f xs ys).length = min xs.length ys.length := by unfold zipM; rw [List.length_map, List.length_zip]
theorem xorM_lt {b : Nat} {xs ys : List Nat} (h1 : AllLt b xs) (h2 : AllLt b ys) : AllLt b (xorM xs ys) := fun x hx => by
  unfold xorM zipM at hx
  obtain ⟨z, hz, rfl⟩ := List.mem_map.mp hx
  obtain ⟨u, v⟩ := z
  have hm := List.of_mem_zip hz
  exact Nat.xor_lt_two_pow (h1 _ hm.1) (h2 _ hm.2)
theorem sealM_len {c : Nat} {key b : List Nat} (hc : c < 6) (hk : key.length = klen c) (lb : b.length = blk c) : (sealM c key b).length = blk c := by
  obtain ⟨z1, z2, z3, z4, z5, z6, z7, z8, z9, z10⟩ := sizes c hc
  unfold sealM
  rw [regM_len, (work_ok hc hk _ (by rw [regM_len, lb]; exact z1) (regM_lt _ _ _ _)).1]
  exact z2
theorem unsealM_len {c : Nat} {key b : List Nat} (hc : c < 6) (hk : key.length = klen c) (lb : b.length = blk c) : (unsealM c key b).length = blk c := by
  obtain ⟨z1, z2, z3, z4, z5, z6, z7, z8, z9, z10⟩ := sizes c hc
  unfold unsealM
  rw [regM_len, (unwork_ok hc hk _ (by rw [regM_len, lb]; exact z1) (regM_lt _ _ _ _)).1]
  exact z2
theorem sealM_lt (c : Nat) (key b : List Nat) : AllLt 8 (sealM c key b) := regM_lt _ _ _ _
theorem unsealM_lt (c : Nat) (key b : List Nat) : AllLt 8 (unsealM c key b) := regM_lt _ _ _ _
def outM (c way : Nat) (key iv b : List Nat) : List Nat := match way with
  | 0 => sealM c key b
  | 1 => unsealM c key b
  | 2 => sealM c key (xorM b iv)
  | 3 => xorM (unsealM c key b) iv
  | _ => xorM b (sealM c key iv)
def nextM (c way : Nat) (key iv b : List Nat) : List Nat := match way with
  | 0 => iv
  | 1 => iv
  | 2 => sealM c key (xorM b iv)
  | 3 => b
  | _ => rowF (numF 8 iv + 1) iv.length 8
def spRB (C : Addr) : Sp := fun vs H Q _ => ∃ x way p, vs = [.ref x, vn way, .ref p] ∧ ∃ c key iv b A, Std C (del A H) x c key iv ∧ Tr A H ∧ H p = some (.lst (nvs b)) ∧ p ∉ A ∧ AllLt 8 b ∧ way ≤ 4 ∧ (way ≠ 4 → b.length = blk c) ∧ b.length ≤ blk c ∧
  ∀ H' r, Std C (del A H') x c key (nextM c way key iv b) → Keep x H H' → H' r = some (.lst (nvs (outM c way key iv b))) → Q (.ref r) H'
section
variable {P : Program} {w : World} {K : PySem.W.Frag} {mg : Str → Option Value} {base : Heap} {a : Ad}
theorem no_m (c s t : V) {m : Str} (h : (decide (m = "cipher") || decide (m = "schedule") || decide (m = "standing")) = false) : (sfl c s t).lookup m = none := by
  rw [Bool.or_eq_false_iff, Bool.or_eq_false_iff] at h
  exact sfl_no _ _ _ (of_decide_eq_false h.1.1) (of_decide_eq_false h.1.2) (of_decide_eq_false h.2)
theorem ok_run_block (T : Txt K mg a) : FnOk P w K mg base CX0 7 a.f_run_block a.d_run_block ["self", "way", "block"] (spRB a.C) := by
  refine T.run_block.F.ok sc_run_block (fun vs H Q E h => ?_) (fun cdv A outer s H vs Q E hr h => ?_)
  · obtain ⟨_, _, _, rfl, _⟩ := h
    rfl
  · skip
    have G_exclusive_or := ok_exclusive_or (P := P) (w := w) (base := base) T
    have G_sealed := ok_sealed (P := P) (w := w) (base := base) T
    have G_row_from := ok_row_from (P := P) (w := w) (base := base) T
    have G_number_from := ok_number_from (P := P) (w := w) (base := base) T
    have G_unsealed := ok_unsealed (P := P) (w := w) (base := base) T
    obtain ⟨x, way, p, rfl, c, key, iv, b, A, std, tr, hp, pA, ab, hw, lb, lb2, q⟩ := h
    obtain ⟨⟨q0, t, ⟨dx, hx⟩, sc, ht⟩, hc, hk, li, ai⟩ := id std
    obtain ⟨xA, hx⟩ := del_of hx
    obtain ⟨tA, ht⟩ := del_of ht
    have scH : Sch c key H q0 := sc.mono (del_same A H)
    obtain ⟨z1, z2, z3, z4, z5, z6, z7, z8, z9, z10⟩ := sizes c hc
    have noS : ∀ c s t : V, (sfl c s t).lookup ("sealed" : Str) = none := fun c s t => no_m c s t (by decide +kernel)
    have noU : ∀ c s t : V, (sfl c s t).lookup ("unsealed" : Str) = none := fun c s t => no_m c s t (by decide +kernel)
    refine ⟨_, pss_cons (ps_set (i := 3) sc_run_block.nd rfl (by first | exact Or.inl rfl | exact Or.inr rfl) (pe_fld (pv 0) rfl))
      (pss_cons (ps_if (pt_cmpR op_eqI (pv 1) (pe_nat 0) (nomark _)) (pss_one (ps_ret (pe_meth (pv 0) T.cl T.sealed.m G_sealed (hr.mono (by decide)) T.sealed.b .nil pass0 (pa_cons (pv 2) pa_nil)))) pss_nil)
      (pss_cons (ps_if (pt_cmpR op_eqI (pv 1) (pe_nat 1) (nomark _)) (pss_one (ps_ret (pe_meth (pv 0) T.cl T.unsealed.m G_unsealed (hr.mono (by decide)) T.unsealed.b .nil pass0 (pa_cons (pv 2) pa_nil)))) pss_nil)
      (pss_cons (ps_if (pt_cmpR op_eqI (pv 1) (pe_nat 2) (nomark _)) (pss_cons (ps_fld (pv 0) (pe_meth (pv 0) T.cl T.sealed.m G_sealed (hr.mono (by decide)) T.sealed.b .nil pass0 (pa_cons (T.exclusive_or.call G_exclusive_or (hr.mono (by decide)) (pa_cons (pv 2) (pa_cons (pv 3) pa_nil))) pa_nil)) rfl)
      (pss_one (ps_ret (pe_fld (pv 0) rfl)))) pss_nil)
      (pss_cons (ps_if (pt_cmpR op_eqI (pv 1) (pe_nat 3) (nomark _)) (pss_cons (ps_fld (pv 0) (pv 2) rfl)
      (pss_one (ps_ret (T.exclusive_or.call G_exclusive_or (hr.mono (by decide)) (pa_cons (pe_meth (pv 0) T.cl T.unsealed.m G_unsealed (hr.mono (by decide)) T.unsealed.b .nil pass0 (pa_cons (pv 2) pa_nil)) (pa_cons (pv 3) pa_nil)))))) pss_nil)
      (pss_cons (ps_fld (pv 0) (T.row_from.call G_row_from (hr.mono (by decide)) (pa_cons (pe_op op_addN (T.number_from.call G_number_from (hr.mono (by decide)) (pa_cons (pv 3) (pa_cons (pe_nat 8) pa_nil))) (pe_nat 1)) (pa_cons (pe_callB call_len_seq rfl T.n_len PySem.boot_len (pa_cons (pv 3) pa_nil)) (pa_cons (pe_nat 8) pa_nil)))) rfl)
      (pss_one (ps_ret (T.exclusive_or.call G_exclusive_or (hr.mono (by decide)) (pa_cons (pv 2) (pa_cons (pe_meth (pv 0) T.cl T.sealed.m G_sealed (hr.mono (by decide)) T.sealed.b .nil pass0 (pa_cons (pv 3) pa_nil)) pa_nil)))))))))), ?_⟩
    refine ⟨_, rfl, _, _, _, _, _, rfl, hx, T.cl, T.na_standing, sfl_t _ _ _, ?_⟩
    refine ⟨_, rfl, _, _, rfl, rfl, _, rfl, ite2 (fun h0 => ?_) (fun h0 => ?_)⟩
    · have e : way = 0 := by have := of_decide_eq_true h0; dsimp only at this; omega
      subst e
      refine ⟨_, rfl, x, dx, _, rfl, hx, noS _ _ _, _, rfl, ?_⟩
      refine ⟨_, _, rfl, c, key, q0, _, b, ⟨dx, hx⟩, hc, hk, scH, hp, lb (by decide), ab, fun H1 r s1 n1 h1 => ?_⟩
      exact q H1 r (std.mono (same_del s1)) (Keep.of s1) h1
    have w0 : way ≠ 0 := fun z => h0 (decide_eq_true (by dsimp only; omega))
    refine ⟨_, rfl, _, _, rfl, rfl, _, rfl, ite2 (fun h1 => ?_) (fun h1 => ?_)⟩
    · have e : way = 1 := by have := of_decide_eq_true h1; dsimp only at this; omega
      subst e
      refine ⟨_, rfl, x, dx, _, rfl, hx, noU _ _ _, _, rfl, ?_⟩
      refine ⟨_, _, rfl, c, key, q0, _, b, ⟨dx, hx⟩, hc, hk, scH, hp, lb (by decide), ab, fun H1 r s1 n1 h1 => ?_⟩
      exact q H1 r (std.mono (same_del s1)) (Keep.of s1) h1
    have w1 : way ≠ 1 := fun z => h1 (decide_eq_true (by dsimp only; omega))
    refine ⟨_, rfl, _, _, rfl, rfl, _, rfl, ite2 (fun h2 => ?_) (fun h2 => ?_)⟩
    · have e : way = 2 := by have := of_decide_eq_true h2; dsimp only at this; omega
      subst e
      have lb := lb (by decide)
      refine ⟨_, rfl, x, dx, _, rfl, hx, noS _ _ _, _, rfl, _, rfl, ?_⟩
      refine ⟨_, _, rfl, b, iv, hp, ht, by omega, fun _ _ => trivial, fun H1 p1 s1 n1 h1 => ?_⟩
      have lx : (xorM b iv).length = blk c := by rw [zipM_len]; omega
      refine ⟨_, _, rfl, c, key, q0, _, _, ⟨dx, s1 _ _ hx⟩, hc, hk, scH.mono s1, h1, lx, xorM_lt ab ai, fun H2 p2 s2 n2 h2 => ?_⟩
      have hx2 := s2 _ _ (s1 _ _ hx)
      refine ⟨_, rfl, x, a.C, dx, _, rfl, hx2, T.cl, T.na_standing, (by show 3 < 1000; decide), ?_⟩
      rw [sfl_put_t]
      have k3 : Keep x H2 (upd H2 x (.ins a.C dx (sfl (vn c) (.ref q0) (.ref p2)))) := Keep.put
      have h3 : (upd H2 x (.ins a.C dx (sfl (vn c) (.ref q0) (.ref p2)))) x = some (.ins a.C dx (sfl (vn c) (.ref q0) (.ref p2))) := upd_same
      have sc3 := (sc.mono (same_del (s1.trans s2))).keep k3.del (del_get xA hx2)
      have t3 := k3.lst hx2 h2
      have t3' := del_get (A := A) ((tr.mono s1).fresh n2) t3
      generalize upd H2 x (.ins a.C dx (sfl (vn c) (.ref q0) (.ref p2))) = H3 at k3 h3 sc3 t3 t3'
      refine ⟨_, rfl, _, _, _, _, _, rfl, h3, T.cl, T.na_standing, sfl_t _ _ _, ?_⟩
      exact q H3 p2 ⟨⟨q0, p2, ⟨dx, del_get xA h3⟩, sc3, t3'⟩, hc, hk, sealM_len hc hk lx, sealM_lt _ _ _⟩ ((Keep.of (s1.trans s2)).trans k3) t3
    have w2 : way ≠ 2 := fun z => h2 (decide_eq_true (by dsimp only; omega))
    refine ⟨_, rfl, _, _, rfl, rfl, _, rfl, ite2 (fun h3 => ?_) (fun h3 => ?_)⟩
    · have e : way = 3 := by have := of_decide_eq_true h3; dsimp only at this; omega
      subst e
      have lb := lb (by decide)
      refine ⟨_, rfl, _, rfl, x, a.C, dx, _, rfl, hx, T.cl, T.na_standing, (by show 3 < 1000; decide), ?_⟩
      rw [sfl_put_t]
      have k1 : Keep x H (upd H x (.ins a.C dx (sfl (vn c) (.ref q0) (.ref p)))) := Keep.put
      have h1 : (upd H x (.ins a.C dx (sfl (vn c) (.ref q0) (.ref p)))) x = some (.ins a.C dx (sfl (vn c) (.ref q0) (.ref p))) := upd_same
      have sc1 := sc.keep k1.del (del_get xA hx)
      have p1 := k1.lst hx hp
      have t1 := k1.lst hx ht
      generalize upd H x (.ins a.C dx (sfl (vn c) (.ref q0) (.ref p))) = H1 at k1 h1 sc1 p1 t1
      refine ⟨_, rfl, x, dx, _, rfl, h1, noU _ _ _, _, rfl, ?_⟩
      refine ⟨_, _, rfl, c, key, q0, _, b, ⟨dx, h1⟩, hc, hk, sc1.mono (del_same A H1), p1, lb, ab, fun H2 r s2 n2 h2 => ?_⟩
      refine ⟨_, rfl, ?_⟩
      have lu := unsealM_len hc hk lb
      refine ⟨_, _, rfl, _, iv, h2, s2 _ _ t1, by rw [lu]; omega, fun _ _ => trivial, fun H3 r3 s3 n3 h3 => ?_⟩
      have s23 := s2.trans s3
      exact q H3 r3 ⟨⟨q0, p, ⟨dx, del_get xA (s23 _ _ h1)⟩, sc1.mono (same_del s23), del_get pA (s23 _ _ p1)⟩, hc, hk, lb, ab⟩ (k1.trans (Keep.of s23)) h3
    have w3 : way ≠ 3 := fun z => h3 (decide_eq_true (by dsimp only; omega))
    have e : way = 4 := by omega
    subst e
    refine ⟨_, rfl, ?_⟩
    refine ⟨_, _, rfl, iv, ht, ai, by decide, by omega, ?_⟩
    refine ⟨_, _, rfl, rfl, _, rfl, _, _, rfl, .inl (SqL.of ht), ?_⟩
    rw [nvs_len]
    refine ⟨_, _, _, rfl, by omega, by omega, by decide, fun H1 p1 s1 n1 h1 => ?_⟩
    have hx1 := s1 _ _ hx
    refine ⟨_, rfl, x, a.C, dx, _, rfl, hx1, T.cl, T.na_standing, (by show 3 < 1000; decide), ?_⟩
    rw [sfl_put_t]
    have k2 : Keep x H1 (upd H1 x (.ins a.C dx (sfl (vn c) (.ref q0) (.ref p1)))) := Keep.put
    have h2 : (upd H1 x (.ins a.C dx (sfl (vn c) (.ref q0) (.ref p1)))) x = some (.ins a.C dx (sfl (vn c) (.ref q0) (.ref p1))) := upd_same
    have sc2 := (sc.mono (same_del s1)).keep k2.del (del_get xA hx1)
    have b2 := k2.lst hx1 (s1 _ _ hp)
    have t2 := k2.lst hx1 (s1 _ _ ht)
    have p2 := k2.lst hx1 h1
    generalize upd H1 x (.ins a.C dx (sfl (vn c) (.ref q0) (.ref p1))) = H2 at k2 h2 sc2 b2 t2 p2
    refine ⟨_, rfl, _, rfl, x, dx, _, rfl, h2, noS _ _ _, _, rfl, ?_⟩
    refine ⟨_, _, rfl, c, key, q0, _, iv, ⟨dx, h2⟩, hc, hk, sc2.mono (del_same A H2), t2, li, ai, fun H3 r s3 n3 h3 => ?_⟩
    refine ⟨_, _, rfl, b, _, s3 _ _ b2, h3, by omega, fun _ _ => trivial, fun H4 r4 s4 n4 h4 => ?_⟩
    have s34 := s3.trans s4
    refine q H4 r4 ⟨⟨q0, p1, ⟨dx, del_get xA (s34 _ _ h2)⟩, sc2.mono (same_del s34), del_get (tr.fresh n1) (s34 _ _ p2)⟩, hc, hk, ?_, rowF_lt _ _ _⟩ (((Keep.of s1).trans k2).trans (Keep.of s34)) h4
    show (rowF _ _ _).length = _
    rw [rowF_len]
    exact li
end
end Sx
end
section
set_option Elab.async false
set_option linter.all false
set_option maxRecDepth 100000
set_option maxHeartbeats 2000000
set_option exponentiation.threshold 2000
namespace Sx
open PySem PySem.Spec PyProof.Rows L2
local macro_rules | `(tactic| walk_at "fa") => `(tactic| (first
  | assumption
  | exact upd_same
  | (refine upd_get ?n ?g; (case n => assumption); (case g => walk_at "fa"))
  | (refine Same.use (Same.upd ?n) ?g; (case n => assumption); (case g => walk_at "fa"))
  | (refine Same.use (H := ?m) ?s ?g; (case s => assumption); (case g => walk_at "fa"))))
local macro_rules | `(tactic| walk_at "sm") => `(tactic| (first
  | assumption
  | exact Same.refl _
  | (refine Same.after (Same.upd ?n) ?g; (case n => assumption); (case g => walk_at "sm"))
  | (refine Same.after (H1 := ?m) ?s ?g; (case s => assumption); (case g => walk_at "sm"))))
local macro_rules | `(tactic| walk_at "nn") => `(tactic| (first
  | assumption
  | (refine Same.free (H' := ?m) ?s ?n; (case n => assumption); (case s => walk_at "sm"))))
local macro_rules | `(tactic| walk_at "lt") => `(tactic| (first
  | assumption
  | omega
  | exact Nat.mod_lt _ (by decide)
  | (refine at_lt ?_; walk_at "al")
  | exact mlt_lt _ _
  | exact sqd_lt
  | (refine Nat.xor_lt_two_pow ?_ ?_ <;> walk_at "lt")
  | (refine lft_lt ?_ (by decide); walk_at "lt")
  | (refine rgt_lt ?_ (by decide); walk_at "lt")
  | (refine lt64_of16 ?_; walk_at "lt")))
local macro_rules | `(tactic| walk_at "al") => `(tactic| (first
  | assumption
  | exact AllLt.nil
  | (refine AllLt.cons ?_ ?_; (walk_at "lt"); (walk_at "al"))
  | (refine AllLt.drop ?_; walk_at "al")
  | (refine AllLt.take ?_; walk_at "al")))
local macro_rules | `(tactic| walk_at "bd") => `(tactic| ((try dsimp only); first
  | (simp only [List.length_drop, List.length_take, List.length_cons, List.length_nil, List.length_map, List.length_range, nvs_len]; first | omega | decide)
  | omega
  | decide
  | ((with_reducible show AllLt _ _); walk_at "al")
  | walk_at "lt"
  | exact fun _ _ => trivial
  | (refine leM ?_; walk_at "lt")
  | (refine leL ?_; walk_at "lt")
  | (refine ⟨?_, ?_⟩ <;> walk_at "bd")))
local macro_rules | `(tactic| walk_at "rd") => `(tactic| repeat (walk_at "r1"))
local macro_rules | `(tactic| walk_at "r1") => `(tactic| (first
  | refine ⟨_, rfl, ?_⟩
  | refine ⟨_, _, rfl, rfl, ?_⟩
  | refine ⟨_, _, _, rfl, rfl, ?_⟩
  | refine ⟨_, _, _, rfl, rfl, rfl, ?_⟩
  | refine ⟨_, _, rfl, rfl, rfl, ?_⟩
  | refine ⟨_, _, _, rfl, ?_⟩
  | refine ⟨_, _, rfl, ?_⟩
  | (refine And.intro ?c ?_; (case c => (with_reducible show _ = some _); walk_at "fa"))
  | (refine ⟨?ws, ?h, ?_⟩; (case h => (with_reducible show _ = some (HO.lst _)); walk_at "fa"))
  | (refine ⟨?ws, ?ks, ?h, ?g, ?_⟩; (case h => (with_reducible show _ = some (HO.lst _)); walk_at "fa"); (case g => (with_reducible show _ = some (HO.lst _)); walk_at "fa"))
  | (refine ⟨?ws, SqL.of ?h, ?_⟩; (case h => walk_at "fa"))
  | (refine And.intro ⟨?ws, SqL.of ?h⟩ ?_; (case h => walk_at "fa"))
  | (refine ⟨_, ?xs, rfl, SqL.of ?h, ?_⟩; (case h => walk_at "fa"))
  | (refine ⟨_, ?xs, rfl, Or.inl (SqL.of ?h), ?_⟩; (case h => walk_at "fa"))
  | (refine ⟨_, _, ?xs, ?ys, rfl, SqL.of ?h, SqL.of ?g, ?_⟩; (case h => walk_at "fa"); (case g => walk_at "fa"))
  | (refine And.intro (Or.inl ⟨rfl, ?xs, SqL.of ?h⟩) ?_; (case h => walk_at "fa"))
  | refine And.intro rfl ?_
  | refine And.intro (by walk_at "bd") ?_
  | (refine ⟨_, ?xs, _, ?v, rfl, rfl, SqL.of ?h, ?e, ?_⟩; (case h => walk_at "fa"); (case e => first | exact rfl | (refine nvs_get (at_get ?_); walk_at "bd")))
  | (refine ⟨_, ?xs, _, ?v, rfl, rfl, SqT.of ?h, ?e, ?_⟩; (case h => walk_at "fa"); (case e => exact rfl))
  | refine retV.nvs_drop ?_
  | refine retV.nvs_take ?_
  | refine retV.nvs_cut ?_
  | ((with_reducible show retL _ _ _); intro Hn pn sn nn hn)
  | rw [nvs_reverse]
  | refine fun (pn : Addr) (nn : _ = none) => ?_))
open Sz25 (at_ M L GOLD plus less)
theorem rg_up {m sz : Nat} (hs : sz = 8 ∨ sz = 16 ∨ sz = 32) (hm : m ≤ 30000) : RgC ((0 : Nat) : Int) (m : Int) (sz : Int) ((m + sz - 1) / sz) := by
  have e : Builtin.Range.rangeSize ((0 : Nat) : Int) (m : Int) (sz : Int) = (((m + sz - 1) / sz : Nat) : Int) := by
    show Builtin.Range.rangeSize 0 (m : Int) (sz : Int) = _
    rw [rangeSize_pos (by omega) (by omega)]
    rcases hs with rfl | rfl | rfl <;> omega
  refine ⟨by omega, by omega, ?_, e⟩
  have hr : (m + sz - 1) / sz ≤ m + sz - 1 := Nat.div_le_self _ _
  unfold Builtin.Range.small
  rw [e, if_pos (show (sz : Int) > 0 by omega)]
  generalize (m + sz - 1) / sz = r at hr
  have f : ∀ i : Int, -100000 ≤ i → i ≤ 100000 → Builtin.Range.rangeFitsLong i = true := fun i h1 h2 => by
    unfold Builtin.Range.rangeFitsLong
    rw [Bool.and_eq_true]
    exact ⟨decide_eq_true (by omega), decide_eq_true (by omega)⟩
  rw [f _ (by omega) (by omega), f _ (by omega) (by omega), f _ (by omega) (by omega), f _ (by omega) (by omega), f _ (by omega) (by omega), Bool.or_true]
  rfl
theorem blk_is : ∀ c, c < 6 → blk c = 8 ∨ blk c = 16 ∨ blk c = 32 := by decide
/-- the i-th block; what has come out ahead of it, and what stands for it -/
def blkAt (c : Nat) (data : List Nat) (i : Nat) : List Nat := (data.drop (blk c * i)).take (blk c)
def runX0 (c way : Nat) (key iv data : List Nat) : Nat → List Nat × List Nat
  | 0 => ([], iv)
  | i + 1 => ((runX0 c way key iv data i).1 ++ outM c way key (runX0 c way key iv data i).2 (blkAt c data i), nextM c way key (runX0 c way key iv data i).2 (blkAt c data i))
@[irreducible] def runX (c way : Nat) (key iv data : List Nat) (i : Nat) : List Nat × List Nat := runX0 c way key iv data i
theorem runX_z (c way : Nat) (key iv data : List Nat) : runX c way key iv data 0 = ([], iv) := by unfold runX; rfl
theorem runX_s (c way : Nat) (key iv data : List Nat) (i : Nat) : runX c way key iv data (i + 1) = ((runX c way key iv data i).1 ++ outM c way key (runX c way key iv data i).2 (blkAt c data i), nextM c way key (runX c way key iv data i).2 (blkAt c data i)) := by unfold runX; rfl
def nblk (c m : Nat) : Nat := (m + blk c - 1) / blk c
def spRun (C : Addr) : Sp := fun vs H Q _ => ∃ (x : Addr) (way n : Int) (p : Addr), vs = [.ref x, .int way, .int n, .ref p] ∧ ∃ c key iv data A, Std C (del A H) x c key iv ∧ Tr A H ∧ H p = some (.lst (nvs data)) ∧ p ∉ A ∧ AllLt 8 data ∧
  ((way < 0 ∨ 4 < way ∨ n < 0 ∨ 16777216 < n ∨ (way ≠ 4 ∧ n % (blk c : Int) ≠ 0)) → ∀ H' r, Same H H' → r ∉ A → H' r = some (.lst [.int (-1)]) → Q (.ref r) H') ∧
  (¬ (way < 0 ∨ 4 < way ∨ n < 0 ∨ 16777216 < n ∨ (way ≠ 4 ∧ n % (blk c : Int) ≠ 0)) → n = (data.length : Int) ∧ data.length ≤ 2000 ∧ ∀ H' r, Std C (del A H') x c key (runX c way.toNat key iv data (nblk c data.length)).2 → Keep x H H' → r ∉ A → H' r = some (.lst (nvs (0 :: (runX c way.toNat key iv data (nblk c data.length)).1))) → Q (.ref r) H')
theorem outM_len {c way : Nat} {key iv b : List Nat} (hc : c < 6) (hk : key.length = klen c) (li : iv.length = blk c) (lb2 : b.length ≤ blk c) (lb : way ≠ 4 → way ≤ 4 → b.length = blk c) (hw : way ≤ 4) : (outM c way key iv b).length ≤ blk c := by
  match way, hw, lb with
  | 0, _, lb => exact Nat.le_of_eq (sealM_len hc hk (lb (by decide) (by decide)))
  | 1, _, lb => exact Nat.le_of_eq (unsealM_len hc hk (lb (by decide) (by decide)))
  | 2, _, lb => exact Nat.le_of_eq (sealM_len hc hk (by have := lb (by decide) (by decide); rw [zipM_len]; omega))
  | 3, _, lb =>
    show (xorM _ _).length ≤ _
    rw [zipM_len]; omega
  | 4, _, lb =>
    show (xorM _ _).length ≤ _
    rw [zipM_len]; omega
theorem del_new {A : List Addr} {H : Hp} {pa : Addr} {o : HO} (na : H pa = none) : Same (del A H) (del (pa :: A) (upd H pa o)) := fun b u h => by
  obtain ⟨n, h⟩ := del_of h
  have ne : b ≠ pa := ne_of_none h na
  exact del_get (fun z => (List.mem_cons.mp z).elim ne n) (upd_get ne h)
theorem blkAt_len {c m : Nat} {data : List Nat} {i : Nat} (hc : c < 6) (hi : i < nblk c data.length) (hm : data.length = m) (h : m % blk c = 0) : (blkAt c data i).length = blk c := by
  unfold blkAt
  rw [List.length_take, List.length_drop, hm]
  unfold nblk at hi
  rw [hm] at hi
  rcases blk_is c hc with e | e | e <;> rw [e] at hi h ⊢ <;> omega
section
variable {P : Program} {w : World} {K : PySem.W.Frag} {mg : Str → Option Value} {base : Heap} {a : Ad}
theorem iteOr {A B : Prop} {R : Prop} {c : Bool} (h : c = true → A) (g : ¬ c = true → B) : if c = true then A else B := ite2 h g
theorem ok_run_blocks (T : Txt K mg a) : FnOk P w K mg base CX0 8 a.f_run_blocks a.d_run_blocks ["self", "way", "n", "data"] (spRun a.C) := by
  refine T.run_blocks.F.ok sc_run_blocks (fun vs H Q E h => ?_) (fun cdv A outer s H vs Q E hr h => ?_)
  · obtain ⟨_, _, _, _, rfl, _⟩ := h
    rfl
  · skip
    have G_run_block := ok_run_block (P := P) (w := w) (base := base) T
    have G_block_size := ok_block_size (P := P) (w := w) (base := base) T
    obtain ⟨x, way, n, p, rfl, c, key, iv, data, A, std, tr, hp, pA, ad, q1, q2⟩ := h
    obtain ⟨⟨q0, t, ⟨dx, hx⟩, sc, ht⟩, hc, hk, li, ai⟩ := id std
    obtain ⟨xA, hx⟩ := del_of hx
    obtain ⟨z1, z2, z3, z4, z5, z6, z7, z8, z9, z10⟩ := sizes c hc
    refine ⟨_, pss_cons (ps_set (i := 4) sc_run_blocks.nd rfl (by first | exact Or.inl rfl | exact Or.inr rfl) (pe_meth0 (pv 0) T.cl T.block_size.m G_block_size (hr.mono (by decide)) T.block_size.b .nil pass0))
      (pss_cons (ps_if (PW.pt (pw_or (pt_cmpR op_ltI (pv 1) (pe_nat 0) (nomark _)) (pw_or (pt_cmpR op_gtI (pv 1) (pe_nat 4) (nomark _)) (pw_or (pt_cmpR op_ltI (pv 2) (pe_nat 0) (nomark _)) (pw_or (pt_cmpR op_gtI (pv 2) (pc T.c_LARGEST_RUN) (nomark _)) (pw_or1 (PW.pt (pw_and (pt_cmpR op_neI (pv 1) (pe_nat 4) (nomark _)) (pw_and1 (pt_cmpR op_neI (pe_op op_mod (pv 2) (pv 4)) (pe_nat 0) (nomark _))))))))))) (pss_one (ps_ret (pe_lst (pa_cons (pe_un un_neg (pe_nat 1)) pa_nil)))) pss_nil)
      (pss_cons (ps_set (i := 5) sc_run_blocks.nd rfl (by first | exact Or.inl rfl | exact Or.inr rfl) (pe_lst (pa_cons (pe_nat 0) pa_nil)))
      (pss_cons (ps_for PassesOwn.never rfl (pi_range3 rfl T.n_range (pa_cons (pe_nat 0) (pa_cons (pv 2) (pa_cons (pv 4) pa_nil)))) (pg_name (i := 6) sc_run_blocks.nd rfl (by first | exact Or.inl rfl | exact Or.inr rfl)) (pss_one (ps_expr (pe_bm PySem.F.plainAttrs_list PySem.F.slot_list_extend PySem.F.type_list_extend mt_extend (pv 5) (pa_cons (pe_meth (pv 0) T.cl T.run_block.m G_run_block (hr.mono (by decide)) T.run_block.b .nil pass0 (pa_cons (pv 1) (pa_cons (pe_slice sl_ij (pv 3) (po_some (pv 6)) (po_some (pe_op op_addN (pv 6) (pv 4)))) pa_nil))) pa_nil)))))
      (pss_one (ps_ret (pv 5)))))), ?_⟩
    refine ⟨_, rfl, x, dx, _, rfl, hx, no_m _ _ _ (by decide +kernel), ?_⟩
    refine ⟨_, rfl, c, _, _, ⟨dx, hx⟩, hc, ?_⟩
    have bad : (way < 0 ∨ 4 < way ∨ n < 0 ∨ 16777216 < n ∨ (way ≠ 4 ∧ n % (blk c : Int) ≠ 0)) → tRet (tLst (tCons (tUn (rU fun i => V.int (-i)) (tC (vn 1))) tNil)) { nx := fun _ _ => True, rt := Q } [] H := fun hb =>
      ⟨_, rfl, by show 1 ≤ sizeLine; decide, fun r nr => q1 hb _ r (Same.upd nr) (tr.fresh nr) upd_same⟩
    refine ⟨_, rfl, _, _, rfl, rfl, _, rfl, ite2 (fun h0 => iteT (bad (.inl (of_decide_eq_true h0)))) (fun h0 => ?_)⟩
    have h0 : ¬ way < 0 := of_decide_eq_false (eq_false_of_ne_true h0)
    refine ⟨_, rfl, _, _, rfl, rfl, _, rfl, ite2 (fun h1 => iteT (bad (.inr (.inl (of_decide_eq_true h1))))) (fun h1 => ?_)⟩
    have h1 : ¬ 4 < way := of_decide_eq_false (eq_false_of_ne_true h1)
    refine ⟨_, rfl, _, _, rfl, rfl, _, rfl, ite2 (fun h2 => iteT (bad (.inr (.inr (.inl (of_decide_eq_true h2)))))) (fun h2 => ?_)⟩
    have h2 : ¬ n < 0 := of_decide_eq_false (eq_false_of_ne_true h2)
    refine ⟨_, rfl, _, _, rfl, rfl, _, rfl, ite2 (fun h3 => iteT (bad (.inr (.inr (.inr (.inl (of_decide_eq_true h3))))))) (fun h3 => ?_)⟩
    have h3 : ¬ 16777216 < n := of_decide_eq_false (eq_false_of_ne_true h3)
    have wn : ∃ wy : Nat, way = (wy : Int) ∧ wy ≤ 4 := ⟨way.toNat, by omega, by omega⟩
    have go : ¬ (way ≠ 4 ∧ n % (blk c : Int) ≠ 0) → tSeq (tAsg (tLst (tCons (tC (vn 0)) tNil)) (gName 5)) (tSeq (tFor (iRng3 (tCons (tC (vn 0)) (tCons (tVar 2) (tCons (tVar 4) tNil)))) (gName 6) (tDrop (tBM K "list" rExtend (tVar 5) (tCons (tMeth a.C "run_block" (spRB a.C) [] E0 (tVar 0) (tCons (tVar 1) (tCons (tSl (rSlIJ K) (tVar 3) (tPart (tVar 6)) (tPart (tOp (rN0 fun i j => i + j) (tVar 6) (tVar 4)))) tNil))) tNil)))) (tRet (tVar 5))) { nx := fun _ H' => Q .non H', rt := Q } [some (.ref x), some (.int way), some (.int n), some (.ref p), some (vn (blk c)), none, none] H := fun h4 => by
      obtain ⟨en, l2k, q⟩ := q2 (by omega)
      obtain ⟨wy, rfl, hwy⟩ := wn
      subst en
      rw [Int.toNat_natCast] at q
      have xn : x ≠ p := ne_of hx hp (by intro z; cases z)
      refine ⟨by show 1 ≤ sizeLine; decide, fun pa na => ?_⟩
      have xpa : pa ≠ x := fun z => by rw [z, hx] at na; cases na
      have xA' : x ∉ pa :: A := fun z => (List.mem_cons.mp z).elim (fun e => xpa e.symm) xA
      refine ⟨_, rfl, _, rfl, _, _, _, nblk c data.length, rfl, rg_up (blk_is c hc) (by omega), ?_⟩
      refine for_stepN (n := nblk c data.length) (fun i => blk c * i) (fun i hi => by rw [Int.natCast_mul, Int.mul_comm (i : Int)]; exact Int.zero_add _)
        (fun i σ H' => Hold (∃ u, σ = [some (.ref x), some (vn wy), some (.int (data.length : Int)), some (.ref p), some (vn (blk c)), some (.ref pa), u] ∧ Keep x H H' ∧ H' pa = some (.lst (nvs (0 :: (runX c wy key iv data i).1))) ∧ Std a.C (del (pa :: A) H') x c key (runX c wy key iv data i).2 ∧ (runX c wy key iv data i).1.length ≤ blk c * i))
        (.mk ⟨none, rfl, Keep.of (Same.upd na), by rw [upd_same, runX_z]; rfl, by rw [runX_z]; exact std.mono (del_new na), by rw [runX_z]; exact Nat.zero_le _⟩) ?_ ?_
      · intro i σ H' hi z
        obtain ⟨u, rfl, k1, hpa, std1, ln1⟩ := z.out
        have e := runX_s c wy key iv data i
        generalize runX c wy key iv data i = rx at hpa std1 ln1 e
        obtain ⟨out, ivi⟩ := rx
        have hpa : H' pa = some (.lst (nvs (0 :: out))) := hpa
        have std1 : Std a.C (del (pa :: A) H') x c key ivi := std1
        have ln1 : out.length ≤ blk c * i := ln1
        obtain ⟨⟨q1', t1, ⟨dx1, hx1⟩, sc1, ht1⟩, _, _, li1, ai1⟩ := id std1
        obtain ⟨_, hx1⟩ := del_of hx1
        have hp1 := k1 _ _ hp xn.symm
        have trA : Tr (pa :: A) H' := fun b hb => (List.mem_cons.mp hb).elim (fun z => by subst z; exact ⟨_, hpa⟩) (fun z => tr.keep k1 xA b z)
        refine ⟨_, rfl, .inl ⟨rfl, _, SqL.of hpa⟩, _, rfl, x, dx1, _, rfl, hx1, no_m _ _ _ (by decide +kernel), _, rfl, ?_⟩
        refine ⟨_, rfl, _, rfl, _, rfl, _, rfl, _, rfl, _, _, rfl, rfl, _, rfl, _, _, _, rfl, rfl, rfl, _, SqL.of hp1, ?_⟩
        refine retV.nvs_cut ?_
        intro H2 p2 s2 n2 h2
        have h2 : H2 p2 = some (.lst (nvs (blkAt c data i))) := by
          rw [h2]
          show some (HO.lst (nvs ((data.drop (blk c * i)).take (blk c * i + blk c - blk c * i)))) = _
          rw [Nat.add_sub_cancel_left]
          rfl
        have bl : (blkAt c data i).length ≤ blk c := by unfold blkAt; rw [List.length_take]; exact Nat.min_le_left _ _
        have bw : wy ≠ 4 → (blkAt c data i).length = blk c := fun hw => blkAt_len hc hi rfl (by
          have h5 : ¬ (data.length : Int) % (blk c : Int) ≠ 0 := fun z => h4 ⟨by omega, z⟩
          have h6 : ((data.length % blk c : Nat) : Int) = 0 := by rw [Int.natCast_emod]; exact Decidable.of_not_not h5
          exact Int.ofNat.inj h6)
        have p2A : p2 ∉ pa :: A := trA.fresh n2
        refine ⟨_, _, _, rfl, c, key, ivi, _, pa :: A, std1.mono (same_del s2), trA.mono s2, h2, p2A, ad.drop.take, hwy, bw, bl, fun H3 r std3 k3 h3 => ?_⟩
        have hpa3 := k3 _ _ (s2 _ _ hpa) xpa
        have lo := outM_len (way := wy) (key := key) (iv := ivi) (b := blkAt c data i) hc hk li1 bl (fun h _ => bw h) hwy
        have hb : blk c * i ≤ 2100 := by
          unfold nblk at hi
          rcases blk_is c hc with e | e | e <;> rw [e] at hi ⊢ <;> omega
        refine ⟨_, _, _, _, rfl, rfl, hpa3, h3, ?_, ?_⟩
        · rw [nvs_len, nvs_len, List.length_cons]
          exact Nat.le_of_lt (Nat.lt_trans (show out.length + 1 + (outM c wy key ivi (blkAt c data i)).length < 3000 by omega) (by decide))
        · refine .mk ⟨_, rfl, fun b o h n => upd_get (ne_of_none h na) (((k1.trans (Keep.of s2)).trans k3) b o h n), ?_, ?_, ?_⟩
          · rw [upd_same, nvs_append, e]
            rfl
          · rw [del_upd (List.mem_cons_self ..), e]
            exact std3
          · rw [e]
            show (out ++ outM c wy key ivi (blkAt c data i)).length ≤ _
            rw [List.length_append, Nat.mul_succ]
            omega
      · intro σ H' z
        obtain ⟨u, rfl, k1, hpa, std1, ln1⟩ := z.out
        refine ⟨_, rfl, ?_⟩
        refine q H' pa ?_ k1 (tr.fresh na) hpa
        obtain ⟨⟨q1', t1, h1, sc1, ht1⟩, b1, b2, b3, b4⟩ := std1
        have sm : Same (del (pa :: A) H') (del A H') := fun b o h => del_get (fun z => (del_of h).1 (List.mem_cons_of_mem _ z)) (del_of h).2
        exact ⟨⟨q1', t1, h1.mono sm, sc1.mono sm, sm _ _ ht1⟩, b1, b2, b3, b4⟩
    refine ⟨_, rfl, _, _, rfl, rfl, _, rfl, ite2 (fun h4 => ?_) (fun h4 => ?_)⟩
    · have h4 : way ≠ 4 := of_decide_eq_true h4
      refine ⟨_, rfl, _, rfl, _, _, rfl, rfl, by show (0 : Int) < blk c; omega, _, _, rfl, rfl, _, rfl, ite2 (fun h5 => ?_) (fun h5 => ?_)⟩
      · exact bad (.inr (.inr (.inr (.inr ⟨h4, of_decide_eq_true h5⟩))))
      · have h5 : ¬ n % (blk c : Int) ≠ 0 := of_decide_eq_false (eq_false_of_ne_true h5)
        exact go fun z => h5 z.2
    · have h4 : ¬ way ≠ 4 := of_decide_eq_false (eq_false_of_ne_true h4)
      refine iteF ?_
      exact go fun z => h4 z.1
end
end Sx
end
section
set_option Elab.async false
set_option linter.all false
set_option maxRecDepth 100000
set_option maxHeartbeats 2000000
set_option exponentiation.threshold 2000
namespace Sx
open PySem PySem.Spec PyProof.Rows L2
local macro_rules | `(tactic| walk_at "fa") => `(tactic| (first
  | assumption
  | exact upd_same
  | (refine upd_get ?n ?g; (case n => assumption); (case g => walk_at "fa"))
  | (refine Same.use (Same.upd ?n) ?g; (case n => assumption); (case g => walk_at "fa"))
  | (refine Same.use (H := ?m) ?s ?g; (case s => assumption); (case g => walk_at "fa"))))
local macro_rules | `(tactic| walk_at "sm") => `(tactic| (first
  | assumption
  | exact Same.refl _
  | (refine Same.after (Same.upd ?n) ?g; (case n => assumption); (case g => walk_at "sm"))
  | (refine Same.after (H1 := ?m) ?s ?g; (case s => assumption); (case g => walk_at "sm"))))
local macro_rules | `(tactic| walk_at "nn") => `(tactic| (first
  | assumption
  | (refine Same.free (H' := ?m) ?s ?n; (case n => assumption); (case s => walk_at "sm"))))
local macro_rules | `(tactic| walk_at "lt") => `(tactic| (first
  | assumption
  | omega
  | exact Nat.mod_lt _ (by decide)
  | (refine at_lt ?_; walk_at "al")
  | exact mlt_lt _ _
  | exact sqd_lt
  | (refine Nat.xor_lt_two_pow ?_ ?_ <;> walk_at "lt")
  | (refine lft_lt ?_ (by decide); walk_at "lt")
  | (refine rgt_lt ?_ (by decide); walk_at "lt")
  | (refine lt64_of16 ?_; walk_at "lt")))
local macro_rules | `(tactic| walk_at "al") => `(tactic| (first
  | assumption
  | exact AllLt.nil
  | (refine AllLt.cons ?_ ?_; (walk_at "lt"); (walk_at "al"))
  | (refine AllLt.drop ?_; walk_at "al")
  | (refine AllLt.take ?_; walk_at "al")))
local macro_rules | `(tactic| walk_at "bd") => `(tactic| ((try dsimp only); first
  | (simp only [List.length_drop, List.length_take, List.length_cons, List.length_nil, List.length_map, List.length_range, nvs_len]; first | omega | decide)
  | omega
  | decide
  | ((with_reducible show AllLt _ _); walk_at "al")
  | walk_at "lt"
  | exact fun _ _ => trivial
  | (refine leM ?_; walk_at "lt")
  | (refine leL ?_; walk_at "lt")
  | (refine ⟨?_, ?_⟩ <;> walk_at "bd")))
local macro_rules | `(tactic| walk_at "rd") => `(tactic| repeat (walk_at "r1"))
local macro_rules | `(tactic| walk_at "r1") => `(tactic| (first
  | refine ⟨_, rfl, ?_⟩
  | refine ⟨_, _, rfl, rfl, ?_⟩
  | refine ⟨_, _, _, rfl, rfl, ?_⟩
  | refine ⟨_, _, _, rfl, rfl, rfl, ?_⟩
  | refine ⟨_, _, rfl, rfl, rfl, ?_⟩
  | refine ⟨_, _, _, rfl, ?_⟩
  | refine ⟨_, _, rfl, ?_⟩
  | (refine And.intro ?c ?_; (case c => (with_reducible show _ = some _); walk_at "fa"))
  | (refine ⟨?ws, ?h, ?_⟩; (case h => (with_reducible show _ = some (HO.lst _)); walk_at "fa"))
  | (refine ⟨?ws, ?ks, ?h, ?g, ?_⟩; (case h => (with_reducible show _ = some (HO.lst _)); walk_at "fa"); (case g => (with_reducible show _ = some (HO.lst _)); walk_at "fa"))
  | (refine ⟨?ws, SqL.of ?h, ?_⟩; (case h => walk_at "fa"))
  | (refine And.intro ⟨?ws, SqL.of ?h⟩ ?_; (case h => walk_at "fa"))
  | (refine ⟨_, ?xs, rfl, SqL.of ?h, ?_⟩; (case h => walk_at "fa"))
  | (refine ⟨_, ?xs, rfl, Or.inl (SqL.of ?h), ?_⟩; (case h => walk_at "fa"))
  | (refine ⟨_, _, ?xs, ?ys, rfl, SqL.of ?h, SqL.of ?g, ?_⟩; (case h => walk_at "fa"); (case g => walk_at "fa"))
  | (refine And.intro (Or.inl ⟨rfl, ?xs, SqL.of ?h⟩) ?_; (case h => walk_at "fa"))
  | refine And.intro rfl ?_
  | refine And.intro (by walk_at "bd") ?_
  | (refine ⟨_, ?xs, _, ?v, rfl, rfl, SqL.of ?h, ?e, ?_⟩; (case h => walk_at "fa"); (case e => first | exact rfl | (refine nvs_get (at_get ?_); walk_at "bd")))
  | (refine ⟨_, ?xs, _, ?v, rfl, rfl, SqT.of ?h, ?e, ?_⟩; (case h => walk_at "fa"); (case e => exact rfl))
  | refine retV.nvs_drop ?_
  | refine retV.nvs_take ?_
  | refine retV.nvs_cut ?_
  | ((with_reducible show retL _ _ _); intro Hn pn sn nn hn)
  | rw [nvs_reverse]
  | refine fun (pn : Addr) (nn : _ = none) => ?_))
open Sz25 (at_ M L GOLD plus less)
def zvs (ls : List Int) : List V := ls.map V.int
theorem zvs_get {ls : List Int} {j : Nat} {z : Int} (h : ls[j]? = some z) : (zvs ls)[j]? = some (.int z) := by
  unfold zvs
  rw [List.getElem?_map, h] <;> rfl
theorem zvs_drop (ls : List Int) (i : Nat) : (zvs ls).drop i = zvs (ls.drop i) := List.map_drop.symm
theorem zvs_take (ls : List Int) (i : Nat) : (zvs ls).take i = zvs (ls.take i) := List.map_take.symm
theorem zvs_nat {ls : List Int} (h : ∀ z ∈ ls, 0 ≤ z) : zvs ls = nvs (ls.map Int.toNat) := by
  unfold zvs nvs
  rw [List.map_map]
  refine List.map_congr_left fun z hz => ?_
  show V.int z = V.int ((z.toNat : Nat) : Int)
  rw [Int.toNat_of_nonneg (h z hz)]
/-- the place behind the call that begins at a place -/
inductive EndOf (ls : List Int) (i : Nat) : Nat → Prop where
  | block (h : ls[i]? = some 4) : EndOf ls i (i + 1)
  | key {k : Nat} (h : ls[i]? = some 1) (e : ls[i + 2]? = some (k : Int)) : EndOf ls i (i + 2 + 1 + k)
  | start {k : Nat} (h : ls[i]? = some 2) (e : ls[i + 1]? = some (k : Int)) : EndOf ls i (i + 1 + 1 + k)
  | run {k : Nat} (h : ls[i]? = some 3) (e : ls[i + 3]? = some (k : Int)) : EndOf ls i (i + 3 + 1 + k)
def spEnd (K : PySem.W.Frag) : Sp := fun vs H Q _ => ∃ pl i, vs = [.ref pl, vn i] ∧ ∃ ls e, SqL K H pl (zvs ls) ∧ EndOf ls i e ∧ Q (vn e) H
section
variable {P : Program} {w : World} {K : PySem.W.Frag} {mg : Str → Option Value} {base : Heap} {a : Ad}
theorem ok_call_end (T : Txt K mg a) : FnOk P w K mg base CX0 1 a.f_call_end a.d_call_end ["calls", "at"] (spEnd K) := by
  refine T.call_end.F.ok sc_call_end (fun vs H Q E h => ?_) (fun cdv A outer s H vs Q E hr h => ?_)
  · obtain ⟨_, _, rfl, _⟩ := h
    rfl
  · skip

    obtain ⟨pl, i, rfl, ls, e, hl, he, q⟩ := h
    refine ⟨_, pss_cons (ps_if (pt_cmpR op_eqI (pe_ix ix_listN (pv 0) (pv 1) (fun _ _ => rfl)) (pc T.c_CK_BLOCK) (nomark _)) (pss_one (ps_ret (pe_op op_add (pv 1) (pe_nat 1)))) pss_nil)
      (pss_cons (ps_set (i := 2) sc_call_end.nd rfl (by first | exact Or.inl rfl | exact Or.inr rfl) (pe_op op_add (pv 1) (pe_ix ix_tupN (pe_glob (v := .ref a.t_COUNT_PLACES) rfl T.g_COUNT_PLACES rfl) (pe_ix ix_listN (pv 0) (pv 1) (fun _ _ => rfl)) (fun _ _ => rfl))))
      (pss_one (ps_ret (pe_op op_add (pe_op op_add (pv 2) (pe_nat 1)) (pe_ix ix_listN (pv 0) (pv 2) (fun _ _ => rfl)))))), ?_⟩
    have other : ∀ (j cp k : Nat), ls[i]? = some (j : Int) → (nvs [0, 2, 1, 3])[j]? = some (vn cp) → j ≠ 4 → ls[i + cp]? = some (k : Int) → e = i + cp + 1 + k →
        tSeq (tIfS (tTest (tOp (rIB fun i j => i = j) (tOp (rIxLN K) (tVar 0) (tVar 1)) (tC (vn 4)))) (tRet (tOp (rI0 fun i j => V.int (i + j)) (tVar 1) (tC (vn 1)))) tNext)
          (tSeq (tAsg (tOp (rI0 fun i j => V.int (i + j)) (tVar 1) (tOp (rIxTN K) (tC (.ref a.t_COUNT_PLACES)) (tOp (rIxLN K) (tVar 0) (tVar 1)))) (gName 2))
            (tRet (tOp (rI0 fun i j => V.int (i + j)) (tOp (rI0 fun i j => V.int (i + j)) (tVar 2) (tC (vn 1))) (tOp (rIxLN K) (tVar 0) (tVar 2)))))
          { nx := fun _ H' => Q .non H', rt := Q } [some (.ref pl), some (vn i), none] H := fun j cp k h1 h2 h3 h4 h5 => by
      refine ⟨_, rfl, _, rfl, _, _, _, _, rfl, rfl, hl, zvs_get h1, _, _, rfl, rfl, _, rfl, ite2 (fun h => ?_) (fun h => ?_)⟩
      · exact absurd (of_decide_eq_true h) (by dsimp only; omega)
      · refine ⟨_, rfl, _, rfl, _, rfl, _, _, _, _, rfl, rfl, hl, zvs_get h1, _, _, _, _, rfl, rfl, T.q_COUNT_PLACES.sq, h2, _, _, rfl, rfl, ?_⟩
        refine ⟨_, rfl, _, _, rfl, rfl, _, rfl, _, rfl, _, _, i + cp, _, rfl, rfl, hl, zvs_get h4, _, _, rfl, rfl, ?_⟩
        rw [h5] at q
        exact q
    cases he with
    | block h1 =>
      refine ⟨_, rfl, _, rfl, _, _, _, _, rfl, rfl, hl, zvs_get h1, _, _, rfl, rfl, _, rfl, ite2 (fun h => ?_) (fun h => absurd (decide_eq_true rfl) h)⟩
      exact ⟨_, rfl, _, _, rfl, rfl, q⟩
    | key h1 h2 => exact other 1 2 _ h1 rfl (by decide) h2 rfl
    | start h1 h2 => exact other 2 1 _ h1 rfl (by decide) h2 rfl
    | run h1 h2 => exact other 3 3 _ h1 rfl (by decide) h2 rfl
end
end Sx
end
section
set_option Elab.async false
set_option linter.all false
set_option maxRecDepth 100000
set_option maxHeartbeats 2000000
set_option exponentiation.threshold 2000
namespace Sx
open PySem PySem.Spec PyProof.Rows L2
local macro_rules | `(tactic| walk_at "fa") => `(tactic| (first
  | assumption
  | exact upd_same
  | (refine upd_get ?n ?g; (case n => assumption); (case g => walk_at "fa"))
  | (refine Same.use (Same.upd ?n) ?g; (case n => assumption); (case g => walk_at "fa"))
  | (refine Same.use (H := ?m) ?s ?g; (case s => assumption); (case g => walk_at "fa"))))
local macro_rules | `(tactic| walk_at "sm") => `(tactic| (first
  | assumption
  | exact Same.refl _
  | (refine Same.after (Same.upd ?n) ?g; (case n => assumption); (case g => walk_at "sm"))
  | (refine Same.after (H1 := ?m) ?s ?g; (case s => assumption); (case g => walk_at "sm"))))
local macro_rules | `(tactic| walk_at "nn") => `(tactic| (first
  | assumption
  | (refine Same.free (H' := ?m) ?s ?n; (case n => assumption); (case s => walk_at "sm"))))
local macro_rules | `(tactic| walk_at "lt") => `(tactic| (first
  | assumption
  | omega
  | exact Nat.mod_lt _ (by decide)
  | (refine at_lt ?_; walk_at "al")
  | exact mlt_lt _ _
  | exact sqd_lt
  | (refine Nat.xor_lt_two_pow ?_ ?_ <;> walk_at "lt")
  | (refine lft_lt ?_ (by decide); walk_at "lt")
  | (refine rgt_lt ?_ (by decide); walk_at "lt")
  | (refine lt64_of16 ?_; walk_at "lt")))
local macro_rules | `(tactic| walk_at "al") => `(tactic| (first
  | assumption
  | exact AllLt.nil
  | (refine AllLt.cons ?_ ?_; (walk_at "lt"); (walk_at "al"))
  | (refine AllLt.drop ?_; walk_at "al")
  | (refine AllLt.take ?_; walk_at "al")))
local macro_rules | `(tactic| walk_at "bd") => `(tactic| ((try dsimp only); first
  | (simp only [List.length_drop, List.length_take, List.length_cons, List.length_nil, List.length_map, List.length_range, nvs_len]; first | omega | decide)
  | omega
  | decide
  | ((with_reducible show AllLt _ _); walk_at "al")
  | walk_at "lt"
  | exact fun _ _ => trivial
  | (refine leM ?_; walk_at "lt")
  | (refine leL ?_; walk_at "lt")
  | (refine ⟨?_, ?_⟩ <;> walk_at "bd")))
local macro_rules | `(tactic| walk_at "rd") => `(tactic| repeat (walk_at "r1"))
local macro_rules | `(tactic| walk_at "r1") => `(tactic| (first
  | refine ⟨_, rfl, ?_⟩
  | refine ⟨_, _, rfl, rfl, ?_⟩
  | refine ⟨_, _, _, rfl, rfl, ?_⟩
  | refine ⟨_, _, _, rfl, rfl, rfl, ?_⟩
  | refine ⟨_, _, rfl, rfl, rfl, ?_⟩
  | refine ⟨_, _, _, rfl, ?_⟩
  | refine ⟨_, _, rfl, ?_⟩
  | (refine And.intro ?c ?_; (case c => (with_reducible show _ = some _); walk_at "fa"))
  | (refine ⟨?ws, ?h, ?_⟩; (case h => (with_reducible show _ = some (HO.lst _)); walk_at "fa"))
  | (refine ⟨?ws, ?ks, ?h, ?g, ?_⟩; (case h => (with_reducible show _ = some (HO.lst _)); walk_at "fa"); (case g => (with_reducible show _ = some (HO.lst _)); walk_at "fa"))
  | (refine ⟨?ws, SqL.of ?h, ?_⟩; (case h => walk_at "fa"))
  | (refine And.intro ⟨?ws, SqL.of ?h⟩ ?_; (case h => walk_at "fa"))
  | (refine ⟨_, ?xs, rfl, SqL.of ?h, ?_⟩; (case h => walk_at "fa"))
  | (refine ⟨_, ?xs, rfl, Or.inl (SqL.of ?h), ?_⟩; (case h => walk_at "fa"))
  | (refine ⟨_, _, ?xs, ?ys, rfl, SqL.of ?h, SqL.of ?g, ?_⟩; (case h => walk_at "fa"); (case g => walk_at "fa"))
  | (refine And.intro (Or.inl ⟨rfl, ?xs, SqL.of ?h⟩) ?_; (case h => walk_at "fa"))
  | refine And.intro rfl ?_
  | refine And.intro (by walk_at "bd") ?_
  | (refine ⟨_, ?xs, _, ?v, rfl, rfl, SqL.of ?h, ?e, ?_⟩; (case h => walk_at "fa"); (case e => first | exact rfl | (refine nvs_get (at_get ?_); walk_at "bd")))
  | (refine ⟨_, ?xs, _, ?v, rfl, rfl, SqT.of ?h, ?e, ?_⟩; (case h => walk_at "fa"); (case e => exact rfl))
  | refine retV.nvs_drop ?_
  | refine retV.nvs_take ?_
  | refine retV.nvs_cut ?_
  | ((with_reducible show retL _ _ _); intro Hn pn sn nn hn)
  | rw [nvs_reverse]
  | refine fun (pn : Addr) (nn : _ = none) => ?_))
open Sz25 (at_ M L GOLD plus less)
abbrev OSt := Option (Nat × List Nat × List Nat)
def StO (C : Addr) (H : Hp) (x : Addr) : OSt → Prop
  | none => ∃ l, SealAt C H x .non .non (.ref l)
  | some (c, key, iv) => Std C H x c key iv
theorem StO.mono {C : Addr} {H H' : Hp} {x : Addr} {s : OSt} (h : StO C H x s) (e : Same H H') : StO C H' x s := by
  match s, h with
  | none, h => exact let ⟨l, q⟩ := h; ⟨l, q.mono e⟩
  | some (c, key, iv), h => exact Std.mono h e
theorem StO.seal {C : Addr} {H : Hp} {x : Addr} {s : OSt} (h : StO C H x s) : ∃ cv sv tv, SealAt C H x cv sv tv := by
  match s, h with
  | none, h => exact let ⟨l, q⟩ := h; ⟨_, _, _, q⟩
  | some (c, key, iv), h =>
    obtain ⟨⟨q, t, h1, _⟩, _⟩ := (show Std C H x c key iv from h)
    exact ⟨_, _, _, h1⟩
def Octets (l : List Int) : Prop := ∀ z ∈ l, 0 ≤ z ∧ z < 256
theorem Octets.nat {l : List Int} (h : Octets l) : zvs l = nvs (l.map Int.toNat) := zvs_nat fun z hz => (h z hz).1
theorem Octets.lt {l : List Int} (h : Octets l) : AllLt 8 (l.map Int.toNat) := fun x hx => by
  obtain ⟨z, hz, rfl⟩ := List.mem_map.mp hx
  have := h z hz
  show z.toNat < 256
  omega
def Refused (c : Nat) (way n : Int) : Prop := way < 0 ∨ 4 < way ∨ n < 0 ∨ 16777216 < n ∨ (way ≠ 4 ∧ n % (blk c : Int) ≠ 0)
/-- a call, what it does with the object, and its answer -/
inductive Does : OSt → List Int → OSt → List Int → Prop where
  | keyBad {s : OSt} {c k : Int} {key : List Int} (h : c < 0 ∨ 5 < c) (o : Octets key) : Does s (1 :: c :: k :: key) s [-1]
  | keyOk {s : OSt} {n : Nat} {k : Int} {key : List Int} (h : n < 6) (l : key.length = klen n) (o : Octets key) : Does s (1 :: (n : Int) :: k :: key) (some (n, key.map Int.toNat, List.replicate (blk n) 0)) [0]
  | start {c : Nat} {key v : List Nat} {k : Int} {iv : List Int} (l : 32 ≤ iv.length) (o : Octets iv) : Does (some (c, key, v)) (2 :: k :: iv) (some (c, key, (iv.map Int.toNat).take (blk c))) [0]
  | runBad {c : Nat} {key v : List Nat} {way n k : Int} {data : List Int} (r : Refused c way n) (o : Octets data) : Does (some (c, key, v)) (3 :: way :: n :: k :: data) (some (c, key, v)) [-1]
  | runOk {c : Nat} {key v : List Nat} {way n k : Int} {data : List Int} (r : ¬ Refused c way n) (o : Octets data) (e : n = (data.length : Int)) (l : data.length ≤ 2000) : Does (some (c, key, v)) (3 :: way :: n :: k :: data)
      (some (c, key, (runX c way.toNat key v (data.map Int.toNat) (nblk c data.length)).2)) (0 :: (runX c way.toNat key v (data.map Int.toNat) (nblk c data.length)).1.map fun (y : Nat) => (y : Int))
  | block {c : Nat} {key v : List Nat} : Does (some (c, key, v)) [4] (some (c, key, v)) [(blk c : Int)]
def spCA (C : Addr) : Sp := fun vs H Q _ => ∃ x p, vs = [.ref x, .ref p] ∧ ∃ s cs s' out A, StO C (del A H) x s ∧ Tr A H ∧ H p = some (.lst (zvs cs)) ∧ p ∉ A ∧ Does s cs s' out ∧ ∀ H' r, StO C (del A H') x s' → Keep x H H' → r ∉ A → H' r = some (.lst (zvs out)) → Q (.ref r) H'
theorem retV_z {H : Hp} {Q : VK} {l : List Int} {i : Nat} (q : retV H Q (zvs (l.drop i))) : retV H Q ((zvs l).drop i) := by rw [zvs_drop]; exact q
section
variable {P : Program} {w : World} {K : PySem.W.Frag} {mg : Str → Option Value} {base : Heap} {a : Ad}
theorem ok_call_answer (T : Txt K mg a) : FnOk P w K mg base CX0 9 a.f_call_answer a.d_call_answer ["sealer", "call"] (spCA a.C) := by
  refine T.call_answer.F.ok sc_call_answer (fun vs H Q E h => ?_) (fun cdv A outer s H vs Q E hr h => ?_)
  · obtain ⟨_, _, rfl, _⟩ := h
    rfl
  · skip
    have G_block_size := ok_block_size (P := P) (w := w) (base := base) T
    have G_run_blocks := ok_run_blocks (P := P) (w := w) (base := base) T
    have G_take_start := ok_take_start (P := P) (w := w) (base := base) T
    have G_take_key := ok_take_key (P := P) (w := w) (base := base) T
    obtain ⟨x, p, rfl, s, cs, s', out, A, st, tr, hp, pA, hd, q⟩ := h
    obtain ⟨cv, sv, tv, dx, hx⟩ := st.seal
    obtain ⟨xA, hx'⟩ := del_of hx
    refine ⟨_, pss_cons (ps_if (pt_cmpR op_eqI (pe_ix ix_listN (pv 1) (pe_nat 0) (fun _ _ => rfl)) (pc T.c_CK_KEY) (nomark _)) (pss_one (ps_ret (pe_lst (pa_cons (pe_meth (pv 0) T.cl T.take_key.m G_take_key (hr.mono (by decide)) T.take_key.b .nil pass0 (pa_cons (pe_ix ix_listN (pv 1) (pe_nat 1) (fun _ _ => rfl)) (pa_cons (pe_slice sl_i (pv 1) (po_some (pe_nat 3)) po_none) pa_nil))) pa_nil)))) pss_nil)
      (pss_cons (ps_if (pt_cmpR op_eqI (pe_ix ix_listN (pv 1) (pe_nat 0) (fun _ _ => rfl)) (pc T.c_CK_START) (nomark _)) (pss_one (ps_ret (pe_lst (pa_cons (pe_meth (pv 0) T.cl T.take_start.m G_take_start (hr.mono (by decide)) T.take_start.b .nil pass0 (pa_cons (pe_slice sl_i (pv 1) (po_some (pe_nat 2)) po_none) pa_nil)) pa_nil)))) pss_nil)
      (pss_cons (ps_if (pt_cmpR op_eqI (pe_ix ix_listN (pv 1) (pe_nat 0) (fun _ _ => rfl)) (pc T.c_CK_RUN) (nomark _)) (pss_one (ps_ret (pe_meth (pv 0) T.cl T.run_blocks.m G_run_blocks (hr.mono (by decide)) T.run_blocks.b .nil pass0 (pa_cons (pe_ix ix_listN (pv 1) (pe_nat 1) (fun _ _ => rfl)) (pa_cons (pe_ix ix_listN (pv 1) (pe_nat 2) (fun _ _ => rfl)) (pa_cons (pe_slice sl_i (pv 1) (po_some (pe_nat 4)) po_none) pa_nil)))))) pss_nil)
      (pss_one (ps_ret (pe_lst (pa_cons (pe_meth0 (pv 0) T.cl T.block_size.m G_block_size (hr.mono (by decide)) T.block_size.b .nil pass0) pa_nil)))))), ?_⟩
    have one : ∀ {z : Int} {H1 : Hp} {s1 : OSt}, out = [z] → s' = s1 → StO a.C (del A H1) x s1 → Keep x H H1 → tNil ([] : L2.St) H1 (fun xs H2 => (V.int z :: xs).length ≤ sizeLine ∧ ∀ p, H2 p = none → Q (.ref p) (upd H2 p (.lst (V.int z :: xs)))) := fun {z H1 s1} e1 e2 h1 k1 => by
      refine ⟨by show 1 ≤ sizeLine; decide, fun r nr => ?_⟩
      rw [e1, e2] at q
      exact q _ r (h1.mono (same_del (Same.upd nr))) (k1.trans (Keep.of (Same.upd nr))) ((tr.keep k1 xA).fresh nr) upd_same
    cases hd with
    | @keyBad _ c k key h o =>
      refine ⟨_, rfl, _, _, _, _, rfl, rfl, SqL.of hp, zvs_get rfl, _, _, rfl, rfl, _, rfl, ite2 (fun _ => ?_) (fun h => absurd (decide_eq_true rfl) h)⟩
      refine ⟨_, rfl, x, dx, _, rfl, hx', no_m _ _ _ (by decide +kernel), ?_⟩
      refine ⟨_, rfl, _, _, _, _, rfl, rfl, SqL.of hp, zvs_get (j := 1) rfl, _, rfl, _, rfl, _, _, rfl, rfl, rfl, _, SqL.of hp, retV_z fun H1 p1 s1 n1 h1 => ?_⟩
      have h1 : H1 p1 = some (.lst (nvs (key.map Int.toNat))) := by rw [← o.nat]; exact h1
      refine ⟨_, _, _, rfl, _, _, _, _, A, ⟨dx, same_del s1 _ _ hx⟩, tr.mono s1, h1, fun _ => ?_, fun n e hn => by omega⟩
      exact one rfl rfl (st.mono (same_del s1)) (Keep.of s1)
    | @keyOk _ n k key h l o =>
      refine ⟨_, rfl, _, _, _, _, rfl, rfl, SqL.of hp, zvs_get rfl, _, _, rfl, rfl, _, rfl, ite2 (fun _ => ?_) (fun h => absurd (decide_eq_true rfl) h)⟩
      refine ⟨_, rfl, x, dx, _, rfl, hx', no_m _ _ _ (by decide +kernel), ?_⟩
      refine ⟨_, rfl, _, _, _, _, rfl, rfl, SqL.of hp, zvs_get (j := 1) rfl, _, rfl, _, rfl, _, _, rfl, rfl, rfl, _, SqL.of hp, retV_z fun H1 p1 s1 n1 h1 => ?_⟩
      have h1 : H1 p1 = some (.lst (nvs (key.map Int.toNat))) := by rw [← o.nat]; exact h1
      refine ⟨_, _, _, rfl, _, _, _, _, A, ⟨dx, same_del s1 _ _ hx⟩, tr.mono s1, h1, fun z => by omega, fun m e hm => ?_⟩
      have e : n = m := by omega
      subst e
      exact ⟨by rw [List.length_map]; exact l, o.lt, fun H2 st2 k2 => one rfl rfl st2 ((Keep.of s1).trans k2)⟩
    | @start c key v k iv l o =>
      have std : Std a.C (del A H) x c key v := st
      refine ⟨_, rfl, _, _, _, _, rfl, rfl, SqL.of hp, zvs_get rfl, _, _, rfl, rfl, _, rfl, ite2 (fun h => absurd (of_decide_eq_true h) (by decide)) (fun _ => ?_)⟩
      refine ⟨_, rfl, _, _, _, _, rfl, rfl, SqL.of hp, zvs_get rfl, _, _, rfl, rfl, _, rfl, ite2 (fun _ => ?_) (fun h => absurd (decide_eq_true rfl) h)⟩
      refine ⟨_, rfl, x, dx, _, rfl, hx', no_m _ _ _ (by decide +kernel), ?_⟩
      refine ⟨_, rfl, _, rfl, _, _, rfl, rfl, rfl, _, SqL.of hp, retV_z fun H1 p1 s1 n1 h1 => ?_⟩
      have h1 : H1 p1 = some (.lst (nvs (iv.map Int.toNat))) := by rw [← o.nat]; exact h1
      exact ⟨_, _, rfl, c, key, _, v, A, std.mono (same_del s1), tr.mono s1, h1, by rw [List.length_map]; exact l, o.lt, fun H2 st2 k2 => one rfl rfl st2 ((Keep.of s1).trans k2)⟩
    | @runBad c key v way n k data r o =>
      have std : Std a.C (del A H) x c key v := st
      refine ⟨_, rfl, _, _, _, _, rfl, rfl, SqL.of hp, zvs_get rfl, _, _, rfl, rfl, _, rfl, ite2 (fun h => absurd (of_decide_eq_true h) (by decide)) (fun _ => ?_)⟩
      refine ⟨_, rfl, _, _, _, _, rfl, rfl, SqL.of hp, zvs_get rfl, _, _, rfl, rfl, _, rfl, ite2 (fun h => absurd (of_decide_eq_true h) (by decide)) (fun _ => ?_)⟩
      refine ⟨_, rfl, _, _, _, _, rfl, rfl, SqL.of hp, zvs_get rfl, _, _, rfl, rfl, _, rfl, ite2 (fun _ => ?_) (fun h => absurd (decide_eq_true rfl) h)⟩
      refine ⟨_, rfl, x, dx, _, rfl, hx', no_m _ _ _ (by decide +kernel), ?_⟩
      refine ⟨_, rfl, _, _, _, _, rfl, rfl, SqL.of hp, zvs_get (j := 1) rfl, _, rfl, _, _, _, _, rfl, rfl, SqL.of hp, zvs_get (j := 2) rfl, _, rfl, _, rfl, _, _, rfl, rfl, rfl, _, SqL.of hp, retV_z fun H1 p1 s1 n1 h1 => ?_⟩
      have h1 : H1 p1 = some (.lst (nvs (data.map Int.toNat))) := by rw [← o.nat]; exact h1
      refine ⟨_, _, _, _, rfl, c, key, v, _, A, std.mono (same_del s1), tr.mono s1, h1, tr.fresh n1, o.lt, fun _ H2 r2 s2 rA h2 => ?_, fun z => absurd r z⟩
      exact q H2 r2 (st.mono (same_del (s1.trans s2))) (Keep.of (s1.trans s2)) rA h2
    | @runOk c key v way n k data r o e l =>
      have std : Std a.C (del A H) x c key v := st
      refine ⟨_, rfl, _, _, _, _, rfl, rfl, SqL.of hp, zvs_get rfl, _, _, rfl, rfl, _, rfl, ite2 (fun h => absurd (of_decide_eq_true h) (by decide)) (fun _ => ?_)⟩
      refine ⟨_, rfl, _, _, _, _, rfl, rfl, SqL.of hp, zvs_get rfl, _, _, rfl, rfl, _, rfl, ite2 (fun h => absurd (of_decide_eq_true h) (by decide)) (fun _ => ?_)⟩
      refine ⟨_, rfl, _, _, _, _, rfl, rfl, SqL.of hp, zvs_get rfl, _, _, rfl, rfl, _, rfl, ite2 (fun _ => ?_) (fun h => absurd (decide_eq_true rfl) h)⟩
      refine ⟨_, rfl, x, dx, _, rfl, hx', no_m _ _ _ (by decide +kernel), ?_⟩
      refine ⟨_, rfl, _, _, _, _, rfl, rfl, SqL.of hp, zvs_get (j := 1) rfl, _, rfl, _, _, _, _, rfl, rfl, SqL.of hp, zvs_get (j := 2) rfl, _, rfl, _, rfl, _, _, rfl, rfl, rfl, _, SqL.of hp, retV_z fun H1 p1 s1 n1 h1 => ?_⟩
      have h1 : H1 p1 = some (.lst (nvs (data.map Int.toNat))) := by rw [← o.nat]; exact h1
      have lm : (data.map Int.toNat).length = data.length := List.length_map ..
      refine ⟨_, _, _, _, rfl, c, key, v, _, A, std.mono (same_del s1), tr.mono s1, h1, tr.fresh n1, o.lt, fun z => absurd z r, fun _ => ⟨by rw [lm]; exact e, by rw [lm]; exact l, fun H2 r2 st2 k2 rA h2 => ?_⟩⟩
      rw [lm] at st2 h2
      refine q H2 r2 st2 ((Keep.of s1).trans k2) rA ?_
      rw [h2]
      unfold nvs zvs
      rw [List.map_cons, List.map_cons, List.map_map]
      rfl
    | @block c key v =>
      have std : Std a.C (del A H) x c key v := st
      obtain ⟨⟨q0, t, ⟨dx2, hx2⟩, _⟩, hc, _⟩ := id std
      obtain ⟨_, hx2⟩ := del_of hx2
      refine ⟨_, rfl, _, _, _, _, rfl, rfl, SqL.of hp, zvs_get rfl, _, _, rfl, rfl, _, rfl, ite2 (fun h => absurd (of_decide_eq_true h) (by decide)) (fun _ => ?_)⟩
      refine ⟨_, rfl, _, _, _, _, rfl, rfl, SqL.of hp, zvs_get rfl, _, _, rfl, rfl, _, rfl, ite2 (fun h => absurd (of_decide_eq_true h) (by decide)) (fun _ => ?_)⟩
      refine ⟨_, rfl, _, _, _, _, rfl, rfl, SqL.of hp, zvs_get rfl, _, _, rfl, rfl, _, rfl, ite2 (fun h => absurd (of_decide_eq_true h) (by decide)) (fun _ => ?_)⟩
      refine ⟨_, rfl, x, dx2, _, rfl, hx2, no_m _ _ _ (by decide +kernel), ?_⟩
      exact ⟨_, rfl, c, _, _, ⟨dx2, hx2⟩, hc, one rfl rfl st (Keep.of (Same.refl H))⟩
end
end Sx
end
section
set_option Elab.async false
set_option linter.all false
set_option maxRecDepth 100000
set_option maxHeartbeats 2000000
set_option exponentiation.threshold 2000
namespace Sx
open PySem PySem.Spec PyProof.Rows L2
local macro_rules | `(tactic| walk_at "fa") => `(tactic| (first
  | assumption
  | exact upd_same
  | (refine upd_get ?n ?g; (case n => assumption); (case g => walk_at "fa"))
  | (refine Same.use (Same.upd ?n) ?g; (case n => assumption); (case g => walk_at "fa"))
  | (refine Same.use (H := ?m) ?s ?g; (case s => assumption); (case g => walk_at "fa"))))
local macro_rules | `(tactic| walk_at "sm") => `(tactic| (first
  | assumption
  | exact Same.refl _
  | (refine Same.after (Same.upd ?n) ?g; (case n => assumption); (case g => walk_at "sm"))
  | (refine Same.after (H1 := ?m) ?s ?g; (case s => assumption); (case g => walk_at "sm"))))
local macro_rules | `(tactic| walk_at "nn") => `(tactic| (first
  | assumption
  | (refine Same.free (H' := ?m) ?s ?n; (case n => assumption); (case s => walk_at "sm"))))
local macro_rules | `(tactic| walk_at "lt") => `(tactic| (first
  | assumption
  | omega
  | exact Nat.mod_lt _ (by decide)
  | (refine at_lt ?_; walk_at "al")
  | exact mlt_lt _ _
  | exact sqd_lt
  | (refine Nat.xor_lt_two_pow ?_ ?_ <;> walk_at "lt")
  | (refine lft_lt ?_ (by decide); walk_at "lt")
  | (refine rgt_lt ?_ (by decide); walk_at "lt")
  | (refine lt64_of16 ?_; walk_at "lt")))
local macro_rules | `(tactic| walk_at "al") => `(tactic| (first
  | assumption
  | exact AllLt.nil
  | (refine AllLt.cons ?_ ?_; (walk_at "lt"); (walk_at "al"))
  | (refine AllLt.drop ?_; walk_at "al")
  | (refine AllLt.take ?_; walk_at "al")))
local macro_rules | `(tactic| walk_at "bd") => `(tactic| ((try dsimp only); first
  | (simp only [List.length_drop, List.length_take, List.length_cons, List.length_nil, List.length_map, List.length_range, nvs_len]; first | omega | decide)
  | omega
  | decide
  | ((with_reducible show AllLt _ _); walk_at "al")
  | walk_at "lt"
  | exact fun _ _ => trivial
  | (refine leM ?_; walk_at "lt")
  | (refine leL ?_; walk_at "lt")
  | (refine ⟨?_, ?_⟩ <;> walk_at "bd")))
local macro_rules | `(tactic| walk_at "rd") => `(tactic| repeat (walk_at "r1"))
local macro_rules | `(tactic| walk_at "r1") => `(tactic| (first
  | refine ⟨_, rfl, ?_⟩
  | refine ⟨_, _, rfl, rfl, ?_⟩
  | refine ⟨_, _, _, rfl, rfl, ?_⟩
  | refine ⟨_, _, _, rfl, rfl, rfl, ?_⟩
  | refine ⟨_, _, rfl, rfl, rfl, ?_⟩
  | refine ⟨_, _, _, rfl, ?_⟩
  | refine ⟨_, _, rfl, ?_⟩
  | (refine And.intro ?c ?_; (case c => (with_reducible show _ = some _); walk_at "fa"))
  | (refine ⟨?ws, ?h, ?_⟩; (case h => (with_reducible show _ = some (HO.lst _)); walk_at "fa"))
  | (refine ⟨?ws, ?ks, ?h, ?g, ?_⟩; (case h => (with_reducible show _ = some (HO.lst _)); walk_at "fa"); (case g => (with_reducible show _ = some (HO.lst _)); walk_at "fa"))
  | (refine ⟨?ws, SqL.of ?h, ?_⟩; (case h => walk_at "fa"))
  | (refine And.intro ⟨?ws, SqL.of ?h⟩ ?_; (case h => walk_at "fa"))
  | (refine ⟨_, ?xs, rfl, SqL.of ?h, ?_⟩; (case h => walk_at "fa"))
  | (refine ⟨_, ?xs, rfl, Or.inl (SqL.of ?h), ?_⟩; (case h => walk_at "fa"))
  | (refine ⟨_, _, ?xs, ?ys, rfl, SqL.of ?h, SqL.of ?g, ?_⟩; (case h => walk_at "fa"); (case g => walk_at "fa"))
  | (refine And.intro (Or.inl ⟨rfl, ?xs, SqL.of ?h⟩) ?_; (case h => walk_at "fa"))
  | refine And.intro rfl ?_
  | refine And.intro (by walk_at "bd") ?_
  | (refine ⟨_, ?xs, _, ?v, rfl, rfl, SqL.of ?h, ?e, ?_⟩; (case h => walk_at "fa"); (case e => first | exact rfl | (refine nvs_get (at_get ?_); walk_at "bd")))
  | (refine ⟨_, ?xs, _, ?v, rfl, rfl, SqT.of ?h, ?e, ?_⟩; (case h => walk_at "fa"); (case e => exact rfl))
  | refine retV.nvs_drop ?_
  | refine retV.nvs_take ?_
  | refine retV.nvs_cut ?_
  | ((with_reducible show retL _ _ _); intro Hn pn sn nn hn)
  | rw [nvs_reverse]
  | refine fun (pn : Addr) (nn : _ = none) => ?_))
open Sz25 (at_ M L GOLD plus less)
theorem zvs_len (ls : List Int) : (zvs ls).length = ls.length := List.length_map ..
theorem zvs_append (l m : List Int) : zvs l ++ zvs m = zvs (l ++ m) := List.map_append.symm
/-- from a place and a state on: what is answered -/
inductive Plays (ls : List Int) : OSt → Nat → List Int → Prop where
  | done {s : OSt} : Plays ls s ls.length []
  | call {s s' : OSt} {i e : Nat} {out more : List Int} (hi : i < ls.length) (he : EndOf ls i e) (le : e ≤ ls.length) (hd : Does s ((ls.drop i).take (e - i)) s' out) (rest : Plays ls s' e more) : Plays ls s i (((out.length : Int) :: out) ++ more)
theorem EndOf.gt {ls : List Int} {i e : Nat} (h : EndOf ls i e) : i < e := by
  cases h <;> omega
def spAns (K : PySem.W.Frag) : Sp := fun vs H Q _ => ∃ pl, vs = [.ref pl] ∧ ∃ ls res, SqL K H pl (zvs ls) ∧ Plays ls none 0 res ∧ res.length < sizeLine ∧ ∀ H' r, H' r = some (.lst (zvs res)) → Q (.ref r) H'
section
variable {P : Program} {w : World} {K : PySem.W.Frag} {mg : Str → Option Value} {base : Heap} {a : Ad}
theorem ok_answers (T : Txt K mg a) : FnOk P w K mg base CX0 10 a.f_answers a.d_answers ["calls"] (spAns K) := by
  refine T.answers.F.ok sc_answers (fun vs H Q E h => ?_) (fun cdv A outer s H vs Q E hr h => ?_)
  · obtain ⟨_, rfl, _⟩ := h
    rfl
  · skip
    have G_call_answer := ok_call_answer (P := P) (w := w) (base := base) T
    have G_call_end := ok_call_end (P := P) (w := w) (base := base) T
    have G___init__ := ok___init__ (P := P) (w := w) (base := base) T
    obtain ⟨pl, rfl, ls, res, hl, pl0, lr, q⟩ := h
    refine ⟨_, pss_cons (ps_set (i := 1) sc_answers.nd rfl (by first | exact Or.inl rfl | exact Or.inr rfl) (pe_make0 T.mkS G___init__ (hr.mono (by decide)) rfl T.g_Sealer T.__init__.b .nil pass0))
      (pss_cons (ps_set (i := 2) sc_answers.nd rfl (by first | exact Or.inl rfl | exact Or.inr rfl) (pe_lst pa_nil))
      (pss_cons (ps_set (i := 3) sc_answers.nd rfl (by first | exact Or.inl rfl | exact Or.inr rfl) (pe_nat 0))
      (pss_cons (ps_while PassesOwn.never (pt_cmpR op_ltI (pv 3) (pe_callB call_len_seq rfl T.n_len PySem.boot_len (pa_cons (pv 0) pa_nil)) (nomark _)) (pss_cons (ps_set (i := 4) sc_answers.nd rfl (by first | exact Or.inl rfl | exact Or.inr rfl) (T.call_end.call G_call_end (hr.mono (by decide)) (pa_cons (pv 0) (pa_cons (pv 3) pa_nil))))
      (pss_cons (ps_set (i := 5) sc_answers.nd rfl (by first | exact Or.inl rfl | exact Or.inr rfl) (T.call_answer.call G_call_answer (hr.mono (by decide)) (pa_cons (pv 1) (pa_cons (pe_slice sl_ij (pv 0) (po_some (pv 3)) (po_some (pv 4))) pa_nil))))
      (pss_cons (ps_expr (pe_bm PySem.F.plainAttrs_list PySem.F.slot_list_append PySem.F.type_list_append mt_append (pv 2) (pa_cons (pe_callB call_len_seq rfl T.n_len PySem.boot_len (pa_cons (pv 5) pa_nil)) pa_nil)))
      (pss_cons (ps_expr (pe_bm PySem.F.plainAttrs_list PySem.F.slot_list_extend PySem.F.type_list_extend mt_extend (pv 2) (pa_cons (pv 5) pa_nil)))
      (pss_one (ps_set (i := 3) sc_answers.nd rfl (by first | exact Or.inl rfl | exact Or.inr rfl) (pv 4))))))))
      (pss_one (ps_ret (pv 2)))))), ?_⟩
    intro x dx nx ndx nex
    refine ⟨x, rfl, dx, upd_same, fun H1 l hs k => ⟨rfl, ?_⟩⟩
    have s1 : Same H H1 := Same.made nx ndx k
    refine ⟨by decide, fun pf npf => ?_⟩
    have fx : pf ≠ x := fun z => by
      obtain ⟨d, h⟩ := hs
      rw [z, h] at npf
      cases npf
    have nf0 : H pf = none := s1.free npf
    have st0 : StO a.C (del [pf] (upd H1 pf (.lst []))) x none := by
      obtain ⟨d, h⟩ := hs
      exact ⟨l, d, del_get (fun z => fx (List.mem_singleton.mp z).symm) (upd_get fx.symm h)⟩
    refine ⟨fun m σ H' => Hold (∃ i s more dn u u2, σ = [some (.ref pl), some (.ref x), some (.ref pf), some (vn i), u, u2] ∧ Same H H' ∧ H' pf = some (.lst (zvs dn)) ∧ StO a.C (del [pf] H') x s ∧ Plays ls s i more ∧ dn ++ more = res ∧ i ≤ ls.length ∧ m = ls.length - i), ⟨_, .mk ⟨0, none, res, [], none, none, rfl, s1.trans (Same.upd npf), upd_same, st0, pl0, rfl, Nat.zero_le _, rfl⟩⟩, ?_⟩
    intro m σ H' z
    obtain ⟨i, s, more, dn, u, u2, rfl, s2, hf, st, pl1, ed, hi, rfl⟩ := z.out
    have hl2 := s2.seq hl
    refine ⟨_, rfl, _, rfl, _, _, rfl, .inl hl2, _, _, rfl, rfl, _, rfl, ite2 (fun hd => ?_) (fun hd => ?_)⟩
    · have hd := of_decide_eq_true hd
      dsimp only at hd
      rw [zvs_len] at hd
      cases pl1 with
      | done => exact absurd hd (by omega)
      | @call _ s' _ e out more' hi2 he le hdo rest =>
        refine ⟨fun σ' H3 => Hold (∃ u3, σ' = [some (.ref pl), some (.ref x), some (.ref pf), some (vn e), some (vn e), u3] ∧ Same H H3 ∧ H3 pf = some (.lst (zvs (dn ++ ((out.length : Int) :: out)))) ∧ StO a.C (del [pf] H3) x s'), fun σ' H3 z => ?_, ?_⟩
        · obtain ⟨u3, rfl, s3, hf3, st3⟩ := z.out
          have := he.gt
          exact ⟨ls.length - e, by omega, .mk ⟨e, s', more', _, _, _, rfl, s3, hf3, st3, rest, by rw [List.append_assoc]; exact ed, le, rfl⟩⟩
        · refine ⟨_, rfl, _, rfl, ?_⟩
          refine ⟨_, _, rfl, ls, e, hl2, he, ?_⟩
          refine ⟨_, rfl, _, rfl, _, rfl, _, rfl, _, rfl, _, rfl, _, _, _, rfl, rfl, rfl, _, hl2, ?_⟩
          rw [zvs_drop, zvs_take]
          intro H3 p3 s3 n3 h3
          have tr : Tr [pf] H' := fun b hb => by rw [List.mem_singleton.mp hb]; exact ⟨_, hf⟩
          refine ⟨_, _, rfl, s, _, s', out, [pf], st.mono (same_del s3), tr.mono s3, h3, tr.fresh n3, hdo, fun H4 r st4 k4 rA h4 => ?_⟩
          have hf4 := k4 _ _ (s3 _ _ hf) fx
          have s4 : Same H H4 := fun b o h => k4 b o (s3 _ _ (s2 _ _ h)) (ne_of_none h nx)
          have lt : dn.length + out.length + 1 < sizeLine := by
            have := congrArg List.length ed
            rw [List.length_append, List.length_append, List.length_cons] at this
            omega
          have rf : r ≠ pf := fun z => rA (List.mem_singleton.mpr z)
          refine ⟨_, rfl, .inl ⟨rfl, _, SqL.of hf4⟩, _, rfl, _, _, rfl, .inl (SqL.of h4), ?_⟩
          rw [zvs_len]
          refine ⟨_, _, _, rfl, rfl, hf4, by rw [zvs_len]; omega, ?_⟩
          have h5 : (upd H4 pf (.lst (zvs dn ++ [.int (out.length : Int)]))) pf = some (.lst (zvs (dn ++ [(out.length : Int)]))) := by rw [upd_same]; exact congrArg (fun z => some (HO.lst z)) (zvs_append dn [_])
          have st5 : StO a.C (del [pf] (upd H4 pf (.lst (zvs dn ++ [.int (out.length : Int)])))) x s' := by rw [del_upd (List.mem_singleton.mpr rfl)]; exact st4
          have s5 : Same H (upd H4 pf (.lst (zvs dn ++ [.int (out.length : Int)]))) := s4.over nf0
          have h5r : (upd H4 pf (.lst (zvs dn ++ [.int (out.length : Int)]))) r = some (.lst (zvs out)) := upd_get rf h4
          generalize upd H4 pf (.lst (zvs dn ++ [.int (out.length : Int)])) = H5 at h5 st5 s5 h5r
          refine ⟨_, rfl, .inl ⟨rfl, _, SqL.of h5⟩, _, rfl, _, _, _, _, rfl, rfl, h5, h5r, ?_, ?_⟩
          · rw [zvs_len, zvs_len, List.length_append, List.length_singleton]
            omega
          · refine ⟨_, rfl, ?_⟩
            refine .mk ⟨_, rfl, s5.over nf0, ?_, ?_⟩
            · rw [upd_same, zvs_append, List.append_assoc]
              rfl
            · rw [del_upd (List.mem_singleton.mpr rfl)]
              exact st5
    · have hd := of_decide_eq_false (eq_false_of_ne_true hd)
      dsimp only at hd
      rw [zvs_len] at hd
      cases pl1 with
      | done =>
        rw [List.append_nil] at ed
        rw [ed] at hf
        exact ⟨_, rfl, q _ _ hf⟩
      | call hi2 => exact absurd hi2 (by omega)
end
end Sx
end
section
set_option Elab.async false
set_option linter.all false
set_option maxHeartbeats 2000000
namespace Sx
open L2
/-! ### digits -/
theorem rowF_succ (n c b : Nat) : rowF n (c + 1) b = rowF (n / 2 ^ b) c b ++ [n % 2 ^ b] := by
  unfold rowF
  rw [List.range_succ, List.map_append]
  have e1 : ∀ i ∈ List.range c, n / 2 ^ (b * (c + 1 - 1 - i)) % 2 ^ b = n / 2 ^ b / 2 ^ (b * (c - 1 - i)) % 2 ^ b := fun i hi => by
    have h := List.mem_range.mp hi
    rw [Nat.div_div_eq_div_mul, ← Nat.pow_add]
    have e : b * (c + 1 - 1 - i) = b + b * (c - 1 - i) := by
      rw [show c + 1 - 1 - i = (c - 1 - i) + 1 by omega, Nat.mul_add, Nat.mul_one, Nat.add_comm]
    rw [e]
  rw [List.map_congr_left e1]
  congr 1
  show [n / 2 ^ (b * (c + 1 - 1 - c)) % 2 ^ b] = _
  rw [show c + 1 - 1 - c = 0 by omega, Nat.mul_zero, Nat.pow_zero, Nat.div_one]
theorem row_num (b : Nat) : ∀ (k : Nat) (ws : List Nat), ws.length = k → AllLt b ws → rowF (numF b ws) k b = ws
  | 0, ws, h, _ => by
    have e : ws = [] := List.length_eq_zero_iff.mp h
    subst e
    rfl
  | k + 1, ws, h, al => by
    obtain ⟨r, x, rfl⟩ : ∃ r x, ws = r ++ [x] := by
      have hne : ws ≠ [] := by intro z; rw [z] at h; cases h
      exact ⟨ws.dropLast, ws.getLast hne, (List.dropLast_concat_getLast hne).symm⟩
    have hx : x < 2 ^ b := al x (List.mem_append_right _ (List.mem_singleton.mpr rfl))
    rw [rowF_succ, numF_snoc]
    have e1 : (numF b r * 2 ^ b + x) / 2 ^ b = numF b r := by
      rw [Nat.mul_comm, Nat.mul_add_div (Nat.two_pow_pos _), Nat.div_eq_of_lt hx, Nat.add_zero]
    have e2 : (numF b r * 2 ^ b + x) % 2 ^ b = x := by
      rw [Nat.mul_comm, Nat.mul_add_mod, Nat.mod_eq_of_lt hx]
    rw [e1, e2, row_num b k r (by rw [List.length_append] at h; simpa using h) fun y hy => al y (List.mem_append_left _ hy)]
theorem num_row (b : Nat) : ∀ (k n : Nat), n < 2 ^ (b * k) → numF b (rowF n k b) = n
  | 0, n, h => by
    rw [Nat.mul_zero, Nat.pow_zero] at h
    have e : n = 0 := by omega
    subst e
    rfl
  | k + 1, n, h => by
    rw [rowF_succ, numF_snoc, num_row b k (n / 2 ^ b) (by
      rw [Nat.div_lt_iff_lt_mul (Nat.two_pow_pos _), ← Nat.pow_add]
      rwa [Nat.mul_succ] at h), Nat.mul_comm]
    exact Nat.div_add_mod n (2 ^ b)
theorem numF_append (b : Nat) (x : List Nat) : ∀ (k : Nat) (y : List Nat), y.length = k → numF b (x ++ y) = numF b x * 2 ^ (b * y.length) + numF b y
  | 0, y, h => by
    have e : y = [] := List.length_eq_zero_iff.mp h
    subst e
    rw [List.append_nil]
    show _ = numF b x * 2 ^ (b * 0) + 0
    rw [Nat.mul_zero, Nat.pow_zero, Nat.mul_one, Nat.add_zero]
  | k + 1, y, h => by
    obtain ⟨r, z, rfl⟩ : ∃ r z, y = r ++ [z] := by
      have hne : y ≠ [] := by intro z; rw [z] at h; cases h
      exact ⟨y.dropLast, y.getLast hne, (List.dropLast_concat_getLast hne).symm⟩
    rw [← List.append_assoc, numF_snoc, numF_snoc, numF_append b x k r (by rw [List.length_append] at h; simpa using h)]
    rw [List.length_append, List.length_singleton, Nat.mul_succ, Nat.pow_add, Nat.add_mul, Nat.mul_assoc, Nat.add_assoc]
/-- words of n bytes -/
def wordsN (n : Nat) (row : List Nat) (m : Nat) : List Nat := (List.range m).map fun i => numF 8 ((row.drop (n * i)).take n)
theorem wordsN_succ (n : Nat) (row : List Nat) (m : Nat) : wordsN n row (m + 1) = wordsN n (row.take (n * m)) m ++ [numF 8 ((row.drop (n * m)).take n)] := by
  unfold wordsN
  rw [List.range_succ, List.map_append]
  congr 1
  refine List.map_congr_left fun i hi => ?_
  have h := List.mem_range.mp hi
  have hle : n * i + n ≤ n * m := by
    rw [← Nat.mul_succ]
    exact Nat.mul_le_mul_left _ h
  rw [List.drop_take, List.take_take, Nat.min_eq_left (by omega)]
theorem num_words (n : Nat) : ∀ (m : Nat) (row : List Nat), row.length = n * m → numF 8 row = numF (8 * n) (wordsN n row m)
  | 0, row, h => by
    have e : row = [] := List.length_eq_zero_iff.mp h
    subst e
    rfl
  | m + 1, row, h => by
    rw [Nat.mul_succ] at h
    rw [wordsN_succ, numF_snoc, ← num_words n m (row.take (n * m)) (by rw [List.length_take]; omega)]
    have e : (row.drop (n * m)).take n = row.drop (n * m) := List.take_of_length_le (by rw [List.length_drop]; omega)
    have e2 := numF_append 8 (row.take (n * m)) _ (row.drop (n * m)) rfl
    rw [List.take_append_drop, List.length_drop, h, show n * m + n - n * m = n by omega] at e2
    rw [e]
    exact e2
theorem wordsN_lt {n m : Nat} {row : List Nat} (al : AllLt 8 row) (h : row.length = n * m) : AllLt (8 * n) (wordsN n row m) := fun x hx => by
  unfold wordsN at hx
  obtain ⟨i, hi, rfl⟩ := List.mem_map.mp hx
  have hi := List.mem_range.mp hi
  have hle : n * i + n ≤ n * m := by
    rw [← Nat.mul_succ]
    exact Nat.mul_le_mul_left _ hi
  exact numF_lt 8 n _ (by rw [List.length_take, List.length_drop, h]; omega) fun y hy => al y (List.mem_of_mem_drop (List.mem_of_mem_take hy))
theorem wordsN_len (n : Nat) (row : List Nat) (m : Nat) : (wordsN n row m).length = m := by unfold wordsN; rw [List.length_map, List.length_range]
/-- bytes to words -/
theorem hf_in {n m : Nat} {row : List Nat} (hn : 0 < n) (h : row.length = n * m) (al : AllLt 8 row) : hfM row 8 (8 * n) = wordsN n row m := by
  unfold hfM
  have e : row.length * 8 / (8 * n) = m := by
    rw [h, Nat.mul_comm (n * m), ← Nat.mul_assoc, Nat.mul_div_cancel_left _ (by omega)]
  rw [e, num_words n m row h]
  exact row_num (8 * n) m _ (wordsN_len n row m) (wordsN_lt al h)
/-- words to bytes -/
theorem num_bytes (n : Nat) : ∀ (ws : List Nat), AllLt (8 * n) ws → numF 8 (ws.reverse.reverse.flatMap fun x => rowF x n 8) = numF (8 * n) ws ∧ (ws.reverse.reverse.flatMap fun x => rowF x n 8).length = n * ws.length := fun ws => by
  rw [List.reverse_reverse]
  have key : ∀ (k : Nat) (ws : List Nat), ws.length = k → AllLt (8 * n) ws → numF 8 (ws.flatMap fun x => rowF x n 8) = numF (8 * n) ws ∧ (ws.flatMap fun x => rowF x n 8).length = n * ws.length := fun k => by
    induction k with
    | zero =>
      intro ws h _
      have e : ws = [] := List.length_eq_zero_iff.mp h
      subst e
      exact ⟨rfl, rfl⟩
    | succ k ih =>
      intro ws h al
      obtain ⟨r, z, rfl⟩ : ∃ r z, ws = r ++ [z] := by
        have hne : ws ≠ [] := by intro z; rw [z] at h; cases h
        exact ⟨ws.dropLast, ws.getLast hne, (List.dropLast_concat_getLast hne).symm⟩
      obtain ⟨i1, i2⟩ := ih r (by rw [List.length_append] at h; simpa using h) fun y hy => al y (List.mem_append_left _ hy)
      have hz : z < 2 ^ (8 * n) := al z (List.mem_append_right _ (List.mem_singleton.mpr rfl))
      rw [List.flatMap_append]
      have e : ([z].flatMap fun x => rowF x n 8) = rowF z n 8 := by simp
      have rl : (rowF z n 8).length = n := rowF_len z n 8
      rw [e, numF_append 8 _ n _ rl, i1, numF_snoc, rl, num_row 8 n z hz]
      refine ⟨rfl, ?_⟩
      rw [List.length_append, i2, rl, List.length_append, List.length_singleton, Nat.mul_add, Nat.mul_one]
  exact key _ ws rfl
theorem hf_out {n : Nat} {ws : List Nat} (hn : 0 < n) (al : AllLt (8 * n) ws) : hfM ws (8 * n) 8 = ws.flatMap fun x => rowF x n 8 := by
  obtain ⟨h1, h2⟩ := num_bytes n ws al
  rw [List.reverse_reverse] at h1 h2
  unfold hfM
  have e : ws.length * (8 * n) / 8 = n * ws.length := by
    rw [Nat.mul_comm ws.length, Nat.mul_assoc, Nat.mul_div_cancel_left _ (by decide)]
  rw [e, ← h1, ← h2]
  refine row_num 8 _ _ rfl fun x hx => ?_
  obtain ⟨y, _, hy⟩ := List.mem_flatMap.mp hx
  exact rowF_lt _ _ _ x hy
end Sx
end
section
set_option Elab.async false
set_option linter.all false
set_option maxHeartbeats 2000000
set_option exponentiation.threshold 100
namespace Sx
/-! ### 65537 -/
theorem fermat_small : ∀ a, a < 257 → 1 ≤ a → a ^ 65536 % 65537 = 1 := by decide +kernel
theorem no_div : ∀ q, q < 256 → 2 ≤ q → 65537 % q ≠ 0 := by decide +kernel
theorem even_pow {r s N : Nat} (h : r + s = 65537) : s ^ (2 * N) % 65537 = r ^ (2 * N) % 65537 := by
  have e : s ^ 2 % 65537 = r ^ 2 % 65537 := by
    have h1 : s = 65537 - r := by omega
    have h2 : s * s + 65537 * (2 * r) = 65537 * 65537 + r * r := by
      have : (r + s) * (r + s) = r * r + 2 * (r * s) + s * s := by
        rw [Nat.add_mul, Nat.mul_add, Nat.mul_add, Nat.mul_comm s r]
        omega
      have h3 : 65537 * (2 * r) = 2 * (r * r) + 2 * (r * s) := by
        rw [← h, Nat.add_mul]
        rw [show r * (2 * r) = 2 * (r * r) by rw [Nat.mul_left_comm], show s * (2 * r) = 2 * (r * s) by rw [Nat.mul_left_comm, Nat.mul_comm s r]]
      have h4 : (65537 : Nat) * 65537 = (r + s) * (r + s) := by rw [h]
      rw [h3, h4, this]
      omega
    have h5 : (s * s) % 65537 = (r * r) % 65537 := by
      have a1 : (s * s + 65537 * (2 * r)) % 65537 = (s * s) % 65537 := Nat.add_mul_mod_self_left _ _ _
      have a2 : (65537 * 65537 + r * r) % 65537 = (r * r) % 65537 := Nat.mul_add_mod _ _ _
      rw [← a1, h2, a2]
    rw [Nat.pow_two, Nat.pow_two]
    exact h5
  rw [Nat.pow_mul, Nat.pow_mul, Nat.pow_mod, e, ← Nat.pow_mod]
theorem fermat : ∀ (k a : Nat), a ≤ k → 1 ≤ a → a ≤ 65536 → a ^ 65536 % 65537 = 1
  | 0, a, h, h1, _ => by omega
  | k + 1, a, h, h1, h2 => by
    by_cases hs : a < 257
    · exact fermat_small a hs h1
    · have hd := Nat.div_add_mod 65537 a
      have hr : 65537 % a < a := Nat.mod_lt _ (by omega)
      have hq1 : 65537 / a ≤ 255 := by
        have : 65537 / a < 256 := (Nat.div_lt_iff_lt_mul (by omega)).mpr (by omega)
        omega
      have hq0 : 1 ≤ 65537 / a := (Nat.le_div_iff_mul_le (by omega)).mpr (by omega)
      generalize 65537 / a = q at hd hq1 hq0
      generalize 65537 % a = r at hd hr
      have r0 : r ≠ 0 := by
        intro z
        subst z
        have hq2 : 2 ≤ q := by
          by_cases e : q = 1
          · subst e; omega
          · omega
        refine no_div q (by omega) hq2 ?_
        rw [← hd, Nat.add_zero]
        exact Nat.mul_mod_left _ _
      have fr := fermat k r (by omega) (by omega) (by omega)
      have fq := fermat_small q (by omega) hq0
      have e := even_pow (r := r) (s := a * q) (N := 32768) (by omega)
      rw [show 2 * 32768 = 65536 from rfl, fr, Nat.mul_pow, Nat.mul_mod, fq, Nat.mul_one, Nat.mod_mod] at e
      exact e
def E (x : Nat) : Nat := if x = 0 then 65536 else x
theorem E_bd {x : Nat} (h : x < 65536) : 1 ≤ E x ∧ E x ≤ 65536 := by
  unfold E
  split <;> omega
theorem unit_mul {x y : Nat} (hx : 1 ≤ x ∧ x ≤ 65536) (hy : 1 ≤ y ∧ y ≤ 65536) : x * y % 65537 ≠ 0 := by
  intro z
  have e : (x * y) ^ 65536 % 65537 = 0 := by
    rw [Nat.pow_mod, z, Nat.zero_pow (by decide)]
  rw [Nat.mul_pow, Nat.mul_mod, fermat 65536 x hx.2 hx.1 hx.2, fermat 65536 y hy.2 hy.1 hy.2] at e
  exact absurd e (by decide)
theorem E_mul {x y : Nat} (hx : x < 65536) (hy : y < 65536) : E (Sz25.mul x y) = E x * E y % 65537 := by
  have hn := unit_mul (E_bd hx) (E_bd hy)
  show E (E x * E y % 65537 % 65536) = _
  have hl : E x * E y % 65537 < 65537 := Nat.mod_lt _ (by decide)
  generalize E x * E y % 65537 = r at hn hl
  unfold E
  split <;> omega
theorem E_pow {x : Nat} (hx : x < 65536) : ∀ n, E (powM x n) = E x ^ (2 ^ n - 1) % 65537
  | 0 => rfl
  | n + 1 => by
    have ih := E_pow hx n
    have hp := powM_lt x n
    have e : powM x (n + 1) = Sz25.mul (Sz25.mul (powM x n) (powM x n)) x := by
      show mlt (mlt (powM x n) (powM x n)) x = _
      rw [mlt_def, mlt_def]
    rw [e, E_mul (mul_lt _ _) hx, E_mul hp hp, ih]
    have h2 : 2 ^ (n + 1) - 1 = (2 ^ n - 1) + (2 ^ n - 1) + 1 := by
      have := Nat.two_pow_pos n
      rw [Nat.pow_succ]
      omega
    rw [h2, Nat.pow_succ, Nat.pow_add, ← Nat.mul_mod, Nat.mod_mul_mod]
theorem E_inj {x y : Nat} (hx : x < 65536) (hy : y < 65536) (h : E x = E y) : x = y := by
  unfold E at h
  split at h <;> split at h <;> omega
theorem mul_inv {x : Nat} (hx : x < 65536) : Sz25.mul x (powM x 16) = 1 := by
  show E x * E (powM x 16) % 65537 % 65536 = 1
  rw [E_pow hx 16, Nat.mul_mod_mod]
  have e : E x * E x ^ (2 ^ 16 - 1) = E x ^ 65536 := by
    rw [Nat.mul_comm, ← Nat.pow_succ]
  rw [e, fermat 65536 (E x) (E_bd hx).2 (E_bd hx).1 (E_bd hx).2]
theorem inv_unique {x b c : Nat} (hx : x < 65536) (hb : b < 65536) (hc : c < 65536) (h1 : Sz25.mul x b = 1) (h2 : Sz25.mul x c = 1) : b = c := by
  have k1 : E x * E b % 65537 = 1 := by
    rw [← E_mul hx hb, h1]; rfl
  have k2 : E x * E c % 65537 = 1 := by
    rw [← E_mul hx hc, h2]; rfl
  refine E_inj hb hc ?_
  have b1 := E_bd hb
  have b2 := E_bd hc
  have e1 : E b * (E x * E c) % 65537 = E b := by
    rw [← Nat.mul_mod_mod, k2, Nat.mul_one]
    exact Nat.mod_eq_of_lt (by omega)
  have e2 : E b * (E x * E c) % 65537 = E c := by
    rw [← Nat.mul_assoc, Nat.mul_comm (E b) (E x), ← Nat.mod_mul_mod, k1, Nat.one_mul]
    exact Nat.mod_eq_of_lt (by omega)
  rw [← e1, e2]
theorem inv_eq {x : Nat} (hx : x < 65536) : powM x 16 = Sz25.inv x := by
  unfold Sz25.inv
  have hp : powM x 16 < 65536 := powM_lt x 16
  have hm := mul_inv hx
  cases e : (List.range 65536).find? fun b => Sz25.mul x b == 1 with
  | none =>
    have := List.find?_eq_none.mp e (powM x 16) (List.mem_range.mpr hp)
    rw [hm] at this
    exact absurd rfl this
  | some b =>
    have h1 : Sz25.mul x b = 1 := beq_iff_eq.mp (List.find?_some (p := fun b => Sz25.mul x b == 1) e)
    have h2 := List.mem_range.mp (List.mem_of_find?_eq_some e)
    show powM x 16 = b
    exact inv_unique hx hp h2 hm h1
end Sx
end
section
set_option Elab.async false
set_option linter.all false
set_option maxHeartbeats 1000000
namespace Sx
open L2
open Sz25 (at_ M L GOLD left right squared)
theorem rc6F_eq (s : List Nat) : rc6F s = fun v i =>
    let t := squared (at_ v 1)
    let u := squared (at_ v 3)
    [at_ v 1, (left 32 (at_ v 2 ^^^ u) t + at_ s (2 * i + 3)) % M, at_ v 3, (left 32 (at_ v 0 ^^^ t) u + at_ s (2 * i + 2)) % M] := by
  funext v i
  unfold rc6F rc6RoundM
  simp only [lft_def, sqd_def]
theorem rc6_eq (s ws : List Nat) : rc6Out s ((List.range 20).foldl (rc6F s) (rc6In s ws)) = Sz25.rc6 s ws := by
  rw [rc6F_eq]
  unfold Sz25.rc6 rc6Out rc6In
  rfl
theorem rc6UnF_eq (s : List Nat) : rc6UnF s = fun v j =>
    let i := 19 - j
    let b := at_ v 0
    let d := at_ v 2
    let t := squared b
    let u := squared d
    [right 32 ((at_ v 3 + (M - at_ s (2 * i + 2))) % M) u ^^^ t, b, right 32 ((at_ v 1 + (M - at_ s (2 * i + 3))) % M) t ^^^ u, d] := by
  funext v j
  unfold rc6UnF rc6UnroundM
  simp only [rgt_def, sqd_def]
theorem rc6Back_eq (s ws : List Nat) : rc6UnOut s ((List.range 20).foldl (rc6UnF s) (rc6UnIn s ws)) = Sz25.rc6Back s ws := by
  rw [rc6UnF_eq]
  unfold Sz25.rc6Back rc6UnOut rc6UnIn
  rfl
theorem speckM_eq : speckM = fun v q => let x := ((right 64 (at_ v 1) 8 + at_ v 0) % L) ^^^ q; [left 64 (at_ v 0) 3 ^^^ x, x] := by
  funext v q
  unfold speckM
  simp only [lft_def, rgt_def]
theorem speck_eq (k ws : List Nat) : k.foldl speckM ws = Sz25.speck k ws := by
  rw [speckM_eq]
  unfold Sz25.speck
  rfl
theorem skUn_eq : skUn = fun v q => let y := right 64 (at_ v 0 ^^^ at_ v 1) 3; [y, left 64 (((at_ v 1 ^^^ q) + (L - y)) % L) 8] := by
  funext v q
  unfold skUn
  simp only [lft_def, rgt_def]
theorem speckBack_eq (k ws : List Nat) : k.reverse.foldl skUn ws = Sz25.speckBack k ws := by
  rw [skUn_eq]
  unfold Sz25.speckBack
  rfl
/-! ### two at a time -/
theorem fold_pairs (f : List Nat → Nat → List Nat) (g : List Nat → Nat → List Nat) (ks : List Nat) (x : List Nat) : ∀ (n : Nat), 2 * n ≤ ks.length → (∀ v i, i < n → g v i = f (f v (at_ ks (2 * i))) (at_ ks (2 * i + 1))) → (ks.take (2 * n)).foldl f x = (List.range n).foldl g x
  | 0, _, _ => rfl
  | n + 1, h, hg => by
    have e1 : ks.take (2 * (n + 1)) = ks.take (2 * n) ++ [at_ ks (2 * n)] ++ [at_ ks (2 * n + 1)] := by
      rw [show 2 * (n + 1) = 2 * n + 1 + 1 by omega, take_snoc (at_get (show 2 * n + 1 < ks.length by omega)), take_snoc (at_get (show 2 * n < ks.length by omega))]
    rw [e1, List.foldl_append, List.foldl_append, foldl_range_succ, fold_pairs f g ks x n (by omega) fun v i hi => hg v i (by omega), hg _ n (by omega)]
    rfl
theorem at_drop (l : List Nat) (k i : Nat) : at_ (l.drop k) i = at_ l (k + i) := by
  unfold Sz25.at_
  rw [List.getD_eq_getElem?_getD, List.getD_eq_getElem?_getD, List.getElem?_drop]
theorem r5_eq {s : List Nat} (h : s.length = 26) (ws : List Nat) : (s.drop 2).foldl r5Step (r5In s ws) = Sz25.rc5 s ws := by
  have e := fold_pairs r5Step (fun v i =>
    let a := (left 32 (at_ v 0 ^^^ at_ v 1) (at_ v 1) + at_ s (2 * i + 2)) % M
    [a, (left 32 (at_ v 1 ^^^ a) a + at_ s (2 * i + 3)) % M]) (s.drop 2) (r5In s ws) 12 (by rw [List.length_drop]; omega) (fun v i hi => by
      unfold r5Step
      rw [at_drop, at_drop]
      simp only [lft_def]
      rw [show 2 + 2 * i = 2 * i + 2 by omega, show 2 + (2 * i + 1) = 2 * i + 3 by omega]
      rfl)
  rw [List.take_of_length_le (by rw [List.length_drop]; omega)] at e
  rw [e]
  unfold Sz25.rc5 r5In
  rfl
end Sx
end
section
set_option Elab.async false
set_option linter.all false
set_option maxHeartbeats 1000000
namespace Sx
open L2
open Sz25 (at_ M L GOLD left right squared)
theorem at_rev {l : List Nat} {i : Nat} (h : i < l.length) : at_ l.reverse i = at_ l (l.length - 1 - i) := by
  unfold Sz25.at_
  rw [List.getD_eq_getElem?_getD, List.getD_eq_getElem?_getD, List.getElem?_reverse h]
theorem r5Back_eq {s : List Nat} (h : s.length = 26) (ws : List Nat) : r5Out s ((s.drop 2).reverse.foldl r5Un ws) = Sz25.rc5Back s ws := by
  have hl : (s.drop 2).length = 24 := by rw [List.length_drop]; omega
  have e := fold_pairs r5Un (fun v j =>
    let i := 11 - j
    let b := right 32 ((at_ v 1 + (M - at_ s (2 * i + 3))) % M) (at_ v 0) ^^^ at_ v 0
    [right 32 ((at_ v 0 + (M - at_ s (2 * i + 2))) % M) b ^^^ b, b]) (s.drop 2).reverse ws 12 (by rw [List.length_reverse]; omega) (fun v i hi => by
      unfold r5Un
      rw [at_rev (by omega), at_rev (by omega), hl, at_drop, at_drop]
      simp only [rgt_def]
      rw [show 2 + (24 - 1 - 2 * i) = 2 * (11 - i) + 3 by omega, show 2 + (24 - 1 - (2 * i + 1)) = 2 * (11 - i) + 2 by omega]
      rfl)
  rw [List.take_of_length_le (by rw [List.length_reverse]; omega)] at e
  rw [e]
  unfold Sz25.rc5Back r5Out
  rfl
theorem at_app_l {l m : List Nat} {i : Nat} (h : i < l.length) : at_ (l ++ m) i = at_ l i := by
  unfold Sz25.at_
  rw [List.getD_eq_getElem?_getD, List.getD_eq_getElem?_getD, List.getElem?_append_left h]
theorem at_app_r {l m : List Nat} (i : Nat) : at_ (l ++ m) (l.length + i) = at_ m i := by
  unfold Sz25.at_
  rw [List.getD_eq_getElem?_getD, List.getD_eq_getElem?_getD, List.getElem?_append_right (by omega), Nat.add_sub_cancel_left]
theorem at_pair0 (x y : Nat) : at_ ([x] ++ [y]) 0 = x := rfl
theorem at_pair1 (x y : Nat) : at_ ([x] ++ [y]) 1 = y := rfl
theorem at20 (x y : Nat) : at_ [x, y] 0 = x := rfl
theorem at21 (x y : Nat) : at_ [x, y] 1 = y := rfl
theorem at_sums (k : List Nat) : ∀ n i, i < n → at_ (sumsM k n) (2 * i) = (i * GOLD % M + at_ k (i * GOLD % M % 4)) % M ∧ at_ (sumsM k n) (2 * i + 1) = ((i + 1) * GOLD % M + at_ k ((i + 1) * GOLD % M / 2048 % 4)) % M
  | 0, _, h => by omega
  | n + 1, i, h => by
    have l := sumsM_len k n
    rw [sumsM_s, List.append_assoc]
    by_cases e : i < n
    · rw [at_app_l (by omega), at_app_l (by omega)]
      exact at_sums k n i e
    · have e : i = n := by omega
      subst e
      have a1 := at_app_r (l := sumsM k i) (m := [(i * GOLD % M + at_ k (i * GOLD % M % 4)) % M] ++ [((i + 1) * GOLD % M + at_ k ((i + 1) * GOLD % M / 2048 % 4)) % M]) 0
      have a2 := at_app_r (l := sumsM k i) (m := [(i * GOLD % M + at_ k (i * GOLD % M % 4)) % M] ++ [((i + 1) * GOLD % M + at_ k ((i + 1) * GOLD % M / 2048 % 4)) % M]) 1
      rw [l, at_pair0, Nat.add_zero] at a1
      rw [l, at_pair1] at a2
      exact ⟨a1, a2⟩
theorem xm_eq (v s k : Nat) : xm v ((s + k) % M) = Sz25.mixed v s k := by
  unfold xm Sz25.mixed
  rw [Nat.mul_comm 16 v]
theorem xtea_eq (k ws : List Nat) : (sumsM k 32).foldl xtStep ws = Sz25.xtea k ws := by
  have hl := sumsM_len k 32
  have e := fold_pairs xtStep (fun v i =>
    let a := (at_ v 0 + Sz25.mixed (at_ v 1) (i * GOLD % M) (at_ k (i * GOLD % M % 4))) % M
    let s := (i + 1) * GOLD % M
    [a, (at_ v 1 + Sz25.mixed a s (at_ k (s / 2048 % 4))) % M]) (sumsM k 32) ws 32 (by omega) (fun v i hi => by
      obtain ⟨h1, h2⟩ := at_sums k 32 i hi
      rw [h1, h2]
      unfold xtStep
      simp only [at20, at21, xm_eq])
  rw [List.take_of_length_le (by omega)] at e
  rw [e]
  unfold Sz25.xtea
  with_reducible rfl
theorem xteaBack_eq (k ws : List Nat) : (sumsM k 32).reverse.foldl xtUn ws = Sz25.xteaBack k ws := by
  have hl := sumsM_len k 32
  have e := fold_pairs xtUn (fun v j =>
    let i := 31 - j
    let s := (i + 1) * GOLD % M
    let b := (at_ v 1 + (M - Sz25.mixed (at_ v 0) s (at_ k (s / 2048 % 4)))) % M
    [(at_ v 0 + (M - Sz25.mixed b (i * GOLD % M) (at_ k (i * GOLD % M % 4)))) % M, b]) (sumsM k 32).reverse ws 32 (by rw [List.length_reverse]; omega) (fun v i hi => by
      obtain ⟨h1, h2⟩ := at_sums k 32 (31 - i) (by omega)
      rw [at_rev (by omega), at_rev (by omega), hl, show 2 * 32 - 1 - 2 * i = 2 * (31 - i) + 1 by omega, show 2 * 32 - 1 - (2 * i + 1) = 2 * (31 - i) by omega, h1, h2]
      unfold xtUn
      simp only [at20, at21, xm_eq])
  rw [List.take_of_length_le (by rw [List.length_reverse]; omega)] at e
  rw [e]
  unfold Sz25.xteaBack
  with_reducible rfl
end Sx
end
section
set_option Elab.async false
set_option linter.all false
set_option maxHeartbeats 1000000
namespace Sx
open L2
open Sz25 (at_ M L GOLD left right squared)
theorem fishRound_eq (v : List Nat) (d : Nat) : fishRound v d = Sz25.fishRound v d := by
  unfold fishRound fishM Sz25.fishRound
  simp only [lft_def]
theorem fishUnround_eq (v : List Nat) (d : Nat) : fishUnround v d = Sz25.fishUnround v d := by
  unfold fishUnround unfishM Sz25.fishUnround
  simp only [rgt_def]
theorem fish_eq {fk : Nat → List Nat} {k t : List Nat} (h : ∀ s, s < 19 → fk s = Sz25.fishKey k t s) (ws : List Nat) : Sz25.plus ((List.range 72).foldl (fishF fk) ws) (fk 18) = Sz25.fish k t ws := by
  have e : ∀ (n : Nat), n ≤ 72 → (List.range n).foldl (fishF fk) ws = (List.range n).foldl (fun v d => Sz25.fishRound (if d % 4 = 0 then Sz25.plus v (Sz25.fishKey k t (d / 4)) else v) d) ws := fun n => by
    induction n with
    | zero => intro _; rfl
    | succ n ih =>
      intro hn
      rw [foldl_range_succ, foldl_range_succ, ih (by omega)]
      unfold fishF
      rw [fishRound_eq, h (n / 4) (by omega)]
  rw [e 72 (Nat.le_refl _), h 18 (by decide)]
  unfold Sz25.fish
  with_reducible rfl
theorem fishBack_eq {fk : Nat → List Nat} {k t : List Nat} (h : ∀ s, s < 19 → fk s = Sz25.fishKey k t s) (ws : List Nat) : (List.range 72).foldl (fishUnF fk) (Sz25.less ws (fk 18)) = Sz25.fishBack k t ws := by
  have e : ∀ (n : Nat) (x : List Nat), n ≤ 72 → (List.range n).foldl (fishUnF fk) x = (List.range n).foldl (fun v j => let d := 71 - j; let w := Sz25.fishUnround v d; if d % 4 = 0 then Sz25.less w (Sz25.fishKey k t (d / 4)) else w) x := fun n x => by
    induction n with
    | zero => intro _; rfl
    | succ n ih =>
      intro hn
      rw [foldl_range_succ, foldl_range_succ, ih (by omega)]
      unfold fishUnF
      rw [fishUnround_eq, h ((71 - n) / 4) (by omega)]
  rw [e 72 _ (Nat.le_refl _), h 18 (by decide)]
  unfold Sz25.fishBack
  with_reducible rfl
theorem fkM_eq {k t : List Nat} (hk : k.length = 4) (ht : t.length = 2) (ak : AllLt 64 k) (s : Nat) : fkM (kxM k) (txM t) s = Sz25.fishKey k t s := by
  have ekx : kxM k = k ++ [k.foldl (fun a b => a ^^^ b) 0x1BD11BDAA9FC1A22] := by
    unfold kxM
    match k, hk with
    | [a, b, c, d], _ =>
      congr 2
      show a ^^^ b ^^^ c ^^^ d ^^^ 2004413935125273122 = 2004413935125273122 ^^^ a ^^^ b ^^^ c ^^^ d
      rw [Nat.xor_comm (a ^^^ b ^^^ c ^^^ d), ← Nat.xor_assoc, ← Nat.xor_assoc, ← Nat.xor_assoc]
  have etx : txM t = t ++ [at_ t 0 ^^^ at_ t 1] := by unfold txM; rfl
  have al : AllLt 64 (kxM k) := by
    unfold kxM
    refine ak.app (.cons ?_ .nil)
    exact Nat.xor_lt_two_pow (Nat.xor_lt_two_pow (Nat.xor_lt_two_pow (Nat.xor_lt_two_pow (at_lt ak) (at_lt ak)) (at_lt ak)) (at_lt ak)) (by decide)
  have h0 : ∀ i, (at_ (kxM k) i + 0) % L = at_ (kxM k) i := fun i => by
    rw [Nat.add_zero]
    exact Nat.mod_eq_of_lt (at_lt al)
  unfold fkM Sz25.fishKey Sz25.plus
  rw [← ekx, ← etx]
  show [(at_ (kxM k) (s % 5) + 0) % L, _, _, _] = _
  rw [h0]
end Sx
end
section
set_option Elab.async false
set_option linter.all false
set_option maxHeartbeats 1000000
namespace Sx
open L2
open Sz25 (at_ M L GOLD left right squared)
theorem left_mod (x k : Nat) : left 32 x (k % M) = left 32 x k := by
  unfold Sz25.left
  rw [Nat.mod_mod_of_dvd k (show 32 ∣ M from ⟨134217728, by decide⟩)]
theorem rcF_eq (t : Nat) (x : Q4) (n : Nat) : rcF t x n =
    (let a := left 32 ((at_ x.1 (n % t) + x.2.2.1 + x.2.2.2) % M) 3
     let b := left 32 ((at_ x.2.1 (n % 4) + a + x.2.2.2) % M) ((a + x.2.2.2) % M)
     (x.1.set (n % t) a, x.2.1.set (n % 4) b, a, b)) := by
  unfold rcF
  simp only [lft_def, left_mod]
theorem rcX_eq {t : Nat} {key : Sz25.Bytes} (h : (Sz25.words Sz25.little 4 key).length = 4) (ht : 4 ≤ t) : (rcX t (Sz25.words Sz25.little 4 key) (3 * t)).1 = Sz25.spread t key := by
  unfold Sz25.spread
  generalize Sz25.words Sz25.little 4 key = l at h
  have hm : max t l.length = t := by rw [h]; omega
  dsimp only
  rw [hm, h]
  unfold rcX rcS0
  have e : rcF t = fun x n => rcF t x n := rfl
  rw [e]
  simp only [rcF_eq]
theorem sk_eq {w : List Nat} (hw : w.length = 2) : ∀ n, (List.range n).foldl (fun (x : List Nat × Nat) i =>
    let a := x.1.getLastD 0
    let l := ((a + right 64 x.2 8) % L) ^^^ i
    (x.1 ++ [left 64 a 3 ^^^ l], l)) ([at_ w 0], at_ w 1) = (skK w n, at_ (skW w n) 1) ∧ (skK w n).getLastD 0 = at_ (skW w n) 0
  | 0 => by
    rw [skK_z, skW_z]
    exact ⟨rfl, rfl⟩
  | n + 1 => by
    obtain ⟨h1, h2⟩ := sk_eq hw n
    have e : skW w (n + 1) = [left 64 (at_ (skW w n) 0) 3 ^^^ (((at_ (skW w n) 0 + right 64 (at_ (skW w n) 1) 8) % L) ^^^ n), ((at_ (skW w n) 0 + right 64 (at_ (skW w n) 1) 8) % L) ^^^ n] := by
      rw [skW_s]
      unfold speckM
      simp only [lft_def, rgt_def]
      rw [Nat.add_comm (right 64 (at_ (skW w n) 1) 8)]
    rw [foldl_range_succ, h1, skK_s]
    refine ⟨?_, by rw [List.getLastD_concat]⟩
    simp only [h2]
    rw [e, at20, at21]
theorem speckKeys_eq {key : Sz25.Bytes} (h : (Sz25.words Sz25.little 8 key).length = 2) : skK (Sz25.words Sz25.little 8 key) 31 = Sz25.speckKeys key := by
  unfold Sz25.speckKeys
  exact (congrArg Prod.fst (sk_eq h 31).1).symm
end Sx
end
section
set_option Elab.async false
set_option linter.all false
set_option maxHeartbeats 1000000
namespace Sx
open L2
/-- bytes as naturals -/
def nb (b : Sz25.Bytes) : List Nat := b.map UInt8.toNat
theorem nb_len (b : Sz25.Bytes) : (nb b).length = b.length := List.length_map ..
theorem nb_lt (b : Sz25.Bytes) : AllLt 8 (nb b) := fun x hx => by
  obtain ⟨y, _, rfl⟩ := List.mem_map.mp hx
  exact y.toNat_lt
theorem nb_drop (b : Sz25.Bytes) (i : Nat) : (nb b).drop i = nb (b.drop i) := List.map_drop.symm
theorem nb_take (b : Sz25.Bytes) (i : Nat) : (nb b).take i = nb (b.take i) := List.map_take.symm
theorem nb_rev (b : Sz25.Bytes) : (nb b).reverse = nb b.reverse := List.map_reverse.symm
theorem big_eq (b : Sz25.Bytes) : numF 8 (nb b) = Sz25.big b := by
  unfold numF Sz25.big nb
  rw [List.foldl_map]
  congr 1
  funext v x
  rw [Nat.mul_comm v]
theorem little_eq (b : Sz25.Bytes) : numF 8 (nb b).reverse = Sz25.little b := by
  unfold numF Sz25.little nb
  rw [List.foldl_reverse, List.foldr_map]
  congr 1
  funext x v
  rw [Nat.mul_comm v, Nat.add_comm]
theorem words_big {n m : Nat} {b : Sz25.Bytes} (hn : 0 < n) (h : b.length = n * m) : wordsN n (nb b) m = Sz25.words Sz25.big n b := by
  unfold wordsN Sz25.words
  rw [h, Nat.mul_div_cancel_left _ hn]
  refine List.map_congr_left fun i _ => ?_
  rw [nb_drop, nb_take, big_eq]
theorem words_little {n m : Nat} {b : Sz25.Bytes} (hn : 0 < n) (h : b.length = n * m) : (wordsN n (nb b).reverse m).reverse = Sz25.words Sz25.little n b := by
  unfold wordsN Sz25.words
  rw [h, Nat.mul_div_cancel_left _ hn]
  apply List.ext_getElem?
  intro i
  by_cases hi : i < m
  · rw [List.getElem?_reverse (by rw [List.length_map, List.length_range]; exact hi), List.length_map, List.length_range, List.getElem?_map, List.getElem?_map, List.getElem?_range (by omega), List.getElem?_range hi]
    show some _ = some _
    congr 1
    dsimp only
    rw [← little_eq]
    congr 1
    have hle : n * i + n ≤ n * m := by
      rw [← Nat.mul_succ]
      exact Nat.mul_le_mul_left _ hi
    have e : n * (m - 1 - i) = n * m - n - n * i := by
      rw [Nat.mul_sub, Nat.mul_sub, Nat.mul_one]
    rw [List.drop_reverse, List.take_reverse, nb_len, h, e, ← nb_take, ← nb_drop, List.length_take, nb_len, h]
    rw [show n * m - (n * m - n - n * i) = n * i + n by omega, Nat.min_eq_left (by omega), show n * i + n - n = n * i by omega, List.drop_take, show n * i + n - n * i = n by omega]
  · rw [List.getElem?_eq_none (by rw [List.length_reverse, List.length_map, List.length_range]; omega), List.getElem?_eq_none (by rw [List.length_map, List.length_range]; omega)]
theorem bytes_big (n x : Nat) : rowF x n 8 = nb (Sz25.bigBytes n x) := by
  unfold rowF nb Sz25.bigBytes
  rw [List.map_map]
  refine List.map_congr_left fun i _ => ?_
  show _ = (UInt8.ofNat (x / 256 ^ (n - 1 - i) % 256)).toNat
  rw [UInt8.toNat_ofNat', Nat.pow_mul]
  show x / 256 ^ (n - 1 - i) % 256 = x / 256 ^ (n - 1 - i) % 256 % 256
  rw [Nat.mod_mod]
end Sx
end
section
set_option Elab.async false
set_option linter.all false
set_option maxHeartbeats 1000000
namespace Sx
open L2
theorem bytes_rev (n x : Nat) : (Sz25.bigBytes n x).reverse = Sz25.littleBytes n x := by
  unfold Sz25.bigBytes Sz25.littleBytes
  apply List.ext_getElem?
  intro i
  by_cases hi : i < n
  · rw [List.getElem?_reverse (by rw [List.length_map, List.length_range]; exact hi), List.length_map, List.length_range, List.getElem?_map, List.getElem?_map, List.getElem?_range (by omega), List.getElem?_range hi]
    show some _ = some _
    dsimp only
    rw [show n - 1 - (n - 1 - i) = i by omega]
  · rw [List.getElem?_eq_none (by rw [List.length_reverse, List.length_map, List.length_range]; omega), List.getElem?_eq_none (by rw [List.length_map, List.length_range]; omega)]
theorem reg_in_big {c n m : Nat} {b : Sz25.Bytes} (hc : c < 2) (hn : 0 < n) (h : b.length = n * m) : regM c (nb b) 8 (8 * n) = Sz25.words Sz25.big n b := by
  unfold regM
  rw [if_pos hc, hf_in hn (by rw [nb_len]; exact h) (nb_lt b), words_big hn h]
theorem reg_in_little {c n m : Nat} {b : Sz25.Bytes} (hc : ¬ c < 2) (hn : 0 < n) (h : b.length = n * m) : regM c (nb b) 8 (8 * n) = Sz25.words Sz25.little n b := by
  unfold regM
  rw [if_neg hc, hf_in hn (by rw [List.length_reverse, nb_len]; exact h) (nb_lt b).rev, words_little hn h]
theorem flat_big (n : Nat) (ws : List Nat) : (ws.flatMap fun x => rowF x n 8) = nb (ws.flatMap (Sz25.bigBytes n)) := by
  unfold nb
  rw [List.map_flatMap]
  congr 1
  funext x
  exact bytes_big n x
theorem reg_out_big {c n : Nat} {ws : List Nat} (hc : c < 2) (hn : 0 < n) (al : AllLt (8 * n) ws) : regM c ws (8 * n) 8 = nb (ws.flatMap (Sz25.bigBytes n)) := by
  unfold regM
  rw [if_pos hc, hf_out hn al, flat_big]
theorem reg_out_little {c n : Nat} {ws : List Nat} (hc : ¬ c < 2) (hn : 0 < n) (al : AllLt (8 * n) ws) : regM c ws (8 * n) 8 = nb (ws.flatMap (Sz25.littleBytes n)) := by
  unfold regM
  rw [if_neg hc, hf_out hn al.rev, flat_big, nb_rev, List.reverse_flatMap, List.reverse_reverse]
  congr 2
  funext x
  exact bytes_rev n x
end Sx
end
section
set_option Elab.async false
set_option linter.all false
set_option maxHeartbeats 1000000
namespace Sx
open L2
open Sz25 (at_)
theorem at40 (x y z w : Nat) : at_ [x, y, z, w] 0 = x := rfl
theorem at41 (x y z w : Nat) : at_ [x, y, z, w] 1 = y := rfl
theorem at42 (x y z w : Nat) : at_ [x, y, z, w] 2 = z := rfl
theorem at43 (x y z w : Nat) : at_ [x, y, z, w] 3 = w := rfl
theorem at_take {l : List Nat} {n j : Nat} (h : j < n) : at_ (l.take n) j = at_ l j := by
  unfold Sz25.at_
  rw [List.getD_eq_getElem?_getD, List.getD_eq_getElem?_getD, List.getElem?_take_of_lt h]
theorem ideaF_eq (ks v : List Nat) (i : Nat) : ideaF ks v i = Sz25.ideaRound (ks.drop (6 * i)) v := by
  unfold ideaF swapM mixedM keyedM Sz25.ideaRound
  simp only [mlt_def, at40, at41, at42, at43, at_take (show 0 < 6 by decide), at_take (show 1 < 6 by decide), at_take (show 2 < 6 by decide), at_take (show 3 < 6 by decide), at_take (show 4 < 6 by decide), at_take (show 5 < 6 by decide)]
theorem idea_eq (ks ws : List Nat) : ideaSealM ks ws = Sz25.idea ks ws := by
  have e : ideaF ks = fun w i => Sz25.ideaRound (ks.drop (6 * i)) w := by
    funext w i
    exact ideaF_eq ks w i
  unfold ideaSealM Sz25.idea
  rw [e]
  unfold keyedM swapM
  simp only [mlt_def, at40, at41, at42, at43, at_drop, Nat.add_zero, Nat.reduceAdd]
end Sx
end
section
set_option Elab.async false
set_option linter.all false
set_option maxHeartbeats 1000000
namespace Sx
open L2
open Sz25 (at_)
theorem at_set {l : List Nat} {i j n : Nat} (h : i < l.length) : at_ (l.set i n) j = if j = i then n else at_ l j := by
  unfold Sz25.at_
  rw [List.getD_eq_getElem?_getD, List.getD_eq_getElem?_getD]
  by_cases e : j = i
  · subst e
    rw [if_pos rfl, List.getElem?_set_self h] <;> rfl
  · rw [if_neg e, List.getElem?_set_ne (fun z => e z.symm)]
/-- the undoing keys, place by place -/
def undo1 (i k : Nat) : Nat := if i % 6 = 0 ∨ i % 6 = 3 then Sz25.inv k else if i % 6 = 1 ∨ i % 6 = 2 then (65536 - k) % 65536 else k
theorem undo_at {ks : List Nat} (al : AllLt 16 ks) : ∀ n, n ≤ ks.length → ∀ j, at_ (undoM ks n) j = if j < n then undo1 j (at_ ks j) else at_ ks j
  | 0, _, j => by
    rw [if_neg (by omega)]
    unfold undoM
    rfl
  | n + 1, h, j => by
    have ih := undo_at al n (by omega) j
    have l := undoM_len ks n
    have e : undoM ks (n + 1) = if n % 6 = 0 ∨ n % 6 = 3 then (undoM ks n).set n (powM (at_ ks n) 16) else if n % 6 = 1 ∨ n % 6 = 2 then (undoM ks n).set n ((65536 - at_ ks n) % 65536) else undoM ks n := by
      unfold undoM; exact foldl_range_succ _ _ _
    rw [e, inv_eq (at_lt al)]
    by_cases ej : j = n
    · subst ej
      rw [if_pos (show j < j + 1 by omega)]
      rw [if_neg (by omega)] at ih
      unfold undo1
      split
      · rw [at_set (by omega), if_pos rfl]
      · split
        · rw [at_set (by omega), if_pos rfl]
        · exact ih
    · have e2 : (if j < n + 1 then undo1 j (at_ ks j) else at_ ks j) = if j < n then undo1 j (at_ ks j) else at_ ks j := by
        by_cases hj : j < n
        · rw [if_pos hj, if_pos (by omega)]
        · rw [if_neg hj, if_neg (by omega)]
      rw [e2, ← ih]
      split
      · rw [at_set (by omega), if_neg ej]
      · split
        · rw [at_set (by omega), if_neg ej]
        · rfl
end Sx
end
section
set_option Elab.async false
set_option linter.all false
set_option maxHeartbeats 1000000
namespace Sx
open L2
open Sz25 (at_)
/-! ### turns of turns -/
theorem left_alt {w x k : Nat} (hk : k < w) : Sz25.left w x k = x * 2 ^ k % 2 ^ w + x * 2 ^ k / 2 ^ w := by
  unfold Sz25.left
  dsimp only
  rw [Nat.mod_eq_of_lt hk]
  congr 1
  have e : 2 ^ w = 2 ^ (w - k) * 2 ^ k := by rw [← Nat.pow_add]; congr 1; omega
  rw [e, Nat.mul_div_mul_right _ _ (Nat.two_pow_pos _)]
theorem left_k {w x k : Nat} : Sz25.left w x (k % w) = Sz25.left w x k := by
  unfold Sz25.left
  rw [Nat.mod_mod]
theorem left_cong {w x k N : Nat} (hk : k < w) (hN : 2 ^ w = N + 1) : Sz25.left w x k % N = x * 2 ^ k % N := by
  have d := Nat.div_add_mod (x * 2 ^ k) (2 ^ w)
  rw [left_alt hk, hN]
  rw [hN] at d
  generalize x * 2 ^ k / (N + 1) = q at d ⊢
  generalize x * 2 ^ k % (N + 1) = r at d ⊢
  rw [← d, Nat.add_mul, Nat.one_mul, Nat.add_assoc, Nat.mul_add_mod, Nat.add_comm]
theorem left_zero {w x k : Nat} (hk : k < w) (h : Sz25.left w x k = 0) : x = 0 := by
  have d := Nat.div_add_mod (x * 2 ^ k) (2 ^ w)
  rw [left_alt hk] at h
  obtain ⟨h1, h2⟩ := Nat.add_eq_zero_iff.mp h
  rw [h1, h2] at d
  have h3 : x * 2 ^ k = 0 := d.symm
  rcases Nat.mul_eq_zero.mp h3 with e | e
  · exact e
  · exact absurd e (Nat.ne_of_gt (Nat.two_pow_pos _))
theorem left_of_zero (w k : Nat) : Sz25.left w 0 k = 0 := by
  unfold Sz25.left
  simp
theorem left_left {w x a b : Nat} (hx : x < 2 ^ w) (hw : 0 < w) (hb : b < w) : Sz25.left w (Sz25.left w x a) b = Sz25.left w x (a + b) := by
  by_cases x0 : x = 0
  · subst x0
    rw [left_of_zero, left_of_zero, left_of_zero]
  · obtain ⟨N, hN⟩ : ∃ N, 2 ^ w = N + 1 := ⟨2 ^ w - 1, by have := Nat.two_pow_pos w; omega⟩
    have ha : a % w < w := Nat.mod_lt _ hw
    have hc : (a + b) % w < w := Nat.mod_lt _ hw
    rw [← left_k (k := a), ← left_k (k := a + b)]
    have y1 := left_lt (k := a % w) hx hw
    have z1 := left_lt (k := b) y1 hw
    have u1 := left_lt (k := (a + b) % w) hx hw
    have y2 := left_cong (x := x) ha hN
    have z2 := left_cong (x := Sz25.left w x (a % w)) hb hN
    have u2 := left_cong (x := x) hc hN
    have z3 : Sz25.left w (Sz25.left w x (a % w)) b ≠ 0 := fun z => x0 (left_zero ha (left_zero hb z))
    have u3 : Sz25.left w x ((a + b) % w) ≠ 0 := fun z => x0 (left_zero hc z)
    rw [Nat.mul_mod, y2, ← Nat.mul_mod, Nat.mul_assoc, ← Nat.pow_add] at z2
    have e : x * 2 ^ (a % w + b) % N = x * 2 ^ ((a + b) % w) % N := by
      have one : ∀ m, 2 ^ (w * m) % N = 1 % N := fun m => by
        rw [Nat.pow_mul, hN, Nat.pow_mod, Nat.add_mod_left, ← Nat.pow_mod, Nat.one_pow]
      have d := Nat.div_add_mod (a % w + b) w
      have m : (a % w + b) % w = (a + b) % w := Nat.mod_add_mod _ _ _
      rw [m] at d
      rw [← d, Nat.pow_add, Nat.mul_left_comm, Nat.mul_mod, one, ← Nat.mul_mod, Nat.one_mul]
    rw [e, ← u2] at z2
    generalize Sz25.left w (Sz25.left w x (a % w)) b = z at z1 z2 z3
    generalize Sz25.left w x ((a + b) % w) = u at u1 u2 u3 z2
    rw [hN] at z1 u1
    by_cases hz : z = N
    · by_cases hu : u = N
      · rw [hz, hu]
      · rw [hz, Nat.mod_self, Nat.mod_eq_of_lt (show u < N by omega)] at z2
        exact absurd z2.symm u3
    · by_cases hu : u = N
      · rw [hu, Nat.mod_self, Nat.mod_eq_of_lt (show z < N by omega)] at z2
        exact absurd z2 z3
      · rw [Nat.mod_eq_of_lt (show z < N by omega), Nat.mod_eq_of_lt (show u < N by omega)] at z2
        exact z2
/-! ### IDEA's keys -/
theorem eq_of_at {l m : List Nat} (h : l.length = m.length) (e : ∀ i, i < l.length → at_ l i = at_ m i) : l = m := by
  apply List.ext_getElem? 
  intro i
  by_cases hi : i < l.length
  · rw [at_get hi, at_get (by omega), e i hi]
  · rw [List.getElem?_eq_none (by omega), List.getElem?_eq_none (by omega)]
theorem at_map_range {n i : Nat} (f : Nat → Nat) (h : i < n) : at_ ((List.range n).map f) i = f i := by
  unfold Sz25.at_
  rw [List.getD_eq_getElem?_getD, List.getElem?_map, List.getElem?_range h] <;> rfl
theorem numI_eq {key : Sz25.Bytes} (h : key.length = 16) : ∀ i, numI (nb key) i = Sz25.left 128 (Sz25.big key) (25 * i)
  | 0 => by
    have l : Sz25.big key < 2 ^ 128 := by
      have l := numF_lt 8 16 (nb key) (by rw [nb_len]; exact h) (nb_lt key)
      rw [big_eq] at l
      exact l
    rw [numI_z, big_eq, left_alt (by decide), Nat.mul_zero, Nat.pow_zero, Nat.mul_one, Nat.mod_eq_of_lt l, Nat.div_eq_of_lt l]
    rfl
  | i + 1 => by
    have l : Sz25.big key < 2 ^ 128 := by
      have l := numF_lt 8 16 (nb key) (by rw [nb_len]; exact h) (nb_lt key)
      rw [big_eq] at l
      exact l
    rw [numI_s, numI_eq h i, lft_def, left_left l (by decide) (by decide), Nat.mul_succ 25 i]
theorem keysI_at (key : List Nat) : ∀ n j, j < 8 * n → at_ (keysI key n) j = numI key (j / 8) / 2 ^ (16 * (7 - j % 8)) % 2 ^ 16
  | 0, j, h => by omega
  | n + 1, j, h => by
    have l := keysI_len key n
    rw [keysI_s]
    by_cases e : j < 8 * n
    · rw [at_app_l (by omega)]
      exact keysI_at key n j e
    · have a := at_app_r (l := keysI key n) (m := rowF (numI key n) 8 16) (j - 8 * n)
      rw [l, show 8 * n + (j - 8 * n) = j by omega] at a
      rw [a]
      unfold rowF
      rw [at_map_range _ (by omega), show j / 8 = n by omega, show j - 8 * n = j % 8 by omega]
theorem ideaKeys_eq {key : Sz25.Bytes} (h : key.length = 16) : ideaKeysM (nb key) = Sz25.ideaKeys key := by
  have l : (ideaKeysM (nb key)).length = 52 := by
    unfold ideaKeysM
    rw [List.length_take, keysI_len]
    rfl
  unfold Sz25.ideaKeys
  refine eq_of_at (by rw [l, List.length_map, List.length_range]) fun i hi => ?_
  rw [l] at hi
  rw [at_map_range _ hi]
  unfold ideaKeysM
  rw [at_take hi, keysI_at _ 7 i (by omega), numI_eq h]
  dsimp only
  rw [show 16 * (7 - i % 8) = 112 - 16 * (i % 8) by omega]
end Sx
end
section
set_option Elab.async false
set_option linter.all false
set_option maxHeartbeats 1000000
namespace Sx
open L2
open Sz25 (at_)
/-! ### IDEA undone -/
section
variable {ks : List Nat}
theorem bk0 {r : Nat} (h : r ≤ 8) : at_ (Sz25.ideaBack ks) (6 * r) = Sz25.inv (at_ ks (48 - 6 * r)) := by
  unfold Sz25.ideaBack
  rw [at_map_range _ (by omega)]
  have h1 : 6 * r / 6 = r := by omega
  have h2 : 6 * r % 6 = 0 := by omega
  simp only [h1, h2]
theorem bk1 {r : Nat} (h : r ≤ 8) : at_ (Sz25.ideaBack ks) (6 * r + 1) = (65536 - at_ ks (if r = 0 ∨ r = 8 then 49 - 6 * r else 50 - 6 * r)) % 65536 := by
  unfold Sz25.ideaBack
  rw [at_map_range _ (by omega)]
  have h1 : (6 * r + 1) / 6 = r := by omega
  have h2 : (6 * r + 1) % 6 = 1 := by omega
  simp only [h1, h2]
theorem bk2 {r : Nat} (h : r ≤ 8) : at_ (Sz25.ideaBack ks) (6 * r + 2) = (65536 - at_ ks (if r = 0 ∨ r = 8 then 50 - 6 * r else 49 - 6 * r)) % 65536 := by
  unfold Sz25.ideaBack
  rw [at_map_range _ (by omega)]
  have h1 : (6 * r + 2) / 6 = r := by omega
  have h2 : (6 * r + 2) % 6 = 2 := by omega
  simp only [h1, h2]
theorem bk3 {r : Nat} (h : r ≤ 8) : at_ (Sz25.ideaBack ks) (6 * r + 3) = Sz25.inv (at_ ks (51 - 6 * r)) := by
  unfold Sz25.ideaBack
  rw [at_map_range _ (by omega)]
  have h1 : (6 * r + 3) / 6 = r := by omega
  have h2 : (6 * r + 3) % 6 = 3 := by omega
  simp only [h1, h2]
theorem bk4 {r : Nat} (h : r ≤ 7) : at_ (Sz25.ideaBack ks) (6 * r + 4) = at_ ks (46 - 6 * r) := by
  unfold Sz25.ideaBack
  rw [at_map_range _ (by omega)]
  have h1 : (6 * r + 4) / 6 = r := by omega
  have h2 : (6 * r + 4) % 6 = 4 := by omega
  simp only [h1, h2]
theorem bk5 {r : Nat} (h : r ≤ 7) : at_ (Sz25.ideaBack ks) (6 * r + 5) = at_ ks (47 - 6 * r) := by
  unfold Sz25.ideaBack
  rw [at_map_range _ (by omega)]
  have h1 : (6 * r + 5) / 6 = r := by omega
  have h2 : (6 * r + 5) % 6 = 5 := by omega
  simp only [h1, h2]
variable (al : AllLt 16 ks) (hl : ks.length = 52)
include al hl
theorem un_at {j : Nat} (h : j < 52) : at_ (undoM ks 52) j = undo1 j (at_ ks j) := by
  rw [undo_at al 52 (by omega), if_pos h]
theorem un0 {r : Nat} (h : r ≤ 8) : at_ (undoM ks 52) (6 * r) = Sz25.inv (at_ ks (6 * r)) := by
  rw [un_at al hl (by omega)]
  unfold undo1
  rw [if_pos (by omega)]
theorem un1 {r : Nat} (h : r ≤ 8) : at_ (undoM ks 52) (6 * r + 1) = (65536 - at_ ks (6 * r + 1)) % 65536 := by
  rw [un_at al hl (by omega)]
  unfold undo1
  rw [if_neg (by omega), if_pos (by omega)]
theorem un2 {r : Nat} (h : r ≤ 8) : at_ (undoM ks 52) (6 * r + 2) = (65536 - at_ ks (6 * r + 2)) % 65536 := by
  rw [un_at al hl (by omega)]
  unfold undo1
  rw [if_neg (by omega), if_pos (by omega)]
theorem un3 {r : Nat} (h : r ≤ 8) : at_ (undoM ks 52) (6 * r + 3) = Sz25.inv (at_ ks (6 * r + 3)) := by
  rw [un_at al hl (by omega)]
  unfold undo1
  rw [if_pos (by omega)]
theorem un4 {r : Nat} (h : r ≤ 7) : at_ (undoM ks 52) (6 * r + 4) = at_ ks (6 * r + 4) := by
  rw [un_at al hl (by omega)]
  unfold undo1
  rw [if_neg (by omega), if_neg (by omega)]
theorem un5 {r : Nat} (h : r ≤ 7) : at_ (undoM ks 52) (6 * r + 5) = at_ ks (6 * r + 5) := by
  rw [un_at al hl (by omega)]
  unfold undo1
  rw [if_neg (by omega), if_neg (by omega)]
end
/-- four keys the same; four with the middle ones changed about; the two of the mixing -/
structure K4 (k k' : List Nat) : Prop where
  e0 : at_ k 0 = at_ k' 0
  e1 : at_ k 1 = at_ k' 1
  e2 : at_ k 2 = at_ k' 2
  e3 : at_ k 3 = at_ k' 3
structure K4s (k k' : List Nat) : Prop where
  e0 : at_ k 0 = at_ k' 0
  e1 : at_ k 1 = at_ k' 2
  e2 : at_ k 2 = at_ k' 1
  e3 : at_ k 3 = at_ k' 3
theorem keyed_same {k k' : List Nat} (h : K4 k k') (v : List Nat) : keyedM v k = keyedM v k' := by
  unfold keyedM
  rw [h.e0, h.e1, h.e2, h.e3]
theorem keyed_swap {k k' : List Nat} (h : K4s k k') (v : List Nat) : keyedM (swapM v) k = swapM (keyedM v k') := by
  unfold keyedM swapM
  simp only [at40, at41, at42, at43]
  rw [h.e0, h.e1, h.e2, h.e3]
theorem mixed_same {k k' : List Nat} (h4 : at_ k 4 = at_ k' 4) (h5 : at_ k 5 = at_ k' 5) (v : List Nat) : mixedM v k = mixedM v k' := by
  unfold mixedM
  rw [h4, h5]
theorem swap_swap_k (v k : List Nat) : swapM (swapM (keyedM v k)) = keyedM v k := by
  unfold keyedM swapM
  simp only [at40, at41, at42, at43]
theorem swap_swap_m (v k : List Nat) : swapM (swapM (mixedM v k)) = mixedM v k := by
  unfold mixedM swapM
  simp only [at40, at41, at42, at43]
theorem cut_at {l : List Nat} {i j : Nat} (h : j < 6) : at_ ((l.drop i).take 6) j = at_ l (i + j) := by
  rw [at_take h, at_drop]
section
variable {ks : List Nat} (al : AllLt 16 ks) (hl : ks.length = 52)
include al hl
theorem mix_keys (v : List Nat) {r : Nat} (h : r ≤ 7) : mixedM v (((Sz25.ideaBack ks).drop (6 * r)).take 6) = mixedM v (((undoM ks 52).drop (42 - 6 * r)).take 6) := by
  have e : 42 - 6 * r = 6 * (7 - r) := by omega
  refine mixed_same ?_ ?_ v
  · rw [cut_at (by decide), cut_at (by decide), bk4 h, e, un4 al hl (by omega)]
    congr 1
    omega
  · rw [cut_at (by decide), cut_at (by decide), bk5 h, e, un5 al hl (by omega)]
    congr 1
    omega
theorem first_keys : K4 (((Sz25.ideaBack ks).drop (6 * 0)).take 6) ((undoM ks 52).drop 48) := by
  refine ⟨?_, ?_, ?_, ?_⟩
  · rw [cut_at (by decide), at_drop, un0 al hl (r := 8) (by decide), bk0 (r := 0) (by decide)]
  · rw [cut_at (by decide), at_drop, un1 al hl (r := 8) (by decide), bk1 (r := 0) (by decide)]
    rfl
  · rw [cut_at (by decide), at_drop, un2 al hl (r := 8) (by decide), bk2 (r := 0) (by decide)]
    rfl
  · rw [cut_at (by decide), at_drop, un3 al hl (r := 8) (by decide), bk3 (r := 0) (by decide)]
theorem last_keys : K4 ((Sz25.ideaBack ks).drop 48) (((undoM ks 52).drop (42 - 6 * 7)).take 6) := by
  refine ⟨?_, ?_, ?_, ?_⟩
  · rw [cut_at (by decide), at_drop, un0 al hl (r := 0) (by decide), bk0 (r := 8) (by decide)]
  · rw [cut_at (by decide), at_drop, un1 al hl (r := 0) (by decide), bk1 (r := 8) (by decide)]
    rfl
  · rw [cut_at (by decide), at_drop, un2 al hl (r := 0) (by decide), bk2 (r := 8) (by decide)]
    rfl
  · rw [cut_at (by decide), at_drop, un3 al hl (r := 0) (by decide), bk3 (r := 8) (by decide)]
theorem mid_keys {j : Nat} (h : j < 7) : K4s (((Sz25.ideaBack ks).drop (6 * (j + 1))).take 6) (((undoM ks 52).drop (42 - 6 * j)).take 6) := by
  have e : 42 - 6 * j = 6 * (7 - j) := by omega
  rw [e]
  refine ⟨?_, ?_, ?_, ?_⟩
  · have u := un0 al hl (r := 7 - j) (by omega)
    have b := bk0 (ks := ks) (r := j + 1) (by omega)
    rw [cut_at (by decide), cut_at (by decide), Nat.add_zero (6 * (7 - j)), u, Nat.add_zero (6 * (j + 1)), b]
    congr 2
    omega
  · rw [cut_at (by decide), cut_at (by decide), bk1 (by omega), un2 al hl (by omega), if_neg (by omega)]
    congr 3
    omega
  · rw [cut_at (by decide), cut_at (by decide), bk2 (by omega), un1 al hl (by omega), if_neg (by omega)]
    congr 3
    omega
  · rw [cut_at (by decide), cut_at (by decide), bk3 (by omega), un3 al hl (by omega)]
    congr 2
    omega
theorem un_fold (ws : List Nat) : ∀ j, j ≤ 7 → (List.range j).foldl (ideaUnF (undoM ks 52)) (swapM (keyedM ws ((undoM ks 52).drop 48))) = swapM (keyedM ((List.range j).foldl (ideaF (Sz25.ideaBack ks)) ws) (((Sz25.ideaBack ks).drop (6 * j)).take 6))
  | 0, _ => by
    show swapM _ = swapM (keyedM ws _)
    rw [keyed_same (first_keys al hl)]
  | j + 1, h => by
    rw [foldl_range_succ, un_fold ws j (by omega), foldl_range_succ]
    generalize (List.range j).foldl (ideaF (Sz25.ideaBack ks)) ws = s
    unfold ideaUnF ideaF
    rw [swap_swap_k, keyed_swap (mid_keys al hl (by omega)), swap_swap_k, mix_keys al hl _ (by omega)]
theorem ideaUn_eq (ws : List Nat) : ideaUnM (undoM ks 52) ws = Sz25.idea (Sz25.ideaBack ks) ws := by
  rw [← idea_eq]
  unfold ideaUnM ideaSealM
  have e := foldl_range_succ (ideaF (Sz25.ideaBack ks)) ws 7
  rw [foldl_range_succ, un_fold al hl ws 7 (by decide), e]
  generalize (List.range 7).foldl (ideaF (Sz25.ideaBack ks)) ws = s
  unfold ideaUnF ideaF
  rw [swap_swap_k, swap_swap_m, keyed_same (last_keys al hl), mix_keys al hl _ (by decide)]
end
end Sx
end
section
set_option Elab.async false
set_option linter.all false
set_option maxHeartbeats 1000000
namespace Sx
open L2
open Sz25 (at_)
/-! ### a block sealed, unsealed -/
theorem blk_eq {c : Nat} (h : c < 6) : blk c = Sz25.block c := by
  match c, h with
  | 0, _ => rfl
  | 1, _ => rfl
  | 2, _ => rfl
  | 3, _ => rfl
  | 4, _ => rfl
  | 5, _ => rfl
theorem hf_big {n m : Nat} {b : Sz25.Bytes} (hn : 0 < n) (h : b.length = n * m) : hfM (nb b) 8 (8 * n) = Sz25.words Sz25.big n b := reg_in_big (c := 0) (by decide) hn h
theorem hf_little {n m : Nat} {b : Sz25.Bytes} (hn : 0 < n) (h : b.length = n * m) : (hfM (nb b).reverse 8 (8 * n)).reverse = Sz25.words Sz25.little n b := reg_in_little (c := 2) (by decide) hn h
theorem words_len {f : Sz25.Bytes → Nat} {n m : Nat} {b : Sz25.Bytes} (hn : 0 < n) (h : b.length = n * m) : (Sz25.words f n b).length = m := by
  unfold Sz25.words
  rw [List.length_map, List.length_range, h, Nat.mul_div_cancel_left _ hn]
theorem words_lt {n m : Nat} {b : Sz25.Bytes} (hn : 0 < n) (h : b.length = n * m) : AllLt (8 * n) (Sz25.words Sz25.little n b) := by
  rw [← hf_little hn h]
  unfold hfM
  exact (rowF_lt _ _ _).rev
section
variable {key b : Sz25.Bytes}
theorem spread_eq {t : Nat} (hk : key.length = 16) (ht : 4 ≤ t) : (rcX t (hfM (nb key).reverse 8 32).reverse (3 * t)).1 = Sz25.spread t key := by
  have e := hf_little (n := 4) (m := 4) (by decide) hk
  rw [show (32 : Nat) = 8 * 4 from rfl, e]
  exact rcX_eq (words_len (by decide) hk) ht
theorem fish_keys (hk : key.length = 48) (s : Nat) : fkM (fishKw (nb key)) (fishTw (nb key)) s = Sz25.fishKey (Sz25.words Sz25.little 8 (key.take 32)) (Sz25.words Sz25.little 8 (key.drop 32)) s := by
  have l1 : (key.take 32).length = 8 * 4 := by rw [List.length_take, hk] <;> rfl
  have l2 : (key.drop 32).length = 8 * 2 := by rw [List.length_drop, hk]
  have e1 := hf_little (by decide) l1
  have e2 := hf_little (by decide) l2
  unfold fishKw fishTw
  rw [nb_take, nb_drop, show (64 : Nat) = 8 * 8 from rfl, e1, e2]
  exact fkM_eq (words_len (by decide) l1) (words_len (by decide) l2) (words_lt (by decide) l1) s

theorem w0 (key ws : List Nat) : workM 0 key ws = ideaSealM (ideaKeysM key) ws := by simp only [workM]
theorem close_0 (key b : Sz25.Bytes) : Sz25.close_ 0 key b = (Sz25.idea (Sz25.ideaKeys key) (Sz25.words Sz25.big 2 b)).flatMap (Sz25.bigBytes 2) := by simp only [Sz25.close_]
theorem w_eq0 (hk : key.length = klen 0) (hb : b.length = blk 0) (w : AllLt (wbit 0) (workM 0 (nb key) (regM 0 (nb b) 8 (wbit 0)))) : regM 0 (workM 0 (nb key) (regM 0 (nb b) 8 (wbit 0))) (wbit 0) 8 = nb (Sz25.close_ 0 key b) := by
  have hk : key.length = 16 := hk
  have hb : b.length = 2 * 4 := hb
  rw [show wbit 0 = 8 * 2 from rfl] at w ⊢
  rw [reg_out_big (by decide) (by decide) w, reg_in_big (by decide) (by decide) hb, w0, close_0]
  rw [ideaKeys_eq hk, idea_eq]
theorem w1 (key ws : List Nat) : workM 1 key ws = (sumsM (hfM key 8 32) 32).foldl xtStep ws := by simp only [workM]
theorem close_1 (key b : Sz25.Bytes) : Sz25.close_ 1 key b = (Sz25.xtea (Sz25.words Sz25.big 4 key) (Sz25.words Sz25.big 4 b)).flatMap (Sz25.bigBytes 4) := by simp only [Sz25.close_]
theorem w_eq1 (hk : key.length = klen 1) (hb : b.length = blk 1) (w : AllLt (wbit 1) (workM 1 (nb key) (regM 1 (nb b) 8 (wbit 1)))) : regM 1 (workM 1 (nb key) (regM 1 (nb b) 8 (wbit 1))) (wbit 1) 8 = nb (Sz25.close_ 1 key b) := by
  have hk : key.length = 16 := hk
  have hb : b.length = 4 * 2 := hb
  rw [show wbit 1 = 8 * 4 from rfl] at w ⊢
  rw [reg_out_big (by decide) (by decide) w, reg_in_big (by decide) (by decide) hb, w1, close_1]
  have e : hfM (nb key) 8 32 = Sz25.words Sz25.big 4 key := hf_big (n := 4) (m := 4) (by decide) hk
  rw [e, xtea_eq]
theorem w2 (key ws : List Nat) : workM 2 key ws = ((rcX 26 (hfM key.reverse 8 32).reverse (3 * 26)).1.drop 2).foldl r5Step (r5In (rcX 26 (hfM key.reverse 8 32).reverse (3 * 26)).1 ws) := by simp only [workM]
theorem close_2 (key b : Sz25.Bytes) : Sz25.close_ 2 key b = (Sz25.rc5 (Sz25.spread 26 key) (Sz25.words Sz25.little 4 b)).flatMap (Sz25.littleBytes 4) := by simp only [Sz25.close_]
theorem w_eq2 (hk : key.length = klen 2) (hb : b.length = blk 2) (w : AllLt (wbit 2) (workM 2 (nb key) (regM 2 (nb b) 8 (wbit 2)))) : regM 2 (workM 2 (nb key) (regM 2 (nb b) 8 (wbit 2))) (wbit 2) 8 = nb (Sz25.close_ 2 key b) := by
  have hk : key.length = 16 := hk
  have hb : b.length = 4 * 2 := hb
  rw [show wbit 2 = 8 * 4 from rfl] at w ⊢
  rw [reg_out_little (by decide) (by decide) w, reg_in_little (by decide) (by decide) hb, w2, close_2]
  have l := (rc_facts (t := 26) (key := nb key) (by rw [nb_len]; exact hk)).1
  rw [r5_eq l, spread_eq hk (by decide)]
theorem w3 (key ws : List Nat) : workM 3 key ws = rc6Out (rcX 44 (hfM key.reverse 8 32).reverse (3 * 44)).1 ((List.range 20).foldl (rc6F (rcX 44 (hfM key.reverse 8 32).reverse (3 * 44)).1) (rc6In (rcX 44 (hfM key.reverse 8 32).reverse (3 * 44)).1 ws)) := by simp only [workM]
theorem close_3 (key b : Sz25.Bytes) : Sz25.close_ 3 key b = (Sz25.rc6 (Sz25.spread 44 key) (Sz25.words Sz25.little 4 b)).flatMap (Sz25.littleBytes 4) := by simp only [Sz25.close_]
theorem w_eq3 (hk : key.length = klen 3) (hb : b.length = blk 3) (w : AllLt (wbit 3) (workM 3 (nb key) (regM 3 (nb b) 8 (wbit 3)))) : regM 3 (workM 3 (nb key) (regM 3 (nb b) 8 (wbit 3))) (wbit 3) 8 = nb (Sz25.close_ 3 key b) := by
  have hk : key.length = 16 := hk
  have hb : b.length = 4 * 4 := hb
  rw [show wbit 3 = 8 * 4 from rfl] at w ⊢
  rw [reg_out_little (by decide) (by decide) w, reg_in_little (by decide) (by decide) hb, w3, close_3]
  rw [spread_eq hk (by decide), rc6_eq]
theorem w4 (key ws : List Nat) : workM 4 key ws = (skK (hfM key.reverse 8 64).reverse 31).foldl speckM ws := by simp only [workM]
theorem close_4 (key b : Sz25.Bytes) : Sz25.close_ 4 key b = (Sz25.speck (Sz25.speckKeys key) (Sz25.words Sz25.little 8 b)).flatMap (Sz25.littleBytes 8) := by simp only [Sz25.close_]
theorem w_eq4 (hk : key.length = klen 4) (hb : b.length = blk 4) (w : AllLt (wbit 4) (workM 4 (nb key) (regM 4 (nb b) 8 (wbit 4)))) : regM 4 (workM 4 (nb key) (regM 4 (nb b) 8 (wbit 4))) (wbit 4) 8 = nb (Sz25.close_ 4 key b) := by
  have hk : key.length = 16 := hk
  have hb : b.length = 8 * 2 := hb
  rw [show wbit 4 = 8 * 8 from rfl] at w ⊢
  rw [reg_out_little (by decide) (by decide) w, reg_in_little (by decide) (by decide) hb, w4, close_4]
  have e : (hfM (nb key).reverse 8 64).reverse = Sz25.words Sz25.little 8 key := hf_little (n := 8) (m := 2) (by decide) hk
  rw [e, speckKeys_eq (words_len (m := 2) (by decide) hk), speck_eq]
theorem w5 (key ws : List Nat) : workM 5 key ws = Sz25.plus ((List.range 72).foldl (fishF (fkM (fishKw key) (fishTw key))) ws) (fkM (fishKw key) (fishTw key) 18) := by simp only [workM]
theorem close_5 (key b : Sz25.Bytes) : Sz25.close_ 5 key b = (Sz25.fish (Sz25.words Sz25.little 8 (key.take 32)) (Sz25.words Sz25.little 8 (key.drop 32)) (Sz25.words Sz25.little 8 b)).flatMap (Sz25.littleBytes 8) := by simp only [Sz25.close_]
theorem w_eq5 (hk : key.length = klen 5) (hb : b.length = blk 5) (w : AllLt (wbit 5) (workM 5 (nb key) (regM 5 (nb b) 8 (wbit 5)))) : regM 5 (workM 5 (nb key) (regM 5 (nb b) 8 (wbit 5))) (wbit 5) 8 = nb (Sz25.close_ 5 key b) := by
  have hk : key.length = 48 := hk
  have hb : b.length = 8 * 4 := hb
  rw [show wbit 5 = 8 * 8 from rfl] at w ⊢
  rw [reg_out_little (by decide) (by decide) w, reg_in_little (by decide) (by decide) hb, w5, close_5]
  rw [fish_eq (fun s _ => fish_keys hk s)]
theorem seal_eq {c : Nat} (hc : c < 6) (hk : key.length = klen c) (hb : b.length = blk c) : sealM c (nb key) (nb b) = nb (Sz25.close_ c key b) := by
  have kn : (nb key).length = klen c := by rw [nb_len]; exact hk
  have z := sizes c hc
  have w := (work_ok hc kn (regM c (nb b) 8 (wbit c)) (by rw [regM_len, nb_len, hb]; exact z.1) (regM_lt _ _ _ _)).2
  unfold sealM
  match c, hc, hk, hb, w with
  | 0, _, hk, hb, w => exact w_eq0 hk hb w
  | 1, _, hk, hb, w => exact w_eq1 hk hb w
  | 2, _, hk, hb, w => exact w_eq2 hk hb w
  | 3, _, hk, hb, w => exact w_eq3 hk hb w
  | 4, _, hk, hb, w => exact w_eq4 hk hb w
  | 5, _, hk, hb, w => exact w_eq5 hk hb w
theorem u0 (key ws : List Nat) : unworkM 0 key ws = ideaUnM (undoM (ideaKeysM key) 52) ws := by simp only [unworkM]
theorem open_0 (key b : Sz25.Bytes) : Sz25.open_ 0 key b = (Sz25.idea (Sz25.ideaBack (Sz25.ideaKeys key)) (Sz25.words Sz25.big 2 b)).flatMap (Sz25.bigBytes 2) := by simp only [Sz25.open_]
theorem u_eq0 (hk : key.length = klen 0) (hb : b.length = blk 0) (w : AllLt (wbit 0) (unworkM 0 (nb key) (regM 0 (nb b) 8 (wbit 0)))) : regM 0 (unworkM 0 (nb key) (regM 0 (nb b) 8 (wbit 0))) (wbit 0) 8 = nb (Sz25.open_ 0 key b) := by
  have hk : key.length = 16 := hk
  have hb : b.length = 2 * 4 := hb
  rw [show wbit 0 = 8 * 2 from rfl] at w ⊢
  rw [reg_out_big (by decide) (by decide) w, reg_in_big (by decide) (by decide) hb, u0, open_0]
  have al : AllLt 16 (ideaKeysM (nb key)) := by
    unfold ideaKeysM
    exact (keysI_lt _ _).take
  have l : (ideaKeysM (nb key)).length = 52 := by
    unfold ideaKeysM
    rw [List.length_take, keysI_len] <;> rfl
  rw [ideaUn_eq al l, ideaKeys_eq hk]
theorem u1 (key ws : List Nat) : unworkM 1 key ws = (sumsM (hfM key 8 32) 32).reverse.foldl xtUn ws := by simp only [unworkM]
theorem open_1 (key b : Sz25.Bytes) : Sz25.open_ 1 key b = (Sz25.xteaBack (Sz25.words Sz25.big 4 key) (Sz25.words Sz25.big 4 b)).flatMap (Sz25.bigBytes 4) := by simp only [Sz25.open_]
theorem u_eq1 (hk : key.length = klen 1) (hb : b.length = blk 1) (w : AllLt (wbit 1) (unworkM 1 (nb key) (regM 1 (nb b) 8 (wbit 1)))) : regM 1 (unworkM 1 (nb key) (regM 1 (nb b) 8 (wbit 1))) (wbit 1) 8 = nb (Sz25.open_ 1 key b) := by
  have hk : key.length = 16 := hk
  have hb : b.length = 4 * 2 := hb
  rw [show wbit 1 = 8 * 4 from rfl] at w ⊢
  rw [reg_out_big (by decide) (by decide) w, reg_in_big (by decide) (by decide) hb, u1, open_1]
  have e : hfM (nb key) 8 32 = Sz25.words Sz25.big 4 key := hf_big (n := 4) (m := 4) (by decide) hk
  rw [e, xteaBack_eq]
theorem u2 (key ws : List Nat) : unworkM 2 key ws = r5Out (rcX 26 (hfM key.reverse 8 32).reverse (3 * 26)).1 (((rcX 26 (hfM key.reverse 8 32).reverse (3 * 26)).1.drop 2).reverse.foldl r5Un ws) := by simp only [unworkM]
theorem open_2 (key b : Sz25.Bytes) : Sz25.open_ 2 key b = (Sz25.rc5Back (Sz25.spread 26 key) (Sz25.words Sz25.little 4 b)).flatMap (Sz25.littleBytes 4) := by simp only [Sz25.open_]
theorem u_eq2 (hk : key.length = klen 2) (hb : b.length = blk 2) (w : AllLt (wbit 2) (unworkM 2 (nb key) (regM 2 (nb b) 8 (wbit 2)))) : regM 2 (unworkM 2 (nb key) (regM 2 (nb b) 8 (wbit 2))) (wbit 2) 8 = nb (Sz25.open_ 2 key b) := by
  have hk : key.length = 16 := hk
  have hb : b.length = 4 * 2 := hb
  rw [show wbit 2 = 8 * 4 from rfl] at w ⊢
  rw [reg_out_little (by decide) (by decide) w, reg_in_little (by decide) (by decide) hb, u2, open_2]
  have l := (rc_facts (t := 26) (key := nb key) (by rw [nb_len]; exact hk)).1
  rw [r5Back_eq l, spread_eq hk (by decide)]
theorem u3 (key ws : List Nat) : unworkM 3 key ws = rc6UnOut (rcX 44 (hfM key.reverse 8 32).reverse (3 * 44)).1 ((List.range 20).foldl (rc6UnF (rcX 44 (hfM key.reverse 8 32).reverse (3 * 44)).1) (rc6UnIn (rcX 44 (hfM key.reverse 8 32).reverse (3 * 44)).1 ws)) := by simp only [unworkM]
theorem open_3 (key b : Sz25.Bytes) : Sz25.open_ 3 key b = (Sz25.rc6Back (Sz25.spread 44 key) (Sz25.words Sz25.little 4 b)).flatMap (Sz25.littleBytes 4) := by simp only [Sz25.open_]
theorem u_eq3 (hk : key.length = klen 3) (hb : b.length = blk 3) (w : AllLt (wbit 3) (unworkM 3 (nb key) (regM 3 (nb b) 8 (wbit 3)))) : regM 3 (unworkM 3 (nb key) (regM 3 (nb b) 8 (wbit 3))) (wbit 3) 8 = nb (Sz25.open_ 3 key b) := by
  have hk : key.length = 16 := hk
  have hb : b.length = 4 * 4 := hb
  rw [show wbit 3 = 8 * 4 from rfl] at w ⊢
  rw [reg_out_little (by decide) (by decide) w, reg_in_little (by decide) (by decide) hb, u3, open_3]
  rw [spread_eq hk (by decide), rc6Back_eq]
theorem u4 (key ws : List Nat) : unworkM 4 key ws = (skK (hfM key.reverse 8 64).reverse 31).reverse.foldl skUn ws := by simp only [unworkM]
theorem open_4 (key b : Sz25.Bytes) : Sz25.open_ 4 key b = (Sz25.speckBack (Sz25.speckKeys key) (Sz25.words Sz25.little 8 b)).flatMap (Sz25.littleBytes 8) := by simp only [Sz25.open_]
theorem u_eq4 (hk : key.length = klen 4) (hb : b.length = blk 4) (w : AllLt (wbit 4) (unworkM 4 (nb key) (regM 4 (nb b) 8 (wbit 4)))) : regM 4 (unworkM 4 (nb key) (regM 4 (nb b) 8 (wbit 4))) (wbit 4) 8 = nb (Sz25.open_ 4 key b) := by
  have hk : key.length = 16 := hk
  have hb : b.length = 8 * 2 := hb
  rw [show wbit 4 = 8 * 8 from rfl] at w ⊢
  rw [reg_out_little (by decide) (by decide) w, reg_in_little (by decide) (by decide) hb, u4, open_4]
  have e : (hfM (nb key).reverse 8 64).reverse = Sz25.words Sz25.little 8 key := hf_little (n := 8) (m := 2) (by decide) hk
  rw [e, speckKeys_eq (words_len (m := 2) (by decide) hk), speckBack_eq]
theorem u5 (key ws : List Nat) : unworkM 5 key ws = (List.range 72).foldl (fishUnF (fkM (fishKw key) (fishTw key))) (Sz25.less ws (fkM (fishKw key) (fishTw key) 18)) := by simp only [unworkM]
theorem open_5 (key b : Sz25.Bytes) : Sz25.open_ 5 key b = (Sz25.fishBack (Sz25.words Sz25.little 8 (key.take 32)) (Sz25.words Sz25.little 8 (key.drop 32)) (Sz25.words Sz25.little 8 b)).flatMap (Sz25.littleBytes 8) := by simp only [Sz25.open_]
theorem u_eq5 (hk : key.length = klen 5) (hb : b.length = blk 5) (w : AllLt (wbit 5) (unworkM 5 (nb key) (regM 5 (nb b) 8 (wbit 5)))) : regM 5 (unworkM 5 (nb key) (regM 5 (nb b) 8 (wbit 5))) (wbit 5) 8 = nb (Sz25.open_ 5 key b) := by
  have hk : key.length = 48 := hk
  have hb : b.length = 8 * 4 := hb
  rw [show wbit 5 = 8 * 8 from rfl] at w ⊢
  rw [reg_out_little (by decide) (by decide) w, reg_in_little (by decide) (by decide) hb, u5, open_5]
  rw [fishBack_eq (fun s _ => fish_keys hk s)]
theorem unseal_eq {c : Nat} (hc : c < 6) (hk : key.length = klen c) (hb : b.length = blk c) : unsealM c (nb key) (nb b) = nb (Sz25.open_ c key b) := by
  have kn : (nb key).length = klen c := by rw [nb_len]; exact hk
  have z := sizes c hc
  have w := (unwork_ok hc kn (regM c (nb b) 8 (wbit c)) (by rw [regM_len, nb_len, hb]; exact z.1) (regM_lt _ _ _ _)).2
  unfold unsealM
  match c, hc, hk, hb, w with
  | 0, _, hk, hb, w => exact u_eq0 hk hb w
  | 1, _, hk, hb, w => exact u_eq1 hk hb w
  | 2, _, hk, hb, w => exact u_eq2 hk hb w
  | 3, _, hk, hb, w => exact u_eq3 hk hb w
  | 4, _, hk, hb, w => exact u_eq4 hk hb w
  | 5, _, hk, hb, w => exact u_eq5 hk hb w
end
end Sx
end
section
set_option Elab.async false
set_option linter.all false
set_option maxHeartbeats 1000000
namespace Sx
open L2
open Sz25 (at_)
/-! ### blocks in a row -/
theorem mix_eq (x y : Sz25.Bytes) : xorM (nb x) (nb y) = nb (Sz25.mix x y) := by
  unfold xorM zipM nb Sz25.mix
  rw [List.zip_map, List.map_map, List.map_map]
  refine List.map_congr_left fun p _ => ?_
  show p.1.toNat ^^^ p.2.toNat = (p.1 ^^^ p.2).toNat
  rw [UInt8.toNat_xor]
theorem mix_len (x y : Sz25.Bytes) : (Sz25.mix x y).length = min x.length y.length := by
  unfold Sz25.mix
  rw [List.length_map, List.length_zip]
theorem bigBytes_mod (n x : Nat) : Sz25.bigBytes n (x % 256 ^ n) = Sz25.bigBytes n x := by
  unfold Sz25.bigBytes
  refine List.map_congr_left fun i hi => ?_
  have h := List.mem_range.mp hi
  congr 1
  have e : 256 ^ n = 256 ^ (n - 1 - i) * 256 ^ (i + 1) := by rw [← Nat.pow_add]; congr 1; omega
  rw [e, Nat.mod_mul_right_div_self, Nat.mod_mod_of_dvd _ (Nat.dvd_trans (Nat.dvd_refl 256) ⟨256 ^ i, by rw [Nat.pow_succ, Nat.mul_comm]⟩)]
theorem bigBytes_len (n x : Nat) : (Sz25.bigBytes n x).length = n := by
  unfold Sz25.bigBytes
  rw [List.length_map, List.length_range]
def outS (c way : Nat) (key iv b : Sz25.Bytes) : Sz25.Bytes := match way with
  | 0 => Sz25.close_ c key b
  | 1 => Sz25.open_ c key b
  | 2 => Sz25.close_ c key (Sz25.mix b iv)
  | 3 => Sz25.mix (Sz25.open_ c key b) iv
  | _ => Sz25.mix b (Sz25.close_ c key iv)
def nextS (c way : Nat) (key iv b : Sz25.Bytes) : Sz25.Bytes := match way with
  | 0 => iv
  | 1 => iv
  | 2 => Sz25.close_ c key (Sz25.mix b iv)
  | 3 => b
  | _ => Sz25.bigBytes (Sz25.block c) ((Sz25.big iv + 1) % 256 ^ Sz25.block c)
theorem run_nil (c way : Nat) (key iv : Sz25.Bytes) : ∀ k, Sz25.run c way key k iv [] = ([], iv)
  | 0 => rfl
  | k + 1 => by unfold Sz25.run; rw [if_pos rfl]
theorem run_cons (c way : Nat) (key iv m : Sz25.Bytes) (k : Nat) (hm : m ≠ []) : Sz25.run c way key (k + 1) iv m = (outS c way key iv (m.take (Sz25.block c)) ++ (Sz25.run c way key k (nextS c way key iv (m.take (Sz25.block c))) (m.drop (Sz25.block c))).1, (Sz25.run c way key k (nextS c way key iv (m.take (Sz25.block c))) (m.drop (Sz25.block c))).2) := by
  rw [Sz25.run, if_neg hm]
  unfold outS nextS
  match way with
  | 0 => rfl
  | 1 => rfl
  | 2 => rfl
  | 3 => rfl
  | _ + 4 => rfl
section
variable {key iv b : Sz25.Bytes}
theorem close_len {c : Nat} (hc : c < 6) (hk : key.length = klen c) (hb : b.length = blk c) : (Sz25.close_ c key b).length = blk c := by
  rw [← nb_len, ← seal_eq hc hk hb]
  exact sealM_len hc (by rw [nb_len]; exact hk) (by rw [nb_len]; exact hb)
theorem open_len {c : Nat} (hc : c < 6) (hk : key.length = klen c) (hb : b.length = blk c) : (Sz25.open_ c key b).length = blk c := by
  rw [← nb_len, ← unseal_eq hc hk hb]
  exact unsealM_len hc (by rw [nb_len]; exact hk) (by rw [nb_len]; exact hb)
theorem step_eq {c way : Nat} (hc : c < 6) (hw : way ≤ 4) (hk : key.length = klen c) (hi : iv.length = blk c) (hb : b.length ≤ blk c) (hb2 : way ≠ 4 → b.length = blk c) :
    outM c way (nb key) (nb iv) (nb b) = nb (outS c way key iv b) ∧ nextM c way (nb key) (nb iv) (nb b) = nb (nextS c way key iv b) ∧ (nextS c way key iv b).length = blk c ∧ (outS c way key iv b).length = b.length := by
  have ml : ∀ {x y : Sz25.Bytes}, x.length = blk c → y.length = blk c → (Sz25.mix x y).length = blk c := fun h g => by rw [mix_len, h, g, Nat.min_self]
  match way, hw, hb2 with
  | 0, _, hb2 =>
    have h := hb2 (by decide)
    exact ⟨seal_eq hc hk h, rfl, hi, (close_len hc hk h).trans h.symm⟩
  | 1, _, hb2 =>
    have h := hb2 (by decide)
    exact ⟨unseal_eq hc hk h, rfl, hi, (open_len hc hk h).trans h.symm⟩
  | 2, _, hb2 =>
    have h := hb2 (by decide)
    have e : sealM c (nb key) (xorM (nb b) (nb iv)) = nb (Sz25.close_ c key (Sz25.mix b iv)) := by rw [mix_eq, seal_eq hc hk (ml h hi)]
    exact ⟨e, e, close_len hc hk (ml h hi), (close_len hc hk (ml h hi)).trans h.symm⟩
  | 3, _, hb2 =>
    have h := hb2 (by decide)
    have e : xorM (unsealM c (nb key) (nb b)) (nb iv) = nb (Sz25.mix (Sz25.open_ c key b) iv) := by rw [unseal_eq hc hk h, mix_eq]
    exact ⟨e, rfl, h, (ml (open_len hc hk h) hi).trans h.symm⟩
  | 4, _, hb2 =>
    have e : xorM (nb b) (sealM c (nb key) (nb iv)) = nb (Sz25.mix b (Sz25.close_ c key iv)) := by rw [seal_eq hc hk hi, mix_eq]
    have e2 : rowF (numF 8 (nb iv) + 1) (nb iv).length 8 = nb (Sz25.bigBytes (Sz25.block c) ((Sz25.big iv + 1) % 256 ^ Sz25.block c)) := by
      rw [bytes_big, nb_len, hi, big_eq, blk_eq hc, bigBytes_mod]
    exact ⟨e, e2, (bigBytes_len _ _).trans (blk_eq hc).symm, by
      show (Sz25.mix b (Sz25.close_ c key iv)).length = _
      rw [mix_len, close_len hc hk hi, Nat.min_eq_left hb]⟩
theorem run_steps {c way : Nat} {data : Sz25.Bytes} (hc : c < 6) (hw : way ≤ 4) (hk : key.length = klen c) (hi : iv.length = blk c) (hd : way ≠ 4 → data.length % blk c = 0) :
    ∀ i, i ≤ nblk c data.length → ∃ o v, runX c way (nb key) (nb iv) (nb data) i = (nb o, nb v) ∧ v.length = blk c ∧ o.length = min (blk c * i) data.length ∧
      ∀ f, Sz25.run c way key (f + i) iv data = (o ++ (Sz25.run c way key f v (data.drop (blk c * i))).1, (Sz25.run c way key f v (data.drop (blk c * i))).2)
  | 0, _ => ⟨[], iv, runX_z _ _ _ _ _, hi, by rw [Nat.mul_zero, Nat.zero_min]; rfl, fun f => by rw [Nat.mul_zero, List.drop_zero]; rfl⟩
  | i + 1, h => by
    obtain ⟨o, v, e, lv, lo, r⟩ := run_steps hc hw hk hi hd i (by omega)
    have hlt : blk c * i < data.length := by
      unfold nblk at h
      rcases blk_is c hc with e | e | e <;> rw [e] at h ⊢ <;> omega
    have lb : ((data.drop (blk c * i)).take (blk c)).length = min (blk c) (data.length - blk c * i) := by rw [List.length_take, List.length_drop]
    have lb2 : way ≠ 4 → ((data.drop (blk c * i)).take (blk c)).length = blk c := fun hn => by
      have m := hd hn
      rw [lb]
      rcases blk_is c hc with e | e | e <;> rw [e] at m hlt ⊢ <;> omega
    obtain ⟨s1, s2, s3, s4⟩ := step_eq (iv := v) (b := (data.drop (blk c * i)).take (blk c)) hc hw hk lv (by rw [lb]; omega) lb2
    have bl : blkAt c (nb data) i = nb ((data.drop (blk c * i)).take (blk c)) := by
      unfold blkAt
      rw [nb_drop, nb_take]
    refine ⟨o ++ outS c way key v ((data.drop (blk c * i)).take (blk c)), nextS c way key v ((data.drop (blk c * i)).take (blk c)), ?_, s3, ?_, fun f => ?_⟩
    · rw [runX_s, e, bl]
      show (nb o ++ outM c way (nb key) (nb v) _, nextM c way (nb key) (nb v) _) = _
      rw [s1, s2]
      unfold nb
      rw [List.map_append]
    · rw [List.length_append, s4, lo, lb, Nat.mul_succ]
      omega
    · have hne : data.drop (blk c * i) ≠ [] := fun z => by
        have := congrArg List.length z
        rw [List.length_drop] at this
        have n0 : ([] : Sz25.Bytes).length = 0 := rfl
        omega
      have rc := run_cons c way key v (data.drop (blk c * i)) f hne
      rw [← blk_eq hc, List.drop_drop] at rc
      rw [show f + (i + 1) = (f + 1) + i by omega, r (f + 1), rc, List.append_assoc, Nat.mul_succ]
theorem run_eq {c way : Nat} {data : Sz25.Bytes} (hc : c < 6) (hw : way ≤ 4) (hk : key.length = klen c) (hi : iv.length = blk c) (hd : way ≠ 4 → data.length % blk c = 0) :
    runX c way (nb key) (nb iv) (nb data) (nblk c data.length) = (nb (Sz25.run c way key (data.length + 1) iv data).1, nb (Sz25.run c way key (data.length + 1) iv data).2) ∧
      (Sz25.run c way key (data.length + 1) iv data).2.length = blk c ∧ (Sz25.run c way key (data.length + 1) iv data).1.length = data.length := by
  obtain ⟨o, v, e, lv, lo, r⟩ := run_steps (iv := iv) hc hw hk hi hd (nblk c data.length) (Nat.le_refl _)
  have h1 : data.length ≤ blk c * nblk c data.length ∧ nblk c data.length ≤ data.length := by
    unfold nblk
    rcases blk_is c hc with e | e | e <;> rw [e] <;> omega
  have r := r (data.length + 1 - nblk c data.length)
  rw [show data.length + 1 - nblk c data.length + nblk c data.length = data.length + 1 by omega, List.drop_of_length_le h1.1, run_nil, List.append_nil] at r
  rw [r]
  exact ⟨e, lv, by rw [lo]; omega⟩
end
end Sx
end
section
set_option Elab.async false
set_option linter.all false
set_option maxHeartbeats 1000000
namespace Sx
open L2
/-! ### the calls -/
theorem shapes {c : List (List Int)} (h : PyFlat.okCall PySz25.shape c) : (∃ a r, c = [[1, a], r]) ∨ (∃ r, c = [[2], r]) ∨ (∃ a b r, c = [[3, a, b], r]) ∨ c = [[4]] := by
  obtain ⟨p, a, xs, rfl, h⟩ := h
  unfold PySz25.shape at h
  split at h
  · rename_i e
    subst e
    obtain ⟨h1, h2⟩ := Prod.mk.inj (Option.some.inj h)
    match a, xs, h1, h2 with
    | [a], [r], _, _ => exact .inl ⟨a, r, rfl⟩
  · split at h
    · rename_i e
      subst e
      obtain ⟨h1, h2⟩ := Prod.mk.inj (Option.some.inj h)
      match a, xs, h1, h2 with
      | [], [r], _, _ => exact .inr (.inl ⟨r, rfl⟩)
    · split at h
      · rename_i e
        subst e
        obtain ⟨h1, h2⟩ := Prod.mk.inj (Option.some.inj h)
        match a, xs, h1, h2 with
        | [a, b], [r], _, _ => exact .inr (.inr (.inl ⟨a, b, r, rfl⟩))
      · split at h
        · rename_i e
          subst e
          obtain ⟨h1, h2⟩ := Prod.mk.inj (Option.some.inj h)
          match a, xs, h1, h2 with
          | [], [], _, _ => exact .inr (.inr (.inr rfl))
        · cases h
theorem whole_eq (c : List (List Int)) : PySz25.whole c = c := by
  unfold PySz25.whole
  split <;> rfl
theorem octets_nb {l : List Int} (h : Octets l) : nb (Sz25Neutral.octets l) = l.map Int.toNat := by
  unfold nb Sz25Neutral.octets
  rw [List.map_map]
  refine List.map_congr_left fun z hz => ?_
  have := h z hz
  show (UInt8.ofNat z.toNat).toNat = z.toNat
  rw [UInt8.toNat_ofNat']
  exact Nat.mod_eq_of_lt (by omega)
theorem octets_len (l : List Int) : (Sz25Neutral.octets l).length = l.length := List.length_map ..
theorem octets_of {l : List Int} (h : l.all (fun (z : Int) => Sz25Neutral.natural z 8) = true) : Octets l := fun z hz => by
  have := List.all_eq_true.mp h z hz
  unfold Sz25Neutral.natural at this
  rw [Bool.and_eq_true, decide_eq_true_eq, decide_eq_true_eq] at this
  exact this
/-- the specification's state and the program's -/
structure Rel (x : Sz25.Set) (c : Nat) (key iv : List Nat) : Prop where
  hc : x.cipher = c
  lt : c < 6
  kk : nb x.key = key
  vv : nb x.iv = iv
  lk : x.key.length = klen c
  lv : x.iv.length = blk c
def RelO : Sz25.St → OSt → Prop
  | some x, some (c, key, iv) => Rel x c key iv
  | _, _ => False
def keyOk (c : List (List Int)) : Prop := ∃ a r, c = [[1, a], r] ∧ 0 ≤ a ∧ a ≤ 5
theorem key_one {a : Int} {r : List Int} (h : Sz25Neutral.asked1 [[1, a], r] = true) (s : Sz25.St) (o : OSt) :
    (¬ (0 ≤ a ∧ a ≤ 5) → Does o (1 :: a :: (r.length : Int) :: r) o (Sz25Neutral.step s [[1, a], r]).2 ∧ (Sz25Neutral.step s [[1, a], r]).1 = s ∧ (Sz25Neutral.step s [[1, a], r]).2.length ≤ 2001) ∧
    (0 ≤ a ∧ a ≤ 5 → ∃ o', Does o (1 :: a :: (r.length : Int) :: r) o' (Sz25Neutral.step s [[1, a], r]).2 ∧ RelO (Sz25Neutral.step s [[1, a], r]).1 o' ∧ (Sz25Neutral.step s [[1, a], r]).2.length ≤ 2001) := by
  have h : (Sz25Neutral.whole32 a && (r.all (fun (z : Int) => Sz25Neutral.natural z 8) && decide ((r.length : Int) = if 0 ≤ a ∧ a ≤ 4 then 16 else if a = 5 then 48 else 0))) = true := h
  rw [Bool.and_eq_true, Bool.and_eq_true, decide_eq_true_eq] at h
  obtain ⟨_, h1, h2⟩ := h
  have oc := octets_of h1
  have e : Sz25Neutral.step s [[1, a], r] = ((Sz25.does s (.key a (Sz25Neutral.octets r))).1, (Sz25.does s (.key a (Sz25Neutral.octets r))).2.value :: (Sz25.does s (.key a (Sz25Neutral.octets r))).2.bytes.map fun (b : UInt8) => (b.toNat : Int)) := rfl
  rw [e]
  unfold Sz25.does
  refine ⟨fun hn => ?_, fun hy => ?_⟩
  · dsimp only
    rw [if_pos (by omega)]
    exact ⟨.keyBad (by omega) oc, rfl, by show 1 ≤ 2001; decide⟩
  · dsimp only
    rw [if_neg (by omega)]
    obtain ⟨n, rfl⟩ : ∃ n : Nat, a = (n : Int) := ⟨a.toNat, by omega⟩
    have hn : n < 6 := by omega
    have lr : r.length = klen n := by
      unfold klen
      by_cases e5 : n = 5
      · rw [if_pos e5]
        rw [if_neg (by omega), if_pos (by omega)] at h2
        omega
      · rw [if_neg e5]
        rw [if_pos (by omega)] at h2
        omega
    refine ⟨some (n, r.map Int.toNat, List.replicate (blk n) 0), .keyOk hn lr oc, ?_, by show 1 ≤ 2001; decide⟩
    refine ⟨Int.toNat_natCast n, hn, octets_nb oc, ?_, by show (Sz25Neutral.octets r).length = _; rw [octets_len]; exact lr, ?_⟩
    · show nb (List.replicate (Sz25.block (n : Int).toNat) 0) = _
      unfold nb
      rw [List.map_replicate, Int.toNat_natCast, ← blk_eq hn] <;> rfl
    · show (List.replicate (Sz25.block (n : Int).toNat) (0 : UInt8)).length = _
      rw [List.length_replicate, Int.toNat_natCast, blk_eq hn]
theorem one_call {c : List (List Int)} (ok : PyFlat.okCall PySz25.shape c) (h : Sz25Neutral.asked1 c = true) {s : Sz25.St} {o : OSt} (r : RelO s o) :
    ∃ o', Does o (PyFlat.put1 c) o' (Sz25Neutral.step s c).2 ∧ RelO (Sz25Neutral.step s c).1 o' ∧ (Sz25Neutral.step s c).2.length ≤ 2001 := by
  match s, o, r with
  | some x, some (cc, key, iv), r =>
  have r : Rel x cc key iv := r
  rcases shapes ok with ⟨a, d, rfl⟩ | ⟨d, rfl⟩ | ⟨w, n, d, rfl⟩ | rfl
  · have e : PyFlat.put1 [[1, a], d] = 1 :: a :: (d.length : Int) :: d := by
      show 1 :: a :: (d.length : Int) :: (d ++ []) = _
      rw [List.append_nil]
    rw [e]
    obtain ⟨k1, k2⟩ := key_one h (some x) (some (cc, key, iv))
    by_cases hy : 0 ≤ a ∧ a ≤ 5
    · exact k2 hy
    · obtain ⟨h1, h2, h3⟩ := k1 hy
      exact ⟨_, h1, by rw [h2]; exact r, h3⟩
  · have e : PyFlat.put1 [[2], d] = 2 :: (d.length : Int) :: d := by
      show 2 :: (d.length : Int) :: (d ++ []) = _
      rw [List.append_nil]
    rw [e]
    have h : (d.all (fun (z : Int) => Sz25Neutral.natural z 8) && Sz25Neutral.long d 32 32 32) = true := h
    rw [Bool.and_eq_true] at h
    obtain ⟨h1, h2⟩ := h
    have oc := octets_of h1
    have l : d.length = 32 := by
      unfold Sz25Neutral.long at h2
      rw [decide_eq_true_eq, if_pos (by decide)] at h2
      omega
    obtain ⟨rfl, lt, rfl, rfl, lk, lv⟩ := r
    refine ⟨_, .start (by omega) oc, ?_, by show 1 ≤ 2001; decide⟩
    refine ⟨rfl, lt, rfl, ?_, lk, ?_⟩
    · show nb ((Sz25Neutral.octets d).take (Sz25.block x.cipher)) = _
      rw [← nb_take, octets_nb oc, blk_eq lt]
    · show ((Sz25Neutral.octets d).take (Sz25.block x.cipher)).length = _
      have z := sizes x.cipher lt
      rw [List.length_take, octets_len, l, ← blk_eq lt]
      omega
  · have e : PyFlat.put1 [[3, w, n], d] = 3 :: w :: n :: (d.length : Int) :: d := by
      show 3 :: w :: n :: (d.length : Int) :: (d ++ []) = _
      rw [List.append_nil]
    rw [e]
    have h : (Sz25Neutral.whole32 w && ((Sz25Neutral.whole32 n && (decide (n ≤ 2000) || decide (16777216 < n))) && (d.all (fun (z : Int) => Sz25Neutral.natural z 8) && Sz25Neutral.long d n 0 16777216))) = true := h
    rw [Bool.and_eq_true, Bool.and_eq_true, Bool.and_eq_true, Bool.and_eq_true, Bool.or_eq_true, decide_eq_true_eq, decide_eq_true_eq] at h
    obtain ⟨_, ⟨_, h1⟩, h2, h3⟩ := h
    have oc := octets_of h2
    unfold Sz25Neutral.long at h3
    rw [decide_eq_true_eq] at h3
    obtain ⟨rfl, lt, rfl, rfl, lk, lv⟩ := r
    have e : Sz25Neutral.step (some x) [[3, w, n], d] = ((Sz25.does (some x) (.run w (Sz25Neutral.octets d) n)).1, (Sz25.does (some x) (.run w (Sz25Neutral.octets d) n)).2.value :: (Sz25.does (some x) (.run w (Sz25Neutral.octets d) n)).2.bytes.map fun (b : UInt8) => (b.toNat : Int)) := rfl
    rw [e]
    unfold Sz25.does
    dsimp only
    by_cases hr : Refused x.cipher w n
    · have hr2 : w < 0 ∨ 4 < w ∨ n < 0 ∨ Sz25.MOST < n ∨ (w ≠ 4 ∧ n % (Sz25.block x.cipher : Int) ≠ 0) := by
        rw [← blk_eq lt]
        exact hr
      rw [if_pos hr2]
      exact ⟨_, .runBad hr oc, ⟨rfl, lt, rfl, rfl, lk, lv⟩, by show 1 ≤ 2001; decide⟩
    · have hr2 : ¬ (w < 0 ∨ 4 < w ∨ n < 0 ∨ Sz25.MOST < n ∨ (w ≠ 4 ∧ n % (Sz25.block x.cipher : Int) ≠ 0)) := by
        rw [← blk_eq lt]
        exact hr
      rw [if_neg hr2]
      have hr3 := hr
      unfold Refused at hr3
      have en : n = (d.length : Int) := by
        rw [if_pos (by omega)] at h3
        exact h3.symm
      have dl : (Sz25Neutral.octets d).length = d.length := octets_len d
      obtain ⟨q1, q2, q3⟩ := run_eq (key := x.key) (iv := x.iv) (data := Sz25Neutral.octets d) (way := w.toNat) lt (by omega) lk lv (fun hw => by
        have : n % (blk x.cipher : Int) = 0 := by
          by_cases z : n % (blk x.cipher : Int) = 0
          · exact z
          · exact absurd (.inr (.inr (.inr (.inr ⟨by omega, z⟩)))) hr3
        rw [dl]
        rw [en] at this
        omega)
      rw [octets_nb oc, dl] at q1
      rw [dl] at q2 q3
      have dd := Does.runOk (c := x.cipher) (key := nb x.key) (v := nb x.iv) (k := (d.length : Int)) hr oc en (by omega)
      rw [q1] at dd
      rw [dl]
      refine ⟨some (x.cipher, nb x.key, nb (Sz25.run x.cipher w.toNat x.key (d.length + 1) x.iv (Sz25Neutral.octets d)).2), ?_, ⟨rfl, lt, rfl, rfl, lk, q2⟩, ?_⟩
      · have em : (nb (Sz25.run x.cipher w.toNat x.key (d.length + 1) x.iv (Sz25Neutral.octets d)).1).map (fun (y : Nat) => (y : Int)) = (Sz25.run x.cipher w.toNat x.key (d.length + 1) x.iv (Sz25Neutral.octets d)).1.map fun (b : UInt8) => (b.toNat : Int) := by
          unfold nb
          rw [List.map_map] <;> rfl
        dsimp only at dd
        rw [em] at dd
        exact dd
      · rw [List.length_cons, List.length_map, q3]
        omega
  · obtain ⟨rfl, lt, rfl, rfl, lk, lv⟩ := r
    refine ⟨some (x.cipher, nb x.key, nb x.iv), ?_, ⟨rfl, lt, rfl, rfl, lk, lv⟩, by show 1 ≤ 2001; decide⟩
    show Does _ [4] _ [((Sz25.block x.cipher : Nat) : Int)]
    rw [← blk_eq lt]
    exact .block
end Sx
end
section
set_option Elab.async false
set_option linter.all false
set_option maxHeartbeats 1000000
namespace Sx
open L2
theorem get_at (pre x : List Int) (j : Nat) : (pre ++ x)[pre.length + j]? = x[j]? := by
  rw [List.getElem?_append_right (by omega), Nat.add_sub_cancel_left]
theorem ends {c : List (List Int)} (ok : PyFlat.okCall PySz25.shape c) (pre rest : List Int) : EndOf (pre ++ (PyFlat.put1 c ++ rest)) pre.length (pre.length + (PyFlat.put1 c).length) := by
  rcases shapes ok with ⟨a, d, rfl⟩ | ⟨d, rfl⟩ | ⟨w, n, d, rfl⟩ | rfl
  · have e : PyFlat.put1 [[1, a], d] = 1 :: a :: (d.length : Int) :: d := by
      show 1 :: a :: (d.length : Int) :: (d ++ []) = _
      rw [List.append_nil]
    rw [e]
    have z := EndOf.key (ls := pre ++ ((1 :: a :: (d.length : Int) :: d) ++ rest)) (i := pre.length) (k := d.length) (get_at pre _ 0) (get_at pre _ 2)
    have e2 : pre.length + (1 :: a :: (d.length : Int) :: d).length = pre.length + 2 + 1 + d.length := by
      rw [List.length_cons, List.length_cons, List.length_cons]
      omega
    rw [e2]
    exact z
  · have e : PyFlat.put1 [[2], d] = 2 :: (d.length : Int) :: d := by
      show 2 :: (d.length : Int) :: (d ++ []) = _
      rw [List.append_nil]
    rw [e]
    have z := EndOf.start (ls := pre ++ ((2 :: (d.length : Int) :: d) ++ rest)) (i := pre.length) (k := d.length) (get_at pre _ 0) (get_at pre _ 1)
    have e2 : pre.length + (2 :: (d.length : Int) :: d).length = pre.length + 1 + 1 + d.length := by
      rw [List.length_cons, List.length_cons]
      omega
    rw [e2]
    exact z
  · have e : PyFlat.put1 [[3, w, n], d] = 3 :: w :: n :: (d.length : Int) :: d := by
      show 3 :: w :: n :: (d.length : Int) :: (d ++ []) = _
      rw [List.append_nil]
    rw [e]
    have z := EndOf.run (ls := pre ++ ((3 :: w :: n :: (d.length : Int) :: d) ++ rest)) (i := pre.length) (k := d.length) (get_at pre _ 0) (get_at pre _ 3)
    have e2 : pre.length + (3 :: w :: n :: (d.length : Int) :: d).length = pre.length + 3 + 1 + d.length := by
      rw [List.length_cons, List.length_cons, List.length_cons, List.length_cons]
      omega
    rw [e2]
    exact z
  · exact EndOf.block (ls := pre ++ ([4] ++ rest)) (i := pre.length) (get_at pre _ 0)
theorem plays_step {c : List (List Int)} {cs : List (List (List Int))} {pre : List Int} {o o' : OSt} {out more : List Int} (ok : PyFlat.okCall PySz25.shape c) (d : Does o (PyFlat.put1 c) o' out) (p : Plays ((pre ++ PyFlat.put1 c) ++ PyFlat.put cs) o' (pre ++ PyFlat.put1 c).length more) :
    Plays (pre ++ PyFlat.put (c :: cs)) o pre.length (((out.length : Int) :: out) ++ more) := by
  show Plays (pre ++ (PyFlat.put1 c ++ PyFlat.put cs)) o pre.length _
  have en := ends ok pre (PyFlat.put cs)
  have gt := en.gt
  rw [List.append_assoc, List.length_append] at p
  refine Plays.call (by rw [List.length_append, List.length_append]; omega) en (by rw [List.length_append, List.length_append]; omega) ?_ p
  rw [List.drop_left, Nat.add_sub_cancel_left, List.take_left]
  exact d
theorem told_cons (a : List Int) (l : List (List Int)) : PyFlat.told (a :: l) = ((a.length : Int) :: a) ++ PyFlat.told l := List.flatMap_cons
theorem plays_from : ∀ (cs : List (List (List Int))) (pre : List Int) {s : Sz25.St} {o : OSt}, (∀ c ∈ cs, PyFlat.okCall PySz25.shape c) → (∀ c ∈ cs, Sz25Neutral.asked1 c = true) → RelO s o →
    Plays (pre ++ PyFlat.put cs) o pre.length (PyFlat.told (PyFlat.played Sz25Neutral.step s cs)) ∧ (PyFlat.told (PyFlat.played Sz25Neutral.step s cs)).length ≤ 2002 * cs.length
  | [], pre, s, o, _, _, _ => by
    have e : pre ++ PyFlat.put [] = pre := List.append_nil pre
    rw [e]
    exact ⟨.done, Nat.le_refl _⟩
  | c :: cs, pre, s, o, ok, ak, r => by
    obtain ⟨o', d, r', l⟩ := one_call (ok c (List.mem_cons_self ..)) (ak c (List.mem_cons_self ..)) r
    obtain ⟨p, l2⟩ := plays_from cs (pre ++ PyFlat.put1 c) (fun z hz => ok z (List.mem_cons_of_mem _ hz)) (fun z hz => ak z (List.mem_cons_of_mem _ hz)) r'
    have e : PyFlat.told (PyFlat.played Sz25Neutral.step s (c :: cs)) = ((((Sz25Neutral.step s c).2.length : Nat) : Int) :: (Sz25Neutral.step s c).2) ++ PyFlat.told (PyFlat.played Sz25Neutral.step (Sz25Neutral.step s c).1 cs) := told_cons _ _
    rw [e]
    refine ⟨plays_step (ok c (List.mem_cons_self ..)) d p, ?_⟩
    rw [List.length_append, List.length_cons, List.length_cons]
    omega
theorem plays_all {ls : List Int} (h : PySz25.answers_asked ls = true) : Plays ls none 0 (PySz25.answers ls) ∧ (PySz25.answers ls).length ≤ 2002 * 400 := by
  unfold PySz25.answers_asked at h
  unfold PySz25.answers
  cases e : PySz25.calls ls with
  | none => rw [e] at h; cases h
  | some cs =>
    rw [e] at h
    dsimp only at h ⊢
    unfold PySz25.calls at e
    cases e2 : PyFlat.calls PySz25.shape ls.length ls with
    | none => rw [e2] at e; cases e
    | some ds =>
      rw [e2] at e
      have e3 : ds.map PySz25.whole = cs := Option.some.inj e
      have e4 : ds.map PySz25.whole = ds := by
        have : PySz25.whole = id := funext whole_eq
        rw [this, List.map_id]
      rw [e4] at e3
      subst e3
      obtain ⟨pl, ok⟩ := PyFlat.put_calls _ _ _ e2
      clear e e2 e4
      subst pl
      rw [Bool.and_eq_true] at h
      obtain ⟨_, h⟩ := h
      unfold Sz25Neutral.asked at h
      rw [Bool.and_eq_true, Bool.and_eq_true, decide_eq_true_eq] at h
      obtain ⟨⟨ha, hl⟩, hh⟩ := h
      have ak : ∀ c ∈ ds, Sz25Neutral.asked1 c = true := fun c hc => List.all_eq_true.mp ha c hc
      match ds, ok, ak, hl, hh with
      | [], _, _, _, hh => cases hh
      | c :: cs, ok, ak, hl, hh =>
        have okc := ok c (List.mem_cons_self ..)
        have akc := ak c (List.mem_cons_self ..)
        obtain ⟨a, r, rfl, h1, h2⟩ : keyOk c := by
          rcases shapes okc with ⟨a, d, rfl⟩ | ⟨d, rfl⟩ | ⟨w, n, d, rfl⟩ | rfl
          · have hh : (decide (0 ≤ a) && decide (a ≤ 5)) = true := hh
            rw [Bool.and_eq_true, decide_eq_true_eq, decide_eq_true_eq] at hh
            exact ⟨a, d, rfl, hh.1, hh.2⟩
          · cases hh
          · cases hh
          · cases hh
        obtain ⟨o', d, r', l⟩ := (key_one akc Sz25Neutral.start none).2 ⟨h1, h2⟩
        have e : PyFlat.put1 [[1, a], r] = 1 :: a :: (r.length : Int) :: r := by
          show 1 :: a :: (r.length : Int) :: (r ++ []) = _
          rw [List.append_nil]
        rw [← e] at d
        obtain ⟨p, l2⟩ := plays_from cs ([] ++ PyFlat.put1 [[1, a], r]) (fun z hz => ok z (List.mem_cons_of_mem _ hz)) (fun z hz => ak z (List.mem_cons_of_mem _ hz)) r'
        have e2 : PyFlat.told (PyFlat.played Sz25Neutral.step Sz25Neutral.start ([[1, a], r] :: cs)) = ((((Sz25Neutral.step Sz25Neutral.start [[1, a], r]).2.length : Nat) : Int) :: (Sz25Neutral.step Sz25Neutral.start [[1, a], r]).2) ++ PyFlat.told (PyFlat.played Sz25Neutral.step (Sz25Neutral.step Sz25Neutral.start [[1, a], r]).1 cs) := told_cons _ _
        rw [e2]
        refine ⟨plays_step (pre := []) okc d p, ?_⟩
        rw [List.length_cons] at hl
        rw [List.length_append, List.length_cons]
        omega
end Sx
end
section
set_option Elab.async false
set_option linter.all false
set_option maxRecDepth 100000
set_option maxHeartbeats 4000000
namespace Sx
open PySem PySem.Spec PyProof.Rows L2
theorem tp_of {K : PySem.W.Frag} {p : Addr} {od : Option Addr} {its : Array Value} {n : Nat} {sl : Array (Option Value)} {xs : List V} (l : K.lookup p = some ⟨.type "tuple", od, .seq its n, sl⟩) (hz : its.size ≤ sizeLine) (v : Vals xs its.toList) : Tp K p xs := ⟨_, its, n, l, rfl, rfl, hz, v⟩
set_option maxHeartbeats 0 in
theorem all_mk {P : Program} {w : World} {K : PySem.W.Frag} {h : Heap} {mg : Str → Option Value} {fa : Addr} {C f_number_from f_row_from f_highest_first f_lowest_first f_exclusive_or f_turned_left f_turned_right f_idea_product f_idea_inverse f_idea_undoing f_idea_spread f_idea_keyed f_idea_mixed f_idea_swapped f_idea_seal f_idea_unseal f_xtea_spread f_xtea_mixed f_xtea_seal f_xtea_unseal f_rc_spread f_rc5_spread f_rc5_seal f_rc5_unseal f_rc6_spread f_rc6_turned f_rc6_round f_rc6_unround f_rc6_seal f_rc6_unseal f_speck_round f_speck_spread f_speck_seal f_speck_unseal f_threefish_sum f_threefish_difference f_threefish_spread f_threefish_round f_threefish_unround f_threefish_seal f_threefish_unseal f___init__ f_block_size f_take_key f_take_start f_run_blocks f_run_block f_sealed f_unsealed f_worked f_call_end f_call_answer f_answers t_COUNT_PLACES t_BLOCK_SIZES t_WORD_BITS t_REGROUPS t_SPREADS t_SEALS t_UNSEALS t_THREEFISH_TURNS tt0 tt1 tt2 tt3 tt4 tt5 tt6 tt7 : Addr} {od_number_from od_row_from od_highest_first od_lowest_first od_exclusive_or od_turned_left od_turned_right od_idea_product od_idea_inverse od_idea_undoing od_idea_spread od_idea_keyed od_idea_mixed od_idea_swapped od_idea_seal od_idea_unseal od_xtea_spread od_xtea_mixed od_xtea_seal od_xtea_unseal od_rc_spread od_rc5_spread od_rc5_seal od_rc5_unseal od_rc6_spread od_rc6_turned od_rc6_round od_rc6_unround od_rc6_seal od_rc6_unseal od_speck_round od_speck_spread od_speck_seal od_speck_unseal od_threefish_sum od_threefish_difference od_threefish_spread od_threefish_round od_threefish_unround od_threefish_seal od_threefish_unseal od___init__ od_block_size od_take_key od_take_start od_run_blocks od_run_block od_sealed od_unsealed od_worked od_call_end od_call_answer od_answers an_number_from an_row_from an_highest_first an_lowest_first an_exclusive_or an_turned_left an_turned_right an_idea_product an_idea_inverse an_idea_undoing an_idea_spread an_idea_keyed an_idea_mixed an_idea_swapped an_idea_seal an_idea_unseal an_xtea_spread an_xtea_mixed an_xtea_seal an_xtea_unseal an_rc_spread an_rc5_spread an_rc5_seal an_rc5_unseal an_rc6_spread an_rc6_turned an_rc6_round an_rc6_unround an_rc6_seal an_rc6_unseal an_speck_round an_speck_spread an_speck_seal an_speck_unseal an_threefish_sum an_threefish_difference an_threefish_spread an_threefish_round an_threefish_unround an_threefish_seal an_threefish_unseal an___init__ an_block_size an_take_key an_take_start an_run_blocks an_run_block an_sealed an_unsealed an_worked an_call_end an_call_answer an_answers od_COUNT_PLACES od_BLOCK_SIZES od_WORD_BITS od_REGROUPS od_SPREADS od_SEALS od_UNSEALS od_THREEFISH_TURNS od_tt0 od_tt1 od_tt2 od_tt3 od_tt4 od_tt5 od_tt6 od_tt7 : Option Addr} {sl_number_from sl_row_from sl_highest_first sl_lowest_first sl_exclusive_or sl_turned_left sl_turned_right sl_idea_product sl_idea_inverse sl_idea_undoing sl_idea_spread sl_idea_keyed sl_idea_mixed sl_idea_swapped sl_idea_seal sl_idea_unseal sl_xtea_spread sl_xtea_mixed sl_xtea_seal sl_xtea_unseal sl_rc_spread sl_rc5_spread sl_rc5_seal sl_rc5_unseal sl_rc6_spread sl_rc6_turned sl_rc6_round sl_rc6_unround sl_rc6_seal sl_rc6_unseal sl_speck_round sl_speck_spread sl_speck_seal sl_speck_unseal sl_threefish_sum sl_threefish_difference sl_threefish_spread sl_threefish_round sl_threefish_unround sl_threefish_seal sl_threefish_unseal sl___init__ sl_block_size sl_take_key sl_take_start sl_run_blocks sl_run_block sl_sealed sl_unsealed sl_worked sl_call_end sl_call_answer sl_answers sl_COUNT_PLACES sl_BLOCK_SIZES sl_WORD_BITS sl_REGROUPS sl_SPREADS sl_SEALS sl_UNSEALS sl_THREEFISH_TURNS sl_tt0 sl_tt1 sl_tt2 sl_tt3 sl_tt4 sl_tt5 sl_tt6 sl_tt7 : Array (Option Value)} {oc_number_from kV_number_from dc_number_from pm_number_from cd_number_from ct_number_from oc_row_from kV_row_from dc_row_from pm_row_from cd_row_from ct_row_from oc_highest_first kV_highest_first dc_highest_first pm_highest_first cd_highest_first ct_highest_first oc_lowest_first kV_lowest_first dc_lowest_first pm_lowest_first cd_lowest_first ct_lowest_first oc_exclusive_or kV_exclusive_or dc_exclusive_or pm_exclusive_or cd_exclusive_or ct_exclusive_or oc_turned_left kV_turned_left dc_turned_left pm_turned_left cd_turned_left ct_turned_left oc_turned_right kV_turned_right dc_turned_right pm_turned_right cd_turned_right ct_turned_right oc_idea_product kV_idea_product dc_idea_product pm_idea_product cd_idea_product ct_idea_product oc_idea_inverse kV_idea_inverse dc_idea_inverse pm_idea_inverse cd_idea_inverse ct_idea_inverse oc_idea_undoing kV_idea_undoing dc_idea_undoing pm_idea_undoing cd_idea_undoing ct_idea_undoing oc_idea_spread kV_idea_spread dc_idea_spread pm_idea_spread cd_idea_spread ct_idea_spread oc_idea_keyed kV_idea_keyed dc_idea_keyed pm_idea_keyed cd_idea_keyed ct_idea_keyed oc_idea_mixed kV_idea_mixed dc_idea_mixed pm_idea_mixed cd_idea_mixed ct_idea_mixed oc_idea_swapped kV_idea_swapped dc_idea_swapped pm_idea_swapped cd_idea_swapped ct_idea_swapped oc_idea_seal kV_idea_seal dc_idea_seal pm_idea_seal cd_idea_seal ct_idea_seal oc_idea_unseal kV_idea_unseal dc_idea_unseal pm_idea_unseal cd_idea_unseal ct_idea_unseal oc_xtea_spread kV_xtea_spread dc_xtea_spread pm_xtea_spread cd_xtea_spread ct_xtea_spread oc_xtea_mixed kV_xtea_mixed dc_xtea_mixed pm_xtea_mixed cd_xtea_mixed ct_xtea_mixed oc_xtea_seal kV_xtea_seal dc_xtea_seal pm_xtea_seal cd_xtea_seal ct_xtea_seal oc_xtea_unseal kV_xtea_unseal dc_xtea_unseal pm_xtea_unseal cd_xtea_unseal ct_xtea_unseal oc_rc_spread kV_rc_spread dc_rc_spread pm_rc_spread cd_rc_spread ct_rc_spread oc_rc5_spread kV_rc5_spread dc_rc5_spread pm_rc5_spread cd_rc5_spread ct_rc5_spread oc_rc5_seal kV_rc5_seal dc_rc5_seal pm_rc5_seal cd_rc5_seal ct_rc5_seal oc_rc5_unseal kV_rc5_unseal dc_rc5_unseal pm_rc5_unseal cd_rc5_unseal ct_rc5_unseal oc_rc6_spread kV_rc6_spread dc_rc6_spread pm_rc6_spread cd_rc6_spread ct_rc6_spread oc_rc6_turned kV_rc6_turned dc_rc6_turned pm_rc6_turned cd_rc6_turned ct_rc6_turned oc_rc6_round kV_rc6_round dc_rc6_round pm_rc6_round cd_rc6_round ct_rc6_round oc_rc6_unround kV_rc6_unround dc_rc6_unround pm_rc6_unround cd_rc6_unround ct_rc6_unround oc_rc6_seal kV_rc6_seal dc_rc6_seal pm_rc6_seal cd_rc6_seal ct_rc6_seal oc_rc6_unseal kV_rc6_unseal dc_rc6_unseal pm_rc6_unseal cd_rc6_unseal ct_rc6_unseal oc_speck_round kV_speck_round dc_speck_round pm_speck_round cd_speck_round ct_speck_round oc_speck_spread kV_speck_spread dc_speck_spread pm_speck_spread cd_speck_spread ct_speck_spread oc_speck_seal kV_speck_seal dc_speck_seal pm_speck_seal cd_speck_seal ct_speck_seal oc_speck_unseal kV_speck_unseal dc_speck_unseal pm_speck_unseal cd_speck_unseal ct_speck_unseal oc_threefish_sum kV_threefish_sum dc_threefish_sum pm_threefish_sum cd_threefish_sum ct_threefish_sum oc_threefish_difference kV_threefish_difference dc_threefish_difference pm_threefish_difference cd_threefish_difference ct_threefish_difference oc_threefish_spread kV_threefish_spread dc_threefish_spread pm_threefish_spread cd_threefish_spread ct_threefish_spread oc_threefish_round kV_threefish_round dc_threefish_round pm_threefish_round cd_threefish_round ct_threefish_round oc_threefish_unround kV_threefish_unround dc_threefish_unround pm_threefish_unround cd_threefish_unround ct_threefish_unround oc_threefish_seal kV_threefish_seal dc_threefish_seal pm_threefish_seal cd_threefish_seal ct_threefish_seal oc_threefish_unseal kV_threefish_unseal dc_threefish_unseal pm_threefish_unseal cd_threefish_unseal ct_threefish_unseal oc___init__ kV___init__ dc___init__ pm___init__ cd___init__ ct___init__ oc_block_size kV_block_size dc_block_size pm_block_size cd_block_size ct_block_size oc_take_key kV_take_key dc_take_key pm_take_key cd_take_key ct_take_key oc_take_start kV_take_start dc_take_start pm_take_start cd_take_start ct_take_start oc_run_blocks kV_run_blocks dc_run_blocks pm_run_blocks cd_run_blocks ct_run_blocks oc_run_block kV_run_block dc_run_block pm_run_block cd_run_block ct_run_block oc_sealed kV_sealed dc_sealed pm_sealed cd_sealed ct_sealed oc_unsealed kV_unsealed dc_unsealed pm_unsealed cd_unsealed ct_unsealed oc_worked kV_worked dc_worked pm_worked cd_worked ct_worked oc_call_end kV_call_end dc_call_end pm_call_end cd_call_end ct_call_end oc_call_answer kV_call_answer dc_call_answer pm_call_answer cd_call_answer ct_call_answer oc_answers kV_answers dc_answers pm_answers cd_answers ct_answers : Value} {nn_COUNT_PLACES nn_BLOCK_SIZES nn_WORD_BITS nn_REGROUPS nn_SPREADS nn_SEALS nn_UNSEALS nn_THREEFISH_TURNS nn_tt0 nn_tt1 nn_tt2 nn_tt3 nn_tt4 nn_tt5 nn_tt6 nn_tt7 : Nat} {tk_CK_KEY tk_CK_START tk_CK_RUN tk_CK_BLOCK tk_LARGEST_RUN tk_TWO_16 tk_TWO_32 tk_TWO_64 tk_GOLDEN tk_COUNT_PLACES_0 tk_COUNT_PLACES_1 tk_COUNT_PLACES_2 tk_COUNT_PLACES_3 tk_BLOCK_SIZES_0 tk_BLOCK_SIZES_1 tk_BLOCK_SIZES_2 tk_BLOCK_SIZES_3 tk_BLOCK_SIZES_4 tk_BLOCK_SIZES_5 tk_WORD_BITS_0 tk_WORD_BITS_1 tk_WORD_BITS_2 tk_WORD_BITS_3 tk_WORD_BITS_4 tk_WORD_BITS_5 tk_tt0_0 tk_tt0_1 tk_tt1_0 tk_tt1_1 tk_tt2_0 tk_tt2_1 tk_tt3_0 tk_tt3_1 tk_tt4_0 tk_tt4_1 tk_tt5_0 tk_tt5_1 tk_tt6_0 tk_tt6_1 tk_tt7_0 tk_tt7_1 : Tok} (X : K.In h) (G : h.Ns mainGlobals mg) (hfa : mg "answers" = some (.ref fa))
    (a_number_from : PySem.W.nsIn K mainGlobals "number_from" = some (some (.ref f_number_from)))
    (a_row_from : PySem.W.nsIn K mainGlobals "row_from" = some (some (.ref f_row_from)))
    (a_highest_first : PySem.W.nsIn K mainGlobals "highest_first" = some (some (.ref f_highest_first)))
    (a_lowest_first : PySem.W.nsIn K mainGlobals "lowest_first" = some (some (.ref f_lowest_first)))
    (a_exclusive_or : PySem.W.nsIn K mainGlobals "exclusive_or" = some (some (.ref f_exclusive_or)))
    (a_turned_left : PySem.W.nsIn K mainGlobals "turned_left" = some (some (.ref f_turned_left)))
    (a_turned_right : PySem.W.nsIn K mainGlobals "turned_right" = some (some (.ref f_turned_right)))
    (a_idea_product : PySem.W.nsIn K mainGlobals "idea_product" = some (some (.ref f_idea_product)))
    (a_idea_inverse : PySem.W.nsIn K mainGlobals "idea_inverse" = some (some (.ref f_idea_inverse)))
    (a_idea_undoing : PySem.W.nsIn K mainGlobals "idea_undoing" = some (some (.ref f_idea_undoing)))
    (a_idea_spread : PySem.W.nsIn K mainGlobals "idea_spread" = some (some (.ref f_idea_spread)))
    (a_idea_keyed : PySem.W.nsIn K mainGlobals "idea_keyed" = some (some (.ref f_idea_keyed)))
    (a_idea_mixed : PySem.W.nsIn K mainGlobals "idea_mixed" = some (some (.ref f_idea_mixed)))
    (a_idea_swapped : PySem.W.nsIn K mainGlobals "idea_swapped" = some (some (.ref f_idea_swapped)))
    (a_idea_seal : PySem.W.nsIn K mainGlobals "idea_seal" = some (some (.ref f_idea_seal)))
    (a_idea_unseal : PySem.W.nsIn K mainGlobals "idea_unseal" = some (some (.ref f_idea_unseal)))
    (a_xtea_spread : PySem.W.nsIn K mainGlobals "xtea_spread" = some (some (.ref f_xtea_spread)))
    (a_xtea_mixed : PySem.W.nsIn K mainGlobals "xtea_mixed" = some (some (.ref f_xtea_mixed)))
    (a_xtea_seal : PySem.W.nsIn K mainGlobals "xtea_seal" = some (some (.ref f_xtea_seal)))
    (a_xtea_unseal : PySem.W.nsIn K mainGlobals "xtea_unseal" = some (some (.ref f_xtea_unseal)))
    (a_rc_spread : PySem.W.nsIn K mainGlobals "rc_spread" = some (some (.ref f_rc_spread)))
    (a_rc5_spread : PySem.W.nsIn K mainGlobals "rc5_spread" = some (some (.ref f_rc5_spread)))
    (a_rc5_seal : PySem.W.nsIn K mainGlobals "rc5_seal" = some (some (.ref f_rc5_seal)))
    (a_rc5_unseal : PySem.W.nsIn K mainGlobals "rc5_unseal" = some (some (.ref f_rc5_unseal)))
    (a_rc6_spread : PySem.W.nsIn K mainGlobals "rc6_spread" = some (some (.ref f_rc6_spread)))
    (a_rc6_turned : PySem.W.nsIn K mainGlobals "rc6_turned" = some (some (.ref f_rc6_turned)))
    (a_rc6_round : PySem.W.nsIn K mainGlobals "rc6_round" = some (some (.ref f_rc6_round)))
    (a_rc6_unround : PySem.W.nsIn K mainGlobals "rc6_unround" = some (some (.ref f_rc6_unround)))
    (a_rc6_seal : PySem.W.nsIn K mainGlobals "rc6_seal" = some (some (.ref f_rc6_seal)))
    (a_rc6_unseal : PySem.W.nsIn K mainGlobals "rc6_unseal" = some (some (.ref f_rc6_unseal)))
    (a_speck_round : PySem.W.nsIn K mainGlobals "speck_round" = some (some (.ref f_speck_round)))
    (a_speck_spread : PySem.W.nsIn K mainGlobals "speck_spread" = some (some (.ref f_speck_spread)))
    (a_speck_seal : PySem.W.nsIn K mainGlobals "speck_seal" = some (some (.ref f_speck_seal)))
    (a_speck_unseal : PySem.W.nsIn K mainGlobals "speck_unseal" = some (some (.ref f_speck_unseal)))
    (a_threefish_sum : PySem.W.nsIn K mainGlobals "threefish_sum" = some (some (.ref f_threefish_sum)))
    (a_threefish_difference : PySem.W.nsIn K mainGlobals "threefish_difference" = some (some (.ref f_threefish_difference)))
    (a_threefish_spread : PySem.W.nsIn K mainGlobals "threefish_spread" = some (some (.ref f_threefish_spread)))
    (a_threefish_round : PySem.W.nsIn K mainGlobals "threefish_round" = some (some (.ref f_threefish_round)))
    (a_threefish_unround : PySem.W.nsIn K mainGlobals "threefish_unround" = some (some (.ref f_threefish_unround)))
    (a_threefish_seal : PySem.W.nsIn K mainGlobals "threefish_seal" = some (some (.ref f_threefish_seal)))
    (a_threefish_unseal : PySem.W.nsIn K mainGlobals "threefish_unseal" = some (some (.ref f_threefish_unseal)))
    (a_call_end : PySem.W.nsIn K mainGlobals "call_end" = some (some (.ref f_call_end)))
    (a_call_answer : PySem.W.nsIn K mainGlobals "call_answer" = some (some (.ref f_call_answer)))
    (a_answers : PySem.W.nsIn K mainGlobals "answers" = some (some (.ref f_answers)))
    (aC : PySem.W.nsIn K mainGlobals "Sealer" = some (some (.ref C)))
    (a___init__ : PySem.W.findIn K (.ref C) "__init__" = some (some (.ref f___init__)))
    (i___init__ : PySem.W.isFn K (.ref f___init__) = true)
    (a_block_size : PySem.W.findIn K (.ref C) "block_size" = some (some (.ref f_block_size)))
    (i_block_size : PySem.W.isFn K (.ref f_block_size) = true)
    (a_take_key : PySem.W.findIn K (.ref C) "take_key" = some (some (.ref f_take_key)))
    (i_take_key : PySem.W.isFn K (.ref f_take_key) = true)
    (a_take_start : PySem.W.findIn K (.ref C) "take_start" = some (some (.ref f_take_start)))
    (i_take_start : PySem.W.isFn K (.ref f_take_start) = true)
    (a_run_blocks : PySem.W.findIn K (.ref C) "run_blocks" = some (some (.ref f_run_blocks)))
    (i_run_blocks : PySem.W.isFn K (.ref f_run_blocks) = true)
    (a_run_block : PySem.W.findIn K (.ref C) "run_block" = some (some (.ref f_run_block)))
    (i_run_block : PySem.W.isFn K (.ref f_run_block) = true)
    (a_sealed : PySem.W.findIn K (.ref C) "sealed" = some (some (.ref f_sealed)))
    (i_sealed : PySem.W.isFn K (.ref f_sealed) = true)
    (a_unsealed : PySem.W.findIn K (.ref C) "unsealed" = some (some (.ref f_unsealed)))
    (i_unsealed : PySem.W.isFn K (.ref f_unsealed) = true)
    (a_worked : PySem.W.findIn K (.ref C) "worked" = some (some (.ref f_worked)))
    (i_worked : PySem.W.isFn K (.ref f_worked) = true)
    (l_number_from : K.lookup f_number_from = some ⟨oc_number_from, od_number_from, .func (PySem.W.fnOf "number_from" "number_from" (defArgs s_number_from) (defBody s_number_from) (defScope s_number_from) .none kV_number_from dc_number_from pm_number_from an_number_from cd_number_from ct_number_from), sl_number_from⟩)
    (c_number_from : PySem.W.codeIn K cd_number_from "number_from" = true)
    (k_number_from : PySem.W.keepIn K (.ref f_number_from) = true)
    (l_row_from : K.lookup f_row_from = some ⟨oc_row_from, od_row_from, .func (PySem.W.fnOf "row_from" "row_from" (defArgs s_row_from) (defBody s_row_from) (defScope s_row_from) .none kV_row_from dc_row_from pm_row_from an_row_from cd_row_from ct_row_from), sl_row_from⟩)
    (c_row_from : PySem.W.codeIn K cd_row_from "row_from" = true)
    (k_row_from : PySem.W.keepIn K (.ref f_row_from) = true)
    (l_highest_first : K.lookup f_highest_first = some ⟨oc_highest_first, od_highest_first, .func (PySem.W.fnOf "highest_first" "highest_first" (defArgs s_highest_first) (defBody s_highest_first) (defScope s_highest_first) .none kV_highest_first dc_highest_first pm_highest_first an_highest_first cd_highest_first ct_highest_first), sl_highest_first⟩)
    (c_highest_first : PySem.W.codeIn K cd_highest_first "highest_first" = true)
    (k_highest_first : PySem.W.keepIn K (.ref f_highest_first) = true)
    (l_lowest_first : K.lookup f_lowest_first = some ⟨oc_lowest_first, od_lowest_first, .func (PySem.W.fnOf "lowest_first" "lowest_first" (defArgs s_lowest_first) (defBody s_lowest_first) (defScope s_lowest_first) .none kV_lowest_first dc_lowest_first pm_lowest_first an_lowest_first cd_lowest_first ct_lowest_first), sl_lowest_first⟩)
    (c_lowest_first : PySem.W.codeIn K cd_lowest_first "lowest_first" = true)
    (k_lowest_first : PySem.W.keepIn K (.ref f_lowest_first) = true)
    (l_exclusive_or : K.lookup f_exclusive_or = some ⟨oc_exclusive_or, od_exclusive_or, .func (PySem.W.fnOf "exclusive_or" "exclusive_or" (defArgs s_exclusive_or) (defBody s_exclusive_or) (defScope s_exclusive_or) .none kV_exclusive_or dc_exclusive_or pm_exclusive_or an_exclusive_or cd_exclusive_or ct_exclusive_or), sl_exclusive_or⟩)
    (c_exclusive_or : PySem.W.codeIn K cd_exclusive_or "exclusive_or" = true)
    (k_exclusive_or : PySem.W.keepIn K (.ref f_exclusive_or) = true)
    (l_turned_left : K.lookup f_turned_left = some ⟨oc_turned_left, od_turned_left, .func (PySem.W.fnOf "turned_left" "turned_left" (defArgs s_turned_left) (defBody s_turned_left) (defScope s_turned_left) .none kV_turned_left dc_turned_left pm_turned_left an_turned_left cd_turned_left ct_turned_left), sl_turned_left⟩)
    (c_turned_left : PySem.W.codeIn K cd_turned_left "turned_left" = true)
    (k_turned_left : PySem.W.keepIn K (.ref f_turned_left) = true)
    (l_turned_right : K.lookup f_turned_right = some ⟨oc_turned_right, od_turned_right, .func (PySem.W.fnOf "turned_right" "turned_right" (defArgs s_turned_right) (defBody s_turned_right) (defScope s_turned_right) .none kV_turned_right dc_turned_right pm_turned_right an_turned_right cd_turned_right ct_turned_right), sl_turned_right⟩)
    (c_turned_right : PySem.W.codeIn K cd_turned_right "turned_right" = true)
    (k_turned_right : PySem.W.keepIn K (.ref f_turned_right) = true)
    (l_idea_product : K.lookup f_idea_product = some ⟨oc_idea_product, od_idea_product, .func (PySem.W.fnOf "idea_product" "idea_product" (defArgs s_idea_product) (defBody s_idea_product) (defScope s_idea_product) .none kV_idea_product dc_idea_product pm_idea_product an_idea_product cd_idea_product ct_idea_product), sl_idea_product⟩)
    (c_idea_product : PySem.W.codeIn K cd_idea_product "idea_product" = true)
    (k_idea_product : PySem.W.keepIn K (.ref f_idea_product) = true)
    (l_idea_inverse : K.lookup f_idea_inverse = some ⟨oc_idea_inverse, od_idea_inverse, .func (PySem.W.fnOf "idea_inverse" "idea_inverse" (defArgs s_idea_inverse) (defBody s_idea_inverse) (defScope s_idea_inverse) .none kV_idea_inverse dc_idea_inverse pm_idea_inverse an_idea_inverse cd_idea_inverse ct_idea_inverse), sl_idea_inverse⟩)
    (c_idea_inverse : PySem.W.codeIn K cd_idea_inverse "idea_inverse" = true)
    (k_idea_inverse : PySem.W.keepIn K (.ref f_idea_inverse) = true)
    (l_idea_undoing : K.lookup f_idea_undoing = some ⟨oc_idea_undoing, od_idea_undoing, .func (PySem.W.fnOf "idea_undoing" "idea_undoing" (defArgs s_idea_undoing) (defBody s_idea_undoing) (defScope s_idea_undoing) .none kV_idea_undoing dc_idea_undoing pm_idea_undoing an_idea_undoing cd_idea_undoing ct_idea_undoing), sl_idea_undoing⟩)
    (c_idea_undoing : PySem.W.codeIn K cd_idea_undoing "idea_undoing" = true)
    (k_idea_undoing : PySem.W.keepIn K (.ref f_idea_undoing) = true)
    (l_idea_spread : K.lookup f_idea_spread = some ⟨oc_idea_spread, od_idea_spread, .func (PySem.W.fnOf "idea_spread" "idea_spread" (defArgs s_idea_spread) (defBody s_idea_spread) (defScope s_idea_spread) .none kV_idea_spread dc_idea_spread pm_idea_spread an_idea_spread cd_idea_spread ct_idea_spread), sl_idea_spread⟩)
    (c_idea_spread : PySem.W.codeIn K cd_idea_spread "idea_spread" = true)
    (k_idea_spread : PySem.W.keepIn K (.ref f_idea_spread) = true)
    (l_idea_keyed : K.lookup f_idea_keyed = some ⟨oc_idea_keyed, od_idea_keyed, .func (PySem.W.fnOf "idea_keyed" "idea_keyed" (defArgs s_idea_keyed) (defBody s_idea_keyed) (defScope s_idea_keyed) .none kV_idea_keyed dc_idea_keyed pm_idea_keyed an_idea_keyed cd_idea_keyed ct_idea_keyed), sl_idea_keyed⟩)
    (c_idea_keyed : PySem.W.codeIn K cd_idea_keyed "idea_keyed" = true)
    (k_idea_keyed : PySem.W.keepIn K (.ref f_idea_keyed) = true)
    (l_idea_mixed : K.lookup f_idea_mixed = some ⟨oc_idea_mixed, od_idea_mixed, .func (PySem.W.fnOf "idea_mixed" "idea_mixed" (defArgs s_idea_mixed) (defBody s_idea_mixed) (defScope s_idea_mixed) .none kV_idea_mixed dc_idea_mixed pm_idea_mixed an_idea_mixed cd_idea_mixed ct_idea_mixed), sl_idea_mixed⟩)
    (c_idea_mixed : PySem.W.codeIn K cd_idea_mixed "idea_mixed" = true)
    (k_idea_mixed : PySem.W.keepIn K (.ref f_idea_mixed) = true)
    (l_idea_swapped : K.lookup f_idea_swapped = some ⟨oc_idea_swapped, od_idea_swapped, .func (PySem.W.fnOf "idea_swapped" "idea_swapped" (defArgs s_idea_swapped) (defBody s_idea_swapped) (defScope s_idea_swapped) .none kV_idea_swapped dc_idea_swapped pm_idea_swapped an_idea_swapped cd_idea_swapped ct_idea_swapped), sl_idea_swapped⟩)
    (c_idea_swapped : PySem.W.codeIn K cd_idea_swapped "idea_swapped" = true)
    (k_idea_swapped : PySem.W.keepIn K (.ref f_idea_swapped) = true)
    (l_idea_seal : K.lookup f_idea_seal = some ⟨oc_idea_seal, od_idea_seal, .func (PySem.W.fnOf "idea_seal" "idea_seal" (defArgs s_idea_seal) (defBody s_idea_seal) (defScope s_idea_seal) .none kV_idea_seal dc_idea_seal pm_idea_seal an_idea_seal cd_idea_seal ct_idea_seal), sl_idea_seal⟩)
    (c_idea_seal : PySem.W.codeIn K cd_idea_seal "idea_seal" = true)
    (k_idea_seal : PySem.W.keepIn K (.ref f_idea_seal) = true)
    (l_idea_unseal : K.lookup f_idea_unseal = some ⟨oc_idea_unseal, od_idea_unseal, .func (PySem.W.fnOf "idea_unseal" "idea_unseal" (defArgs s_idea_unseal) (defBody s_idea_unseal) (defScope s_idea_unseal) .none kV_idea_unseal dc_idea_unseal pm_idea_unseal an_idea_unseal cd_idea_unseal ct_idea_unseal), sl_idea_unseal⟩)
    (c_idea_unseal : PySem.W.codeIn K cd_idea_unseal "idea_unseal" = true)
    (k_idea_unseal : PySem.W.keepIn K (.ref f_idea_unseal) = true)
    (l_xtea_spread : K.lookup f_xtea_spread = some ⟨oc_xtea_spread, od_xtea_spread, .func (PySem.W.fnOf "xtea_spread" "xtea_spread" (defArgs s_xtea_spread) (defBody s_xtea_spread) (defScope s_xtea_spread) .none kV_xtea_spread dc_xtea_spread pm_xtea_spread an_xtea_spread cd_xtea_spread ct_xtea_spread), sl_xtea_spread⟩)
    (c_xtea_spread : PySem.W.codeIn K cd_xtea_spread "xtea_spread" = true)
    (k_xtea_spread : PySem.W.keepIn K (.ref f_xtea_spread) = true)
    (l_xtea_mixed : K.lookup f_xtea_mixed = some ⟨oc_xtea_mixed, od_xtea_mixed, .func (PySem.W.fnOf "xtea_mixed" "xtea_mixed" (defArgs s_xtea_mixed) (defBody s_xtea_mixed) (defScope s_xtea_mixed) .none kV_xtea_mixed dc_xtea_mixed pm_xtea_mixed an_xtea_mixed cd_xtea_mixed ct_xtea_mixed), sl_xtea_mixed⟩)
    (c_xtea_mixed : PySem.W.codeIn K cd_xtea_mixed "xtea_mixed" = true)
    (k_xtea_mixed : PySem.W.keepIn K (.ref f_xtea_mixed) = true)
    (l_xtea_seal : K.lookup f_xtea_seal = some ⟨oc_xtea_seal, od_xtea_seal, .func (PySem.W.fnOf "xtea_seal" "xtea_seal" (defArgs s_xtea_seal) (defBody s_xtea_seal) (defScope s_xtea_seal) .none kV_xtea_seal dc_xtea_seal pm_xtea_seal an_xtea_seal cd_xtea_seal ct_xtea_seal), sl_xtea_seal⟩)
    (c_xtea_seal : PySem.W.codeIn K cd_xtea_seal "xtea_seal" = true)
    (k_xtea_seal : PySem.W.keepIn K (.ref f_xtea_seal) = true)
    (l_xtea_unseal : K.lookup f_xtea_unseal = some ⟨oc_xtea_unseal, od_xtea_unseal, .func (PySem.W.fnOf "xtea_unseal" "xtea_unseal" (defArgs s_xtea_unseal) (defBody s_xtea_unseal) (defScope s_xtea_unseal) .none kV_xtea_unseal dc_xtea_unseal pm_xtea_unseal an_xtea_unseal cd_xtea_unseal ct_xtea_unseal), sl_xtea_unseal⟩)
    (c_xtea_unseal : PySem.W.codeIn K cd_xtea_unseal "xtea_unseal" = true)
    (k_xtea_unseal : PySem.W.keepIn K (.ref f_xtea_unseal) = true)
    (l_rc_spread : K.lookup f_rc_spread = some ⟨oc_rc_spread, od_rc_spread, .func (PySem.W.fnOf "rc_spread" "rc_spread" (defArgs s_rc_spread) (defBody s_rc_spread) (defScope s_rc_spread) .none kV_rc_spread dc_rc_spread pm_rc_spread an_rc_spread cd_rc_spread ct_rc_spread), sl_rc_spread⟩)
    (c_rc_spread : PySem.W.codeIn K cd_rc_spread "rc_spread" = true)
    (k_rc_spread : PySem.W.keepIn K (.ref f_rc_spread) = true)
    (l_rc5_spread : K.lookup f_rc5_spread = some ⟨oc_rc5_spread, od_rc5_spread, .func (PySem.W.fnOf "rc5_spread" "rc5_spread" (defArgs s_rc5_spread) (defBody s_rc5_spread) (defScope s_rc5_spread) .none kV_rc5_spread dc_rc5_spread pm_rc5_spread an_rc5_spread cd_rc5_spread ct_rc5_spread), sl_rc5_spread⟩)
    (c_rc5_spread : PySem.W.codeIn K cd_rc5_spread "rc5_spread" = true)
    (k_rc5_spread : PySem.W.keepIn K (.ref f_rc5_spread) = true)
    (l_rc5_seal : K.lookup f_rc5_seal = some ⟨oc_rc5_seal, od_rc5_seal, .func (PySem.W.fnOf "rc5_seal" "rc5_seal" (defArgs s_rc5_seal) (defBody s_rc5_seal) (defScope s_rc5_seal) .none kV_rc5_seal dc_rc5_seal pm_rc5_seal an_rc5_seal cd_rc5_seal ct_rc5_seal), sl_rc5_seal⟩)
    (c_rc5_seal : PySem.W.codeIn K cd_rc5_seal "rc5_seal" = true)
    (k_rc5_seal : PySem.W.keepIn K (.ref f_rc5_seal) = true)
    (l_rc5_unseal : K.lookup f_rc5_unseal = some ⟨oc_rc5_unseal, od_rc5_unseal, .func (PySem.W.fnOf "rc5_unseal" "rc5_unseal" (defArgs s_rc5_unseal) (defBody s_rc5_unseal) (defScope s_rc5_unseal) .none kV_rc5_unseal dc_rc5_unseal pm_rc5_unseal an_rc5_unseal cd_rc5_unseal ct_rc5_unseal), sl_rc5_unseal⟩)
    (c_rc5_unseal : PySem.W.codeIn K cd_rc5_unseal "rc5_unseal" = true)
    (k_rc5_unseal : PySem.W.keepIn K (.ref f_rc5_unseal) = true)
    (l_rc6_spread : K.lookup f_rc6_spread = some ⟨oc_rc6_spread, od_rc6_spread, .func (PySem.W.fnOf "rc6_spread" "rc6_spread" (defArgs s_rc6_spread) (defBody s_rc6_spread) (defScope s_rc6_spread) .none kV_rc6_spread dc_rc6_spread pm_rc6_spread an_rc6_spread cd_rc6_spread ct_rc6_spread), sl_rc6_spread⟩)
    (c_rc6_spread : PySem.W.codeIn K cd_rc6_spread "rc6_spread" = true)
    (k_rc6_spread : PySem.W.keepIn K (.ref f_rc6_spread) = true)
    (l_rc6_turned : K.lookup f_rc6_turned = some ⟨oc_rc6_turned, od_rc6_turned, .func (PySem.W.fnOf "rc6_turned" "rc6_turned" (defArgs s_rc6_turned) (defBody s_rc6_turned) (defScope s_rc6_turned) .none kV_rc6_turned dc_rc6_turned pm_rc6_turned an_rc6_turned cd_rc6_turned ct_rc6_turned), sl_rc6_turned⟩)
    (c_rc6_turned : PySem.W.codeIn K cd_rc6_turned "rc6_turned" = true)
    (k_rc6_turned : PySem.W.keepIn K (.ref f_rc6_turned) = true)
    (l_rc6_round : K.lookup f_rc6_round = some ⟨oc_rc6_round, od_rc6_round, .func (PySem.W.fnOf "rc6_round" "rc6_round" (defArgs s_rc6_round) (defBody s_rc6_round) (defScope s_rc6_round) .none kV_rc6_round dc_rc6_round pm_rc6_round an_rc6_round cd_rc6_round ct_rc6_round), sl_rc6_round⟩)
    (c_rc6_round : PySem.W.codeIn K cd_rc6_round "rc6_round" = true)
    (k_rc6_round : PySem.W.keepIn K (.ref f_rc6_round) = true)
    (l_rc6_unround : K.lookup f_rc6_unround = some ⟨oc_rc6_unround, od_rc6_unround, .func (PySem.W.fnOf "rc6_unround" "rc6_unround" (defArgs s_rc6_unround) (defBody s_rc6_unround) (defScope s_rc6_unround) .none kV_rc6_unround dc_rc6_unround pm_rc6_unround an_rc6_unround cd_rc6_unround ct_rc6_unround), sl_rc6_unround⟩)
    (c_rc6_unround : PySem.W.codeIn K cd_rc6_unround "rc6_unround" = true)
    (k_rc6_unround : PySem.W.keepIn K (.ref f_rc6_unround) = true)
    (l_rc6_seal : K.lookup f_rc6_seal = some ⟨oc_rc6_seal, od_rc6_seal, .func (PySem.W.fnOf "rc6_seal" "rc6_seal" (defArgs s_rc6_seal) (defBody s_rc6_seal) (defScope s_rc6_seal) .none kV_rc6_seal dc_rc6_seal pm_rc6_seal an_rc6_seal cd_rc6_seal ct_rc6_seal), sl_rc6_seal⟩)
    (c_rc6_seal : PySem.W.codeIn K cd_rc6_seal "rc6_seal" = true)
    (k_rc6_seal : PySem.W.keepIn K (.ref f_rc6_seal) = true)
    (l_rc6_unseal : K.lookup f_rc6_unseal = some ⟨oc_rc6_unseal, od_rc6_unseal, .func (PySem.W.fnOf "rc6_unseal" "rc6_unseal" (defArgs s_rc6_unseal) (defBody s_rc6_unseal) (defScope s_rc6_unseal) .none kV_rc6_unseal dc_rc6_unseal pm_rc6_unseal an_rc6_unseal cd_rc6_unseal ct_rc6_unseal), sl_rc6_unseal⟩)
    (c_rc6_unseal : PySem.W.codeIn K cd_rc6_unseal "rc6_unseal" = true)
    (k_rc6_unseal : PySem.W.keepIn K (.ref f_rc6_unseal) = true)
    (l_speck_round : K.lookup f_speck_round = some ⟨oc_speck_round, od_speck_round, .func (PySem.W.fnOf "speck_round" "speck_round" (defArgs s_speck_round) (defBody s_speck_round) (defScope s_speck_round) .none kV_speck_round dc_speck_round pm_speck_round an_speck_round cd_speck_round ct_speck_round), sl_speck_round⟩)
    (c_speck_round : PySem.W.codeIn K cd_speck_round "speck_round" = true)
    (k_speck_round : PySem.W.keepIn K (.ref f_speck_round) = true)
    (l_speck_spread : K.lookup f_speck_spread = some ⟨oc_speck_spread, od_speck_spread, .func (PySem.W.fnOf "speck_spread" "speck_spread" (defArgs s_speck_spread) (defBody s_speck_spread) (defScope s_speck_spread) .none kV_speck_spread dc_speck_spread pm_speck_spread an_speck_spread cd_speck_spread ct_speck_spread), sl_speck_spread⟩)
    (c_speck_spread : PySem.W.codeIn K cd_speck_spread "speck_spread" = true)
    (k_speck_spread : PySem.W.keepIn K (.ref f_speck_spread) = true)
    (l_speck_seal : K.lookup f_speck_seal = some ⟨oc_speck_seal, od_speck_seal, .func (PySem.W.fnOf "speck_seal" "speck_seal" (defArgs s_speck_seal) (defBody s_speck_seal) (defScope s_speck_seal) .none kV_speck_seal dc_speck_seal pm_speck_seal an_speck_seal cd_speck_seal ct_speck_seal), sl_speck_seal⟩)
    (c_speck_seal : PySem.W.codeIn K cd_speck_seal "speck_seal" = true)
    (k_speck_seal : PySem.W.keepIn K (.ref f_speck_seal) = true)
    (l_speck_unseal : K.lookup f_speck_unseal = some ⟨oc_speck_unseal, od_speck_unseal, .func (PySem.W.fnOf "speck_unseal" "speck_unseal" (defArgs s_speck_unseal) (defBody s_speck_unseal) (defScope s_speck_unseal) .none kV_speck_unseal dc_speck_unseal pm_speck_unseal an_speck_unseal cd_speck_unseal ct_speck_unseal), sl_speck_unseal⟩)
    (c_speck_unseal : PySem.W.codeIn K cd_speck_unseal "speck_unseal" = true)
    (k_speck_unseal : PySem.W.keepIn K (.ref f_speck_unseal) = true)
    (l_threefish_sum : K.lookup f_threefish_sum = some ⟨oc_threefish_sum, od_threefish_sum, .func (PySem.W.fnOf "threefish_sum" "threefish_sum" (defArgs s_threefish_sum) (defBody s_threefish_sum) (defScope s_threefish_sum) .none kV_threefish_sum dc_threefish_sum pm_threefish_sum an_threefish_sum cd_threefish_sum ct_threefish_sum), sl_threefish_sum⟩)
    (c_threefish_sum : PySem.W.codeIn K cd_threefish_sum "threefish_sum" = true)
    (k_threefish_sum : PySem.W.keepIn K (.ref f_threefish_sum) = true)
    (l_threefish_difference : K.lookup f_threefish_difference = some ⟨oc_threefish_difference, od_threefish_difference, .func (PySem.W.fnOf "threefish_difference" "threefish_difference" (defArgs s_threefish_difference) (defBody s_threefish_difference) (defScope s_threefish_difference) .none kV_threefish_difference dc_threefish_difference pm_threefish_difference an_threefish_difference cd_threefish_difference ct_threefish_difference), sl_threefish_difference⟩)
    (c_threefish_difference : PySem.W.codeIn K cd_threefish_difference "threefish_difference" = true)
    (k_threefish_difference : PySem.W.keepIn K (.ref f_threefish_difference) = true)
    (l_threefish_spread : K.lookup f_threefish_spread = some ⟨oc_threefish_spread, od_threefish_spread, .func (PySem.W.fnOf "threefish_spread" "threefish_spread" (defArgs s_threefish_spread) (defBody s_threefish_spread) (defScope s_threefish_spread) .none kV_threefish_spread dc_threefish_spread pm_threefish_spread an_threefish_spread cd_threefish_spread ct_threefish_spread), sl_threefish_spread⟩)
    (c_threefish_spread : PySem.W.codeIn K cd_threefish_spread "threefish_spread" = true)
    (k_threefish_spread : PySem.W.keepIn K (.ref f_threefish_spread) = true)
    (l_threefish_round : K.lookup f_threefish_round = some ⟨oc_threefish_round, od_threefish_round, .func (PySem.W.fnOf "threefish_round" "threefish_round" (defArgs s_threefish_round) (defBody s_threefish_round) (defScope s_threefish_round) .none kV_threefish_round dc_threefish_round pm_threefish_round an_threefish_round cd_threefish_round ct_threefish_round), sl_threefish_round⟩)
    (c_threefish_round : PySem.W.codeIn K cd_threefish_round "threefish_round" = true)
    (k_threefish_round : PySem.W.keepIn K (.ref f_threefish_round) = true)
    (l_threefish_unround : K.lookup f_threefish_unround = some ⟨oc_threefish_unround, od_threefish_unround, .func (PySem.W.fnOf "threefish_unround" "threefish_unround" (defArgs s_threefish_unround) (defBody s_threefish_unround) (defScope s_threefish_unround) .none kV_threefish_unround dc_threefish_unround pm_threefish_unround an_threefish_unround cd_threefish_unround ct_threefish_unround), sl_threefish_unround⟩)
    (c_threefish_unround : PySem.W.codeIn K cd_threefish_unround "threefish_unround" = true)
    (k_threefish_unround : PySem.W.keepIn K (.ref f_threefish_unround) = true)
    (l_threefish_seal : K.lookup f_threefish_seal = some ⟨oc_threefish_seal, od_threefish_seal, .func (PySem.W.fnOf "threefish_seal" "threefish_seal" (defArgs s_threefish_seal) (defBody s_threefish_seal) (defScope s_threefish_seal) .none kV_threefish_seal dc_threefish_seal pm_threefish_seal an_threefish_seal cd_threefish_seal ct_threefish_seal), sl_threefish_seal⟩)
    (c_threefish_seal : PySem.W.codeIn K cd_threefish_seal "threefish_seal" = true)
    (k_threefish_seal : PySem.W.keepIn K (.ref f_threefish_seal) = true)
    (l_threefish_unseal : K.lookup f_threefish_unseal = some ⟨oc_threefish_unseal, od_threefish_unseal, .func (PySem.W.fnOf "threefish_unseal" "threefish_unseal" (defArgs s_threefish_unseal) (defBody s_threefish_unseal) (defScope s_threefish_unseal) .none kV_threefish_unseal dc_threefish_unseal pm_threefish_unseal an_threefish_unseal cd_threefish_unseal ct_threefish_unseal), sl_threefish_unseal⟩)
    (c_threefish_unseal : PySem.W.codeIn K cd_threefish_unseal "threefish_unseal" = true)
    (k_threefish_unseal : PySem.W.keepIn K (.ref f_threefish_unseal) = true)
    (l___init__ : K.lookup f___init__ = some ⟨oc___init__, od___init__, .func (PySem.W.fnOf "__init__" "Sealer.__init__" (defArgs s___init__) (defBody s___init__) (defScope s___init__) .none kV___init__ dc___init__ pm___init__ an___init__ cd___init__ ct___init__), sl___init__⟩)
    (c___init__ : PySem.W.codeIn K cd___init__ "Sealer.__init__" = true)
    (k___init__ : PySem.W.keepIn K (.ref f___init__) = true)
    (l_block_size : K.lookup f_block_size = some ⟨oc_block_size, od_block_size, .func (PySem.W.fnOf "block_size" "Sealer.block_size" (defArgs s_block_size) (defBody s_block_size) (defScope s_block_size) .none kV_block_size dc_block_size pm_block_size an_block_size cd_block_size ct_block_size), sl_block_size⟩)
    (c_block_size : PySem.W.codeIn K cd_block_size "Sealer.block_size" = true)
    (k_block_size : PySem.W.keepIn K (.ref f_block_size) = true)
    (l_take_key : K.lookup f_take_key = some ⟨oc_take_key, od_take_key, .func (PySem.W.fnOf "take_key" "Sealer.take_key" (defArgs s_take_key) (defBody s_take_key) (defScope s_take_key) .none kV_take_key dc_take_key pm_take_key an_take_key cd_take_key ct_take_key), sl_take_key⟩)
    (c_take_key : PySem.W.codeIn K cd_take_key "Sealer.take_key" = true)
    (k_take_key : PySem.W.keepIn K (.ref f_take_key) = true)
    (l_take_start : K.lookup f_take_start = some ⟨oc_take_start, od_take_start, .func (PySem.W.fnOf "take_start" "Sealer.take_start" (defArgs s_take_start) (defBody s_take_start) (defScope s_take_start) .none kV_take_start dc_take_start pm_take_start an_take_start cd_take_start ct_take_start), sl_take_start⟩)
    (c_take_start : PySem.W.codeIn K cd_take_start "Sealer.take_start" = true)
    (k_take_start : PySem.W.keepIn K (.ref f_take_start) = true)
    (l_run_blocks : K.lookup f_run_blocks = some ⟨oc_run_blocks, od_run_blocks, .func (PySem.W.fnOf "run_blocks" "Sealer.run_blocks" (defArgs s_run_blocks) (defBody s_run_blocks) (defScope s_run_blocks) .none kV_run_blocks dc_run_blocks pm_run_blocks an_run_blocks cd_run_blocks ct_run_blocks), sl_run_blocks⟩)
    (c_run_blocks : PySem.W.codeIn K cd_run_blocks "Sealer.run_blocks" = true)
    (k_run_blocks : PySem.W.keepIn K (.ref f_run_blocks) = true)
    (l_run_block : K.lookup f_run_block = some ⟨oc_run_block, od_run_block, .func (PySem.W.fnOf "run_block" "Sealer.run_block" (defArgs s_run_block) (defBody s_run_block) (defScope s_run_block) .none kV_run_block dc_run_block pm_run_block an_run_block cd_run_block ct_run_block), sl_run_block⟩)
    (c_run_block : PySem.W.codeIn K cd_run_block "Sealer.run_block" = true)
    (k_run_block : PySem.W.keepIn K (.ref f_run_block) = true)
    (l_sealed : K.lookup f_sealed = some ⟨oc_sealed, od_sealed, .func (PySem.W.fnOf "sealed" "Sealer.sealed" (defArgs s_sealed) (defBody s_sealed) (defScope s_sealed) .none kV_sealed dc_sealed pm_sealed an_sealed cd_sealed ct_sealed), sl_sealed⟩)
    (c_sealed : PySem.W.codeIn K cd_sealed "Sealer.sealed" = true)
    (k_sealed : PySem.W.keepIn K (.ref f_sealed) = true)
    (l_unsealed : K.lookup f_unsealed = some ⟨oc_unsealed, od_unsealed, .func (PySem.W.fnOf "unsealed" "Sealer.unsealed" (defArgs s_unsealed) (defBody s_unsealed) (defScope s_unsealed) .none kV_unsealed dc_unsealed pm_unsealed an_unsealed cd_unsealed ct_unsealed), sl_unsealed⟩)
    (c_unsealed : PySem.W.codeIn K cd_unsealed "Sealer.unsealed" = true)
    (k_unsealed : PySem.W.keepIn K (.ref f_unsealed) = true)
    (l_worked : K.lookup f_worked = some ⟨oc_worked, od_worked, .func (PySem.W.fnOf "worked" "Sealer.worked" (defArgs s_worked) (defBody s_worked) (defScope s_worked) .none kV_worked dc_worked pm_worked an_worked cd_worked ct_worked), sl_worked⟩)
    (c_worked : PySem.W.codeIn K cd_worked "Sealer.worked" = true)
    (k_worked : PySem.W.keepIn K (.ref f_worked) = true)
    (l_call_end : K.lookup f_call_end = some ⟨oc_call_end, od_call_end, .func (PySem.W.fnOf "call_end" "call_end" (defArgs s_call_end) (defBody s_call_end) (defScope s_call_end) .none kV_call_end dc_call_end pm_call_end an_call_end cd_call_end ct_call_end), sl_call_end⟩)
    (c_call_end : PySem.W.codeIn K cd_call_end "call_end" = true)
    (k_call_end : PySem.W.keepIn K (.ref f_call_end) = true)
    (l_call_answer : K.lookup f_call_answer = some ⟨oc_call_answer, od_call_answer, .func (PySem.W.fnOf "call_answer" "call_answer" (defArgs s_call_answer) (defBody s_call_answer) (defScope s_call_answer) .none kV_call_answer dc_call_answer pm_call_answer an_call_answer cd_call_answer ct_call_answer), sl_call_answer⟩)
    (c_call_answer : PySem.W.codeIn K cd_call_answer "call_answer" = true)
    (k_call_answer : PySem.W.keepIn K (.ref f_call_answer) = true)
    (l_answers : K.lookup f_answers = some ⟨oc_answers, od_answers, .func (PySem.W.fnOf "answers" "answers" (defArgs s_answers) (defBody s_answers) (defScope s_answers) .none kV_answers dc_answers pm_answers an_answers cd_answers ct_answers), sl_answers⟩)
    (c_answers : PySem.W.codeIn K cd_answers "answers" = true)
    (k_answers : PySem.W.keepIn K (.ref f_answers) = true)
    (n_CK_KEY : PySem.W.nsIn K mainGlobals "CK_KEY" = some (some (.int 1 tk_CK_KEY)))
    (n_CK_START : PySem.W.nsIn K mainGlobals "CK_START" = some (some (.int 2 tk_CK_START)))
    (n_CK_RUN : PySem.W.nsIn K mainGlobals "CK_RUN" = some (some (.int 3 tk_CK_RUN)))
    (n_CK_BLOCK : PySem.W.nsIn K mainGlobals "CK_BLOCK" = some (some (.int 4 tk_CK_BLOCK)))
    (n_LARGEST_RUN : PySem.W.nsIn K mainGlobals "LARGEST_RUN" = some (some (.int 16777216 tk_LARGEST_RUN)))
    (n_TWO_16 : PySem.W.nsIn K mainGlobals "TWO_16" = some (some (.int 65536 tk_TWO_16)))
    (n_TWO_32 : PySem.W.nsIn K mainGlobals "TWO_32" = some (some (.int 4294967296 tk_TWO_32)))
    (n_TWO_64 : PySem.W.nsIn K mainGlobals "TWO_64" = some (some (.int 18446744073709551616 tk_TWO_64)))
    (n_GOLDEN : PySem.W.nsIn K mainGlobals "GOLDEN" = some (some (.int 2654435769 tk_GOLDEN)))
    (g_COUNT_PLACES : PySem.W.nsIn K mainGlobals "COUNT_PLACES" = some (some (.ref t_COUNT_PLACES)))
    (g_BLOCK_SIZES : PySem.W.nsIn K mainGlobals "BLOCK_SIZES" = some (some (.ref t_BLOCK_SIZES)))
    (g_WORD_BITS : PySem.W.nsIn K mainGlobals "WORD_BITS" = some (some (.ref t_WORD_BITS)))
    (g_REGROUPS : PySem.W.nsIn K mainGlobals "REGROUPS" = some (some (.ref t_REGROUPS)))
    (g_SPREADS : PySem.W.nsIn K mainGlobals "SPREADS" = some (some (.ref t_SPREADS)))
    (g_SEALS : PySem.W.nsIn K mainGlobals "SEALS" = some (some (.ref t_SEALS)))
    (g_UNSEALS : PySem.W.nsIn K mainGlobals "UNSEALS" = some (some (.ref t_UNSEALS)))
    (g_THREEFISH_TURNS : PySem.W.nsIn K mainGlobals "THREEFISH_TURNS" = some (some (.ref t_THREEFISH_TURNS)))
    (q_COUNT_PLACES : K.lookup t_COUNT_PLACES = some ⟨.type "tuple", od_COUNT_PLACES, .seq #[.int 0 tk_COUNT_PLACES_0, .int 2 tk_COUNT_PLACES_1, .int 1 tk_COUNT_PLACES_2, .int 3 tk_COUNT_PLACES_3] nn_COUNT_PLACES, sl_COUNT_PLACES⟩)
    (q_BLOCK_SIZES : K.lookup t_BLOCK_SIZES = some ⟨.type "tuple", od_BLOCK_SIZES, .seq #[.int 8 tk_BLOCK_SIZES_0, .int 8 tk_BLOCK_SIZES_1, .int 8 tk_BLOCK_SIZES_2, .int 16 tk_BLOCK_SIZES_3, .int 16 tk_BLOCK_SIZES_4, .int 32 tk_BLOCK_SIZES_5] nn_BLOCK_SIZES, sl_BLOCK_SIZES⟩)
    (q_WORD_BITS : K.lookup t_WORD_BITS = some ⟨.type "tuple", od_WORD_BITS, .seq #[.int 16 tk_WORD_BITS_0, .int 32 tk_WORD_BITS_1, .int 32 tk_WORD_BITS_2, .int 32 tk_WORD_BITS_3, .int 64 tk_WORD_BITS_4, .int 64 tk_WORD_BITS_5] nn_WORD_BITS, sl_WORD_BITS⟩)
    (q_REGROUPS : K.lookup t_REGROUPS = some ⟨.type "tuple", od_REGROUPS, .seq #[.ref f_highest_first, .ref f_highest_first, .ref f_lowest_first, .ref f_lowest_first, .ref f_lowest_first, .ref f_lowest_first] nn_REGROUPS, sl_REGROUPS⟩)
    (q_SPREADS : K.lookup t_SPREADS = some ⟨.type "tuple", od_SPREADS, .seq #[.ref f_idea_spread, .ref f_xtea_spread, .ref f_rc5_spread, .ref f_rc6_spread, .ref f_speck_spread, .ref f_threefish_spread] nn_SPREADS, sl_SPREADS⟩)
    (q_SEALS : K.lookup t_SEALS = some ⟨.type "tuple", od_SEALS, .seq #[.ref f_idea_seal, .ref f_xtea_seal, .ref f_rc5_seal, .ref f_rc6_seal, .ref f_speck_seal, .ref f_threefish_seal] nn_SEALS, sl_SEALS⟩)
    (q_UNSEALS : K.lookup t_UNSEALS = some ⟨.type "tuple", od_UNSEALS, .seq #[.ref f_idea_unseal, .ref f_xtea_unseal, .ref f_rc5_unseal, .ref f_rc6_unseal, .ref f_speck_unseal, .ref f_threefish_unseal] nn_UNSEALS, sl_UNSEALS⟩)
    (q_THREEFISH_TURNS : K.lookup t_THREEFISH_TURNS = some ⟨.type "tuple", od_THREEFISH_TURNS, .seq #[.ref tt0, .ref tt1, .ref tt2, .ref tt3, .ref tt4, .ref tt5, .ref tt6, .ref tt7] nn_THREEFISH_TURNS, sl_THREEFISH_TURNS⟩)
    (q_tt0 : K.lookup tt0 = some ⟨.type "tuple", od_tt0, .seq #[.int 14 tk_tt0_0, .int 16 tk_tt0_1] nn_tt0, sl_tt0⟩)
    (q_tt1 : K.lookup tt1 = some ⟨.type "tuple", od_tt1, .seq #[.int 52 tk_tt1_0, .int 57 tk_tt1_1] nn_tt1, sl_tt1⟩)
    (q_tt2 : K.lookup tt2 = some ⟨.type "tuple", od_tt2, .seq #[.int 23 tk_tt2_0, .int 40 tk_tt2_1] nn_tt2, sl_tt2⟩)
    (q_tt3 : K.lookup tt3 = some ⟨.type "tuple", od_tt3, .seq #[.int 5 tk_tt3_0, .int 37 tk_tt3_1] nn_tt3, sl_tt3⟩)
    (q_tt4 : K.lookup tt4 = some ⟨.type "tuple", od_tt4, .seq #[.int 25 tk_tt4_0, .int 33 tk_tt4_1] nn_tt4, sl_tt4⟩)
    (q_tt5 : K.lookup tt5 = some ⟨.type "tuple", od_tt5, .seq #[.int 46 tk_tt5_0, .int 12 tk_tt5_1] nn_tt5, sl_tt5⟩)
    (q_tt6 : K.lookup tt6 = some ⟨.type "tuple", od_tt6, .seq #[.int 58 tk_tt6_0, .int 22 tk_tt6_1] nn_tt6, sl_tt6⟩)
    (q_tt7 : K.lookup tt7 = some ⟨.type "tuple", od_tt7, .seq #[.int 32 tk_tt7_0, .int 32 tk_tt7_1] nn_tt7, sl_tt7⟩)
    (m_range : PySem.W.nsIn K mainGlobals "range" = some none)
    (m_len : PySem.W.nsIn K mainGlobals "len" = some none)
    (m_list : PySem.W.nsIn K mainGlobals "list" = some none)
    (m_reversed : PySem.W.nsIn K mainGlobals "reversed" = some none)
    (m_zip : PySem.W.nsIn K mainGlobals "zip" = some none)
    (m_enumerate : PySem.W.nsIn K mainGlobals "enumerate" = some none)
    (pg : PySem.W.plainGet K C Str.empty = true)
    (hd : PySem.W.hasDictIn K C = true)
    (po : PySem.W.plainOver K C = true)
    (sa : PySem.W.findIn K (.ref C) "__setattr__" = some (some (.builtin "object.__setattr__")))
    (mkk : PySem.W.makesIn K C = true)
    (kc : PySem.W.keepIn K (.ref C) = true)
    (na_cipher : PySem.W.findIn K (.ref C) "cipher" = some none)
    (na_schedule : PySem.W.findIn K (.ref C) "schedule" = some none)
    (na_standing : PySem.W.findIn K (.ref C) "standing" = some none) :
    ∃ fd : FuncData, (∀ (s : Shared) (us : List Value), us.length = (["calls"] : List Str).length → BindsTo s fd ⟨us, []⟩ ((["calls"] : List Str).zip us)) ∧ ∀ base : Heap, K.In base → base.Ns mainGlobals mg → FnOk P w K mg base CX0 10 fa fd ["calls"] (spAns K) := by
  have e := hfa.symm.trans (PySem.W.mg_of X G a_answers)
  cases e
  have F_number_from := fun_mk (st := s_number_from) l_number_from c_number_from k_number_from
  have b_number_from := F_number_from.binds (ps := ["row", "bits"]) fun _ _ _ _ _ _ us hl => match us, hl with | [_, _], _ => rfl
  have F_row_from := fun_mk (st := s_row_from) l_row_from c_row_from k_row_from
  have b_row_from := F_row_from.binds (ps := ["number", "count", "bits"]) fun _ _ _ _ _ _ us hl => match us, hl with | [_, _, _], _ => rfl
  have F_highest_first := fun_mk (st := s_highest_first) l_highest_first c_highest_first k_highest_first
  have b_highest_first := F_highest_first.binds (ps := ["row", "bits", "new_bits"]) fun _ _ _ _ _ _ us hl => match us, hl with | [_, _, _], _ => rfl
  have F_lowest_first := fun_mk (st := s_lowest_first) l_lowest_first c_lowest_first k_lowest_first
  have b_lowest_first := F_lowest_first.binds (ps := ["row", "bits", "new_bits"]) fun _ _ _ _ _ _ us hl => match us, hl with | [_, _, _], _ => rfl
  have F_exclusive_or := fun_mk (st := s_exclusive_or) l_exclusive_or c_exclusive_or k_exclusive_or
  have b_exclusive_or := F_exclusive_or.binds (ps := ["row", "other"]) fun _ _ _ _ _ _ us hl => match us, hl with | [_, _], _ => rfl
  have F_turned_left := fun_mk (st := s_turned_left) l_turned_left c_turned_left k_turned_left
  have b_turned_left := F_turned_left.binds (ps := ["x", "k", "bits"]) fun _ _ _ _ _ _ us hl => match us, hl with | [_, _, _], _ => rfl
  have F_turned_right := fun_mk (st := s_turned_right) l_turned_right c_turned_right k_turned_right
  have b_turned_right := F_turned_right.binds (ps := ["x", "k", "bits"]) fun _ _ _ _ _ _ us hl => match us, hl with | [_, _, _], _ => rfl
  have F_idea_product := fun_mk (st := s_idea_product) l_idea_product c_idea_product k_idea_product
  have b_idea_product := F_idea_product.binds (ps := ["x", "y"]) fun _ _ _ _ _ _ us hl => match us, hl with | [_, _], _ => rfl
  have F_idea_inverse := fun_mk (st := s_idea_inverse) l_idea_inverse c_idea_inverse k_idea_inverse
  have b_idea_inverse := F_idea_inverse.binds (ps := ["x"]) fun _ _ _ _ _ _ us hl => match us, hl with | [_], _ => rfl
  have F_idea_undoing := fun_mk (st := s_idea_undoing) l_idea_undoing c_idea_undoing k_idea_undoing
  have b_idea_undoing := F_idea_undoing.binds (ps := ["keys"]) fun _ _ _ _ _ _ us hl => match us, hl with | [_], _ => rfl
  have F_idea_spread := fun_mk (st := s_idea_spread) l_idea_spread c_idea_spread k_idea_spread
  have b_idea_spread := F_idea_spread.binds (ps := ["key"]) fun _ _ _ _ _ _ us hl => match us, hl with | [_], _ => rfl
  have F_idea_keyed := fun_mk (st := s_idea_keyed) l_idea_keyed c_idea_keyed k_idea_keyed
  have b_idea_keyed := F_idea_keyed.binds (ps := ["words", "k"]) fun _ _ _ _ _ _ us hl => match us, hl with | [_, _], _ => rfl
  have F_idea_mixed := fun_mk (st := s_idea_mixed) l_idea_mixed c_idea_mixed k_idea_mixed
  have b_idea_mixed := F_idea_mixed.binds (ps := ["words", "k"]) fun _ _ _ _ _ _ us hl => match us, hl with | [_, _], _ => rfl
  have F_idea_swapped := fun_mk (st := s_idea_swapped) l_idea_swapped c_idea_swapped k_idea_swapped
  have b_idea_swapped := F_idea_swapped.binds (ps := ["words"]) fun _ _ _ _ _ _ us hl => match us, hl with | [_], _ => rfl
  have F_idea_seal := fun_mk (st := s_idea_seal) l_idea_seal c_idea_seal k_idea_seal
  have b_idea_seal := F_idea_seal.binds (ps := ["words", "schedule"]) fun _ _ _ _ _ _ us hl => match us, hl with | [_, _], _ => rfl
  have F_idea_unseal := fun_mk (st := s_idea_unseal) l_idea_unseal c_idea_unseal k_idea_unseal
  have b_idea_unseal := F_idea_unseal.binds (ps := ["words", "schedule"]) fun _ _ _ _ _ _ us hl => match us, hl with | [_, _], _ => rfl
  have F_xtea_spread := fun_mk (st := s_xtea_spread) l_xtea_spread c_xtea_spread k_xtea_spread
  have b_xtea_spread := F_xtea_spread.binds (ps := ["key"]) fun _ _ _ _ _ _ us hl => match us, hl with | [_], _ => rfl
  have F_xtea_mixed := fun_mk (st := s_xtea_mixed) l_xtea_mixed c_xtea_mixed k_xtea_mixed
  have b_xtea_mixed := F_xtea_mixed.binds (ps := ["v", "keyed_sum"]) fun _ _ _ _ _ _ us hl => match us, hl with | [_, _], _ => rfl
  have F_xtea_seal := fun_mk (st := s_xtea_seal) l_xtea_seal c_xtea_seal k_xtea_seal
  have b_xtea_seal := F_xtea_seal.binds (ps := ["words", "sums"]) fun _ _ _ _ _ _ us hl => match us, hl with | [_, _], _ => rfl
  have F_xtea_unseal := fun_mk (st := s_xtea_unseal) l_xtea_unseal c_xtea_unseal k_xtea_unseal
  have b_xtea_unseal := F_xtea_unseal.binds (ps := ["words", "sums"]) fun _ _ _ _ _ _ us hl => match us, hl with | [_, _], _ => rfl
  have F_rc_spread := fun_mk (st := s_rc_spread) l_rc_spread c_rc_spread k_rc_spread
  have b_rc_spread := F_rc_spread.binds (ps := ["key", "t"]) fun _ _ _ _ _ _ us hl => match us, hl with | [_, _], _ => rfl
  have F_rc5_spread := fun_mk (st := s_rc5_spread) l_rc5_spread c_rc5_spread k_rc5_spread
  have b_rc5_spread := F_rc5_spread.binds (ps := ["key"]) fun _ _ _ _ _ _ us hl => match us, hl with | [_], _ => rfl
  have F_rc5_seal := fun_mk (st := s_rc5_seal) l_rc5_seal c_rc5_seal k_rc5_seal
  have b_rc5_seal := F_rc5_seal.binds (ps := ["words", "s"]) fun _ _ _ _ _ _ us hl => match us, hl with | [_, _], _ => rfl
  have F_rc5_unseal := fun_mk (st := s_rc5_unseal) l_rc5_unseal c_rc5_unseal k_rc5_unseal
  have b_rc5_unseal := F_rc5_unseal.binds (ps := ["words", "s"]) fun _ _ _ _ _ _ us hl => match us, hl with | [_, _], _ => rfl
  have F_rc6_spread := fun_mk (st := s_rc6_spread) l_rc6_spread c_rc6_spread k_rc6_spread
  have b_rc6_spread := F_rc6_spread.binds (ps := ["key"]) fun _ _ _ _ _ _ us hl => match us, hl with | [_], _ => rfl
  have F_rc6_turned := fun_mk (st := s_rc6_turned) l_rc6_turned c_rc6_turned k_rc6_turned
  have b_rc6_turned := F_rc6_turned.binds (ps := ["x"]) fun _ _ _ _ _ _ us hl => match us, hl with | [_], _ => rfl
  have F_rc6_round := fun_mk (st := s_rc6_round) l_rc6_round c_rc6_round k_rc6_round
  have b_rc6_round := F_rc6_round.binds (ps := ["words", "k0", "k1"]) fun _ _ _ _ _ _ us hl => match us, hl with | [_, _, _], _ => rfl
  have F_rc6_unround := fun_mk (st := s_rc6_unround) l_rc6_unround c_rc6_unround k_rc6_unround
  have b_rc6_unround := F_rc6_unround.binds (ps := ["words", "k0", "k1"]) fun _ _ _ _ _ _ us hl => match us, hl with | [_, _, _], _ => rfl
  have F_rc6_seal := fun_mk (st := s_rc6_seal) l_rc6_seal c_rc6_seal k_rc6_seal
  have b_rc6_seal := F_rc6_seal.binds (ps := ["words", "s"]) fun _ _ _ _ _ _ us hl => match us, hl with | [_, _], _ => rfl
  have F_rc6_unseal := fun_mk (st := s_rc6_unseal) l_rc6_unseal c_rc6_unseal k_rc6_unseal
  have b_rc6_unseal := F_rc6_unseal.binds (ps := ["words", "s"]) fun _ _ _ _ _ _ us hl => match us, hl with | [_, _], _ => rfl
  have F_speck_round := fun_mk (st := s_speck_round) l_speck_round c_speck_round k_speck_round
  have b_speck_round := F_speck_round.binds (ps := ["words", "k"]) fun _ _ _ _ _ _ us hl => match us, hl with | [_, _], _ => rfl
  have F_speck_spread := fun_mk (st := s_speck_spread) l_speck_spread c_speck_spread k_speck_spread
  have b_speck_spread := F_speck_spread.binds (ps := ["key"]) fun _ _ _ _ _ _ us hl => match us, hl with | [_], _ => rfl
  have F_speck_seal := fun_mk (st := s_speck_seal) l_speck_seal c_speck_seal k_speck_seal
  have b_speck_seal := F_speck_seal.binds (ps := ["words", "keys"]) fun _ _ _ _ _ _ us hl => match us, hl with | [_, _], _ => rfl
  have F_speck_unseal := fun_mk (st := s_speck_unseal) l_speck_unseal c_speck_unseal k_speck_unseal
  have b_speck_unseal := F_speck_unseal.binds (ps := ["words", "keys"]) fun _ _ _ _ _ _ us hl => match us, hl with | [_, _], _ => rfl
  have F_threefish_sum := fun_mk (st := s_threefish_sum) l_threefish_sum c_threefish_sum k_threefish_sum
  have b_threefish_sum := F_threefish_sum.binds (ps := ["words", "keys"]) fun _ _ _ _ _ _ us hl => match us, hl with | [_, _], _ => rfl
  have F_threefish_difference := fun_mk (st := s_threefish_difference) l_threefish_difference c_threefish_difference k_threefish_difference
  have b_threefish_difference := F_threefish_difference.binds (ps := ["words", "keys"]) fun _ _ _ _ _ _ us hl => match us, hl with | [_, _], _ => rfl
  have F_threefish_spread := fun_mk (st := s_threefish_spread) l_threefish_spread c_threefish_spread k_threefish_spread
  have b_threefish_spread := F_threefish_spread.binds (ps := ["key"]) fun _ _ _ _ _ _ us hl => match us, hl with | [_], _ => rfl
  have F_threefish_round := fun_mk (st := s_threefish_round) l_threefish_round c_threefish_round k_threefish_round
  have b_threefish_round := F_threefish_round.binds (ps := ["words", "turns"]) fun _ _ _ _ _ _ us hl => match us, hl with | [_, _], _ => rfl
  have F_threefish_unround := fun_mk (st := s_threefish_unround) l_threefish_unround c_threefish_unround k_threefish_unround
  have b_threefish_unround := F_threefish_unround.binds (ps := ["words", "turns"]) fun _ _ _ _ _ _ us hl => match us, hl with | [_, _], _ => rfl
  have F_threefish_seal := fun_mk (st := s_threefish_seal) l_threefish_seal c_threefish_seal k_threefish_seal
  have b_threefish_seal := F_threefish_seal.binds (ps := ["words", "schedule"]) fun _ _ _ _ _ _ us hl => match us, hl with | [_, _], _ => rfl
  have F_threefish_unseal := fun_mk (st := s_threefish_unseal) l_threefish_unseal c_threefish_unseal k_threefish_unseal
  have b_threefish_unseal := F_threefish_unseal.binds (ps := ["words", "schedule"]) fun _ _ _ _ _ _ us hl => match us, hl with | [_, _], _ => rfl
  have F___init__ := fun_mk (st := s___init__) l___init__ c___init__ k___init__
  have b___init__ := F___init__.binds (ps := ["self"]) fun _ _ _ _ _ _ us hl => match us, hl with | [_], _ => rfl
  have F_block_size := fun_mk (st := s_block_size) l_block_size c_block_size k_block_size
  have b_block_size := F_block_size.binds (ps := ["self"]) fun _ _ _ _ _ _ us hl => match us, hl with | [_], _ => rfl
  have F_take_key := fun_mk (st := s_take_key) l_take_key c_take_key k_take_key
  have b_take_key := F_take_key.binds (ps := ["self", "cipher", "key"]) fun _ _ _ _ _ _ us hl => match us, hl with | [_, _, _], _ => rfl
  have F_take_start := fun_mk (st := s_take_start) l_take_start c_take_start k_take_start
  have b_take_start := F_take_start.binds (ps := ["self", "iv"]) fun _ _ _ _ _ _ us hl => match us, hl with | [_, _], _ => rfl
  have F_run_blocks := fun_mk (st := s_run_blocks) l_run_blocks c_run_blocks k_run_blocks
  have b_run_blocks := F_run_blocks.binds (ps := ["self", "way", "n", "data"]) fun _ _ _ _ _ _ us hl => match us, hl with | [_, _, _, _], _ => rfl
  have F_run_block := fun_mk (st := s_run_block) l_run_block c_run_block k_run_block
  have b_run_block := F_run_block.binds (ps := ["self", "way", "block"]) fun _ _ _ _ _ _ us hl => match us, hl with | [_, _, _], _ => rfl
  have F_sealed := fun_mk (st := s_sealed) l_sealed c_sealed k_sealed
  have b_sealed := F_sealed.binds (ps := ["self", "block"]) fun _ _ _ _ _ _ us hl => match us, hl with | [_, _], _ => rfl
  have F_unsealed := fun_mk (st := s_unsealed) l_unsealed c_unsealed k_unsealed
  have b_unsealed := F_unsealed.binds (ps := ["self", "block"]) fun _ _ _ _ _ _ us hl => match us, hl with | [_, _], _ => rfl
  have F_worked := fun_mk (st := s_worked) l_worked c_worked k_worked
  have b_worked := F_worked.binds (ps := ["self", "work", "block"]) fun _ _ _ _ _ _ us hl => match us, hl with | [_, _, _], _ => rfl
  have F_call_end := fun_mk (st := s_call_end) l_call_end c_call_end k_call_end
  have b_call_end := F_call_end.binds (ps := ["calls", "at"]) fun _ _ _ _ _ _ us hl => match us, hl with | [_, _], _ => rfl
  have F_call_answer := fun_mk (st := s_call_answer) l_call_answer c_call_answer k_call_answer
  have b_call_answer := F_call_answer.binds (ps := ["sealer", "call"]) fun _ _ _ _ _ _ us hl => match us, hl with | [_, _], _ => rfl
  have F_answers := fun_mk (st := s_answers) l_answers c_answers k_answers
  have b_answers := F_answers.binds (ps := ["calls"]) fun _ _ _ _ _ _ us hl => match us, hl with | [_], _ => rfl
  have T : Txt K mg { C := C, f_number_from := f_number_from, d_number_from := PySem.W.fnOf "number_from" "number_from" (defArgs s_number_from) (defBody s_number_from) (defScope s_number_from) .none kV_number_from dc_number_from pm_number_from an_number_from cd_number_from ct_number_from, f_row_from := f_row_from, d_row_from := PySem.W.fnOf "row_from" "row_from" (defArgs s_row_from) (defBody s_row_from) (defScope s_row_from) .none kV_row_from dc_row_from pm_row_from an_row_from cd_row_from ct_row_from, f_highest_first := f_highest_first, d_highest_first := PySem.W.fnOf "highest_first" "highest_first" (defArgs s_highest_first) (defBody s_highest_first) (defScope s_highest_first) .none kV_highest_first dc_highest_first pm_highest_first an_highest_first cd_highest_first ct_highest_first, f_lowest_first := f_lowest_first, d_lowest_first := PySem.W.fnOf "lowest_first" "lowest_first" (defArgs s_lowest_first) (defBody s_lowest_first) (defScope s_lowest_first) .none kV_lowest_first dc_lowest_first pm_lowest_first an_lowest_first cd_lowest_first ct_lowest_first, f_exclusive_or := f_exclusive_or, d_exclusive_or := PySem.W.fnOf "exclusive_or" "exclusive_or" (defArgs s_exclusive_or) (defBody s_exclusive_or) (defScope s_exclusive_or) .none kV_exclusive_or dc_exclusive_or pm_exclusive_or an_exclusive_or cd_exclusive_or ct_exclusive_or, f_turned_left := f_turned_left, d_turned_left := PySem.W.fnOf "turned_left" "turned_left" (defArgs s_turned_left) (defBody s_turned_left) (defScope s_turned_left) .none kV_turned_left dc_turned_left pm_turned_left an_turned_left cd_turned_left ct_turned_left, f_turned_right := f_turned_right, d_turned_right := PySem.W.fnOf "turned_right" "turned_right" (defArgs s_turned_right) (defBody s_turned_right) (defScope s_turned_right) .none kV_turned_right dc_turned_right pm_turned_right an_turned_right cd_turned_right ct_turned_right, f_idea_product := f_idea_product, d_idea_product := PySem.W.fnOf "idea_product" "idea_product" (defArgs s_idea_product) (defBody s_idea_product) (defScope s_idea_product) .none kV_idea_product dc_idea_product pm_idea_product an_idea_product cd_idea_product ct_idea_product, f_idea_inverse := f_idea_inverse, d_idea_inverse := PySem.W.fnOf "idea_inverse" "idea_inverse" (defArgs s_idea_inverse) (defBody s_idea_inverse) (defScope s_idea_inverse) .none kV_idea_inverse dc_idea_inverse pm_idea_inverse an_idea_inverse cd_idea_inverse ct_idea_inverse, f_idea_undoing := f_idea_undoing, d_idea_undoing := PySem.W.fnOf "idea_undoing" "idea_undoing" (defArgs s_idea_undoing) (defBody s_idea_undoing) (defScope s_idea_undoing) .none kV_idea_undoing dc_idea_undoing pm_idea_undoing an_idea_undoing cd_idea_undoing ct_idea_undoing, f_idea_spread := f_idea_spread, d_idea_spread := PySem.W.fnOf "idea_spread" "idea_spread" (defArgs s_idea_spread) (defBody s_idea_spread) (defScope s_idea_spread) .none kV_idea_spread dc_idea_spread pm_idea_spread an_idea_spread cd_idea_spread ct_idea_spread, f_idea_keyed := f_idea_keyed, d_idea_keyed := PySem.W.fnOf "idea_keyed" "idea_keyed" (defArgs s_idea_keyed) (defBody s_idea_keyed) (defScope s_idea_keyed) .none kV_idea_keyed dc_idea_keyed pm_idea_keyed an_idea_keyed cd_idea_keyed ct_idea_keyed, f_idea_mixed := f_idea_mixed, d_idea_mixed := PySem.W.fnOf "idea_mixed" "idea_mixed" (defArgs s_idea_mixed) (defBody s_idea_mixed) (defScope s_idea_mixed) .none kV_idea_mixed dc_idea_mixed pm_idea_mixed an_idea_mixed cd_idea_mixed ct_idea_mixed, f_idea_swapped := f_idea_swapped, d_idea_swapped := PySem.W.fnOf "idea_swapped" "idea_swapped" (defArgs s_idea_swapped) (defBody s_idea_swapped) (defScope s_idea_swapped) .none kV_idea_swapped dc_idea_swapped pm_idea_swapped an_idea_swapped cd_idea_swapped ct_idea_swapped, f_idea_seal := f_idea_seal, d_idea_seal := PySem.W.fnOf "idea_seal" "idea_seal" (defArgs s_idea_seal) (defBody s_idea_seal) (defScope s_idea_seal) .none kV_idea_seal dc_idea_seal pm_idea_seal an_idea_seal cd_idea_seal ct_idea_seal, f_idea_unseal := f_idea_unseal, d_idea_unseal := PySem.W.fnOf "idea_unseal" "idea_unseal" (defArgs s_idea_unseal) (defBody s_idea_unseal) (defScope s_idea_unseal) .none kV_idea_unseal dc_idea_unseal pm_idea_unseal an_idea_unseal cd_idea_unseal ct_idea_unseal, f_xtea_spread := f_xtea_spread, d_xtea_spread := PySem.W.fnOf "xtea_spread" "xtea_spread" (defArgs s_xtea_spread) (defBody s_xtea_spread) (defScope s_xtea_spread) .none kV_xtea_spread dc_xtea_spread pm_xtea_spread an_xtea_spread cd_xtea_spread ct_xtea_spread, f_xtea_mixed := f_xtea_mixed, d_xtea_mixed := PySem.W.fnOf "xtea_mixed" "xtea_mixed" (defArgs s_xtea_mixed) (defBody s_xtea_mixed) (defScope s_xtea_mixed) .none kV_xtea_mixed dc_xtea_mixed pm_xtea_mixed an_xtea_mixed cd_xtea_mixed ct_xtea_mixed, f_xtea_seal := f_xtea_seal, d_xtea_seal := PySem.W.fnOf "xtea_seal" "xtea_seal" (defArgs s_xtea_seal) (defBody s_xtea_seal) (defScope s_xtea_seal) .none kV_xtea_seal dc_xtea_seal pm_xtea_seal an_xtea_seal cd_xtea_seal ct_xtea_seal, f_xtea_unseal := f_xtea_unseal, d_xtea_unseal := PySem.W.fnOf "xtea_unseal" "xtea_unseal" (defArgs s_xtea_unseal) (defBody s_xtea_unseal) (defScope s_xtea_unseal) .none kV_xtea_unseal dc_xtea_unseal pm_xtea_unseal an_xtea_unseal cd_xtea_unseal ct_xtea_unseal, f_rc_spread := f_rc_spread, d_rc_spread := PySem.W.fnOf "rc_spread" "rc_spread" (defArgs s_rc_spread) (defBody s_rc_spread) (defScope s_rc_spread) .none kV_rc_spread dc_rc_spread pm_rc_spread an_rc_spread cd_rc_spread ct_rc_spread, f_rc5_spread := f_rc5_spread, d_rc5_spread := PySem.W.fnOf "rc5_spread" "rc5_spread" (defArgs s_rc5_spread) (defBody s_rc5_spread) (defScope s_rc5_spread) .none kV_rc5_spread dc_rc5_spread pm_rc5_spread an_rc5_spread cd_rc5_spread ct_rc5_spread, f_rc5_seal := f_rc5_seal, d_rc5_seal := PySem.W.fnOf "rc5_seal" "rc5_seal" (defArgs s_rc5_seal) (defBody s_rc5_seal) (defScope s_rc5_seal) .none kV_rc5_seal dc_rc5_seal pm_rc5_seal an_rc5_seal cd_rc5_seal ct_rc5_seal, f_rc5_unseal := f_rc5_unseal, d_rc5_unseal := PySem.W.fnOf "rc5_unseal" "rc5_unseal" (defArgs s_rc5_unseal) (defBody s_rc5_unseal) (defScope s_rc5_unseal) .none kV_rc5_unseal dc_rc5_unseal pm_rc5_unseal an_rc5_unseal cd_rc5_unseal ct_rc5_unseal, f_rc6_spread := f_rc6_spread, d_rc6_spread := PySem.W.fnOf "rc6_spread" "rc6_spread" (defArgs s_rc6_spread) (defBody s_rc6_spread) (defScope s_rc6_spread) .none kV_rc6_spread dc_rc6_spread pm_rc6_spread an_rc6_spread cd_rc6_spread ct_rc6_spread, f_rc6_turned := f_rc6_turned, d_rc6_turned := PySem.W.fnOf "rc6_turned" "rc6_turned" (defArgs s_rc6_turned) (defBody s_rc6_turned) (defScope s_rc6_turned) .none kV_rc6_turned dc_rc6_turned pm_rc6_turned an_rc6_turned cd_rc6_turned ct_rc6_turned, f_rc6_round := f_rc6_round, d_rc6_round := PySem.W.fnOf "rc6_round" "rc6_round" (defArgs s_rc6_round) (defBody s_rc6_round) (defScope s_rc6_round) .none kV_rc6_round dc_rc6_round pm_rc6_round an_rc6_round cd_rc6_round ct_rc6_round, f_rc6_unround := f_rc6_unround, d_rc6_unround := PySem.W.fnOf "rc6_unround" "rc6_unround" (defArgs s_rc6_unround) (defBody s_rc6_unround) (defScope s_rc6_unround) .none kV_rc6_unround dc_rc6_unround pm_rc6_unround an_rc6_unround cd_rc6_unround ct_rc6_unround, f_rc6_seal := f_rc6_seal, d_rc6_seal := PySem.W.fnOf "rc6_seal" "rc6_seal" (defArgs s_rc6_seal) (defBody s_rc6_seal) (defScope s_rc6_seal) .none kV_rc6_seal dc_rc6_seal pm_rc6_seal an_rc6_seal cd_rc6_seal ct_rc6_seal, f_rc6_unseal := f_rc6_unseal, d_rc6_unseal := PySem.W.fnOf "rc6_unseal" "rc6_unseal" (defArgs s_rc6_unseal) (defBody s_rc6_unseal) (defScope s_rc6_unseal) .none kV_rc6_unseal dc_rc6_unseal pm_rc6_unseal an_rc6_unseal cd_rc6_unseal ct_rc6_unseal, f_speck_round := f_speck_round, d_speck_round := PySem.W.fnOf "speck_round" "speck_round" (defArgs s_speck_round) (defBody s_speck_round) (defScope s_speck_round) .none kV_speck_round dc_speck_round pm_speck_round an_speck_round cd_speck_round ct_speck_round, f_speck_spread := f_speck_spread, d_speck_spread := PySem.W.fnOf "speck_spread" "speck_spread" (defArgs s_speck_spread) (defBody s_speck_spread) (defScope s_speck_spread) .none kV_speck_spread dc_speck_spread pm_speck_spread an_speck_spread cd_speck_spread ct_speck_spread, f_speck_seal := f_speck_seal, d_speck_seal := PySem.W.fnOf "speck_seal" "speck_seal" (defArgs s_speck_seal) (defBody s_speck_seal) (defScope s_speck_seal) .none kV_speck_seal dc_speck_seal pm_speck_seal an_speck_seal cd_speck_seal ct_speck_seal, f_speck_unseal := f_speck_unseal, d_speck_unseal := PySem.W.fnOf "speck_unseal" "speck_unseal" (defArgs s_speck_unseal) (defBody s_speck_unseal) (defScope s_speck_unseal) .none kV_speck_unseal dc_speck_unseal pm_speck_unseal an_speck_unseal cd_speck_unseal ct_speck_unseal, f_threefish_sum := f_threefish_sum, d_threefish_sum := PySem.W.fnOf "threefish_sum" "threefish_sum" (defArgs s_threefish_sum) (defBody s_threefish_sum) (defScope s_threefish_sum) .none kV_threefish_sum dc_threefish_sum pm_threefish_sum an_threefish_sum cd_threefish_sum ct_threefish_sum, f_threefish_difference := f_threefish_difference, d_threefish_difference := PySem.W.fnOf "threefish_difference" "threefish_difference" (defArgs s_threefish_difference) (defBody s_threefish_difference) (defScope s_threefish_difference) .none kV_threefish_difference dc_threefish_difference pm_threefish_difference an_threefish_difference cd_threefish_difference ct_threefish_difference, f_threefish_spread := f_threefish_spread, d_threefish_spread := PySem.W.fnOf "threefish_spread" "threefish_spread" (defArgs s_threefish_spread) (defBody s_threefish_spread) (defScope s_threefish_spread) .none kV_threefish_spread dc_threefish_spread pm_threefish_spread an_threefish_spread cd_threefish_spread ct_threefish_spread, f_threefish_round := f_threefish_round, d_threefish_round := PySem.W.fnOf "threefish_round" "threefish_round" (defArgs s_threefish_round) (defBody s_threefish_round) (defScope s_threefish_round) .none kV_threefish_round dc_threefish_round pm_threefish_round an_threefish_round cd_threefish_round ct_threefish_round, f_threefish_unround := f_threefish_unround, d_threefish_unround := PySem.W.fnOf "threefish_unround" "threefish_unround" (defArgs s_threefish_unround) (defBody s_threefish_unround) (defScope s_threefish_unround) .none kV_threefish_unround dc_threefish_unround pm_threefish_unround an_threefish_unround cd_threefish_unround ct_threefish_unround, f_threefish_seal := f_threefish_seal, d_threefish_seal := PySem.W.fnOf "threefish_seal" "threefish_seal" (defArgs s_threefish_seal) (defBody s_threefish_seal) (defScope s_threefish_seal) .none kV_threefish_seal dc_threefish_seal pm_threefish_seal an_threefish_seal cd_threefish_seal ct_threefish_seal, f_threefish_unseal := f_threefish_unseal, d_threefish_unseal := PySem.W.fnOf "threefish_unseal" "threefish_unseal" (defArgs s_threefish_unseal) (defBody s_threefish_unseal) (defScope s_threefish_unseal) .none kV_threefish_unseal dc_threefish_unseal pm_threefish_unseal an_threefish_unseal cd_threefish_unseal ct_threefish_unseal, f___init__ := f___init__, d___init__ := PySem.W.fnOf "__init__" "Sealer.__init__" (defArgs s___init__) (defBody s___init__) (defScope s___init__) .none kV___init__ dc___init__ pm___init__ an___init__ cd___init__ ct___init__, f_block_size := f_block_size, d_block_size := PySem.W.fnOf "block_size" "Sealer.block_size" (defArgs s_block_size) (defBody s_block_size) (defScope s_block_size) .none kV_block_size dc_block_size pm_block_size an_block_size cd_block_size ct_block_size, f_take_key := f_take_key, d_take_key := PySem.W.fnOf "take_key" "Sealer.take_key" (defArgs s_take_key) (defBody s_take_key) (defScope s_take_key) .none kV_take_key dc_take_key pm_take_key an_take_key cd_take_key ct_take_key, f_take_start := f_take_start, d_take_start := PySem.W.fnOf "take_start" "Sealer.take_start" (defArgs s_take_start) (defBody s_take_start) (defScope s_take_start) .none kV_take_start dc_take_start pm_take_start an_take_start cd_take_start ct_take_start, f_run_blocks := f_run_blocks, d_run_blocks := PySem.W.fnOf "run_blocks" "Sealer.run_blocks" (defArgs s_run_blocks) (defBody s_run_blocks) (defScope s_run_blocks) .none kV_run_blocks dc_run_blocks pm_run_blocks an_run_blocks cd_run_blocks ct_run_blocks, f_run_block := f_run_block, d_run_block := PySem.W.fnOf "run_block" "Sealer.run_block" (defArgs s_run_block) (defBody s_run_block) (defScope s_run_block) .none kV_run_block dc_run_block pm_run_block an_run_block cd_run_block ct_run_block, f_sealed := f_sealed, d_sealed := PySem.W.fnOf "sealed" "Sealer.sealed" (defArgs s_sealed) (defBody s_sealed) (defScope s_sealed) .none kV_sealed dc_sealed pm_sealed an_sealed cd_sealed ct_sealed, f_unsealed := f_unsealed, d_unsealed := PySem.W.fnOf "unsealed" "Sealer.unsealed" (defArgs s_unsealed) (defBody s_unsealed) (defScope s_unsealed) .none kV_unsealed dc_unsealed pm_unsealed an_unsealed cd_unsealed ct_unsealed, f_worked := f_worked, d_worked := PySem.W.fnOf "worked" "Sealer.worked" (defArgs s_worked) (defBody s_worked) (defScope s_worked) .none kV_worked dc_worked pm_worked an_worked cd_worked ct_worked, f_call_end := f_call_end, d_call_end := PySem.W.fnOf "call_end" "call_end" (defArgs s_call_end) (defBody s_call_end) (defScope s_call_end) .none kV_call_end dc_call_end pm_call_end an_call_end cd_call_end ct_call_end, f_call_answer := f_call_answer, d_call_answer := PySem.W.fnOf "call_answer" "call_answer" (defArgs s_call_answer) (defBody s_call_answer) (defScope s_call_answer) .none kV_call_answer dc_call_answer pm_call_answer an_call_answer cd_call_answer ct_call_answer, f_answers := fa, d_answers := PySem.W.fnOf "answers" "answers" (defArgs s_answers) (defBody s_answers) (defScope s_answers) .none kV_answers dc_answers pm_answers an_answers cd_answers ct_answers, t_COUNT_PLACES := t_COUNT_PLACES, t_BLOCK_SIZES := t_BLOCK_SIZES, t_WORD_BITS := t_WORD_BITS, t_REGROUPS := t_REGROUPS, t_SPREADS := t_SPREADS, t_SEALS := t_SEALS, t_UNSEALS := t_UNSEALS, t_THREEFISH_TURNS := t_THREEFISH_TURNS, tt0 := tt0, tt1 := tt1, tt2 := tt2, tt3 := tt3, tt4 := tt4, tt5 := tt5, tt6 := tt6, tt7 := tt7 } := by
    exact {
      number_from := ⟨F_number_from, b_number_from, PySem.W.mg_of X G a_number_from⟩
      row_from := ⟨F_row_from, b_row_from, PySem.W.mg_of X G a_row_from⟩
      highest_first := ⟨F_highest_first, b_highest_first, PySem.W.mg_of X G a_highest_first⟩
      lowest_first := ⟨F_lowest_first, b_lowest_first, PySem.W.mg_of X G a_lowest_first⟩
      exclusive_or := ⟨F_exclusive_or, b_exclusive_or, PySem.W.mg_of X G a_exclusive_or⟩
      turned_left := ⟨F_turned_left, b_turned_left, PySem.W.mg_of X G a_turned_left⟩
      turned_right := ⟨F_turned_right, b_turned_right, PySem.W.mg_of X G a_turned_right⟩
      idea_product := ⟨F_idea_product, b_idea_product, PySem.W.mg_of X G a_idea_product⟩
      idea_inverse := ⟨F_idea_inverse, b_idea_inverse, PySem.W.mg_of X G a_idea_inverse⟩
      idea_undoing := ⟨F_idea_undoing, b_idea_undoing, PySem.W.mg_of X G a_idea_undoing⟩
      idea_spread := ⟨F_idea_spread, b_idea_spread, PySem.W.mg_of X G a_idea_spread⟩
      idea_keyed := ⟨F_idea_keyed, b_idea_keyed, PySem.W.mg_of X G a_idea_keyed⟩
      idea_mixed := ⟨F_idea_mixed, b_idea_mixed, PySem.W.mg_of X G a_idea_mixed⟩
      idea_swapped := ⟨F_idea_swapped, b_idea_swapped, PySem.W.mg_of X G a_idea_swapped⟩
      idea_seal := ⟨F_idea_seal, b_idea_seal, PySem.W.mg_of X G a_idea_seal⟩
      idea_unseal := ⟨F_idea_unseal, b_idea_unseal, PySem.W.mg_of X G a_idea_unseal⟩
      xtea_spread := ⟨F_xtea_spread, b_xtea_spread, PySem.W.mg_of X G a_xtea_spread⟩
      xtea_mixed := ⟨F_xtea_mixed, b_xtea_mixed, PySem.W.mg_of X G a_xtea_mixed⟩
      xtea_seal := ⟨F_xtea_seal, b_xtea_seal, PySem.W.mg_of X G a_xtea_seal⟩
      xtea_unseal := ⟨F_xtea_unseal, b_xtea_unseal, PySem.W.mg_of X G a_xtea_unseal⟩
      rc_spread := ⟨F_rc_spread, b_rc_spread, PySem.W.mg_of X G a_rc_spread⟩
      rc5_spread := ⟨F_rc5_spread, b_rc5_spread, PySem.W.mg_of X G a_rc5_spread⟩
      rc5_seal := ⟨F_rc5_seal, b_rc5_seal, PySem.W.mg_of X G a_rc5_seal⟩
      rc5_unseal := ⟨F_rc5_unseal, b_rc5_unseal, PySem.W.mg_of X G a_rc5_unseal⟩
      rc6_spread := ⟨F_rc6_spread, b_rc6_spread, PySem.W.mg_of X G a_rc6_spread⟩
      rc6_turned := ⟨F_rc6_turned, b_rc6_turned, PySem.W.mg_of X G a_rc6_turned⟩
      rc6_round := ⟨F_rc6_round, b_rc6_round, PySem.W.mg_of X G a_rc6_round⟩
      rc6_unround := ⟨F_rc6_unround, b_rc6_unround, PySem.W.mg_of X G a_rc6_unround⟩
      rc6_seal := ⟨F_rc6_seal, b_rc6_seal, PySem.W.mg_of X G a_rc6_seal⟩
      rc6_unseal := ⟨F_rc6_unseal, b_rc6_unseal, PySem.W.mg_of X G a_rc6_unseal⟩
      speck_round := ⟨F_speck_round, b_speck_round, PySem.W.mg_of X G a_speck_round⟩
      speck_spread := ⟨F_speck_spread, b_speck_spread, PySem.W.mg_of X G a_speck_spread⟩
      speck_seal := ⟨F_speck_seal, b_speck_seal, PySem.W.mg_of X G a_speck_seal⟩
      speck_unseal := ⟨F_speck_unseal, b_speck_unseal, PySem.W.mg_of X G a_speck_unseal⟩
      threefish_sum := ⟨F_threefish_sum, b_threefish_sum, PySem.W.mg_of X G a_threefish_sum⟩
      threefish_difference := ⟨F_threefish_difference, b_threefish_difference, PySem.W.mg_of X G a_threefish_difference⟩
      threefish_spread := ⟨F_threefish_spread, b_threefish_spread, PySem.W.mg_of X G a_threefish_spread⟩
      threefish_round := ⟨F_threefish_round, b_threefish_round, PySem.W.mg_of X G a_threefish_round⟩
      threefish_unround := ⟨F_threefish_unround, b_threefish_unround, PySem.W.mg_of X G a_threefish_unround⟩
      threefish_seal := ⟨F_threefish_seal, b_threefish_seal, PySem.W.mg_of X G a_threefish_seal⟩
      threefish_unseal := ⟨F_threefish_unseal, b_threefish_unseal, PySem.W.mg_of X G a_threefish_unseal⟩
      call_end := ⟨F_call_end, b_call_end, PySem.W.mg_of X G a_call_end⟩
      call_answer := ⟨F_call_answer, b_call_answer, PySem.W.mg_of X G a_call_answer⟩
      answers := ⟨F_answers, b_answers, PySem.W.mg_of X G a_answers⟩
      __init__ := ⟨F___init__, b___init__, ⟨a___init__, i___init__, k___init__⟩⟩
      block_size := ⟨F_block_size, b_block_size, ⟨a_block_size, i_block_size, k_block_size⟩⟩
      take_key := ⟨F_take_key, b_take_key, ⟨a_take_key, i_take_key, k_take_key⟩⟩
      take_start := ⟨F_take_start, b_take_start, ⟨a_take_start, i_take_start, k_take_start⟩⟩
      run_blocks := ⟨F_run_blocks, b_run_blocks, ⟨a_run_blocks, i_run_blocks, k_run_blocks⟩⟩
      run_block := ⟨F_run_block, b_run_block, ⟨a_run_block, i_run_block, k_run_block⟩⟩
      sealed := ⟨F_sealed, b_sealed, ⟨a_sealed, i_sealed, k_sealed⟩⟩
      unsealed := ⟨F_unsealed, b_unsealed, ⟨a_unsealed, i_unsealed, k_unsealed⟩⟩
      worked := ⟨F_worked, b_worked, ⟨a_worked, i_worked, k_worked⟩⟩
      c_CK_KEY := ⟨_, PySem.W.mg_of X G n_CK_KEY⟩
      c_CK_START := ⟨_, PySem.W.mg_of X G n_CK_START⟩
      c_CK_RUN := ⟨_, PySem.W.mg_of X G n_CK_RUN⟩
      c_CK_BLOCK := ⟨_, PySem.W.mg_of X G n_CK_BLOCK⟩
      c_LARGEST_RUN := ⟨_, PySem.W.mg_of X G n_LARGEST_RUN⟩
      c_TWO_16 := ⟨_, PySem.W.mg_of X G n_TWO_16⟩
      c_TWO_32 := ⟨_, PySem.W.mg_of X G n_TWO_32⟩
      c_TWO_64 := ⟨_, PySem.W.mg_of X G n_TWO_64⟩
      c_GOLDEN := ⟨_, PySem.W.mg_of X G n_GOLDEN⟩
      g_COUNT_PLACES := PySem.W.mg_of X G g_COUNT_PLACES
      q_COUNT_PLACES := tp_of q_COUNT_PLACES (by show 4 ≤ sizeLine; decide) (.cons ⟨_, rfl⟩ (.cons ⟨_, rfl⟩ (.cons ⟨_, rfl⟩ (.cons ⟨_, rfl⟩ .nil))))
      g_BLOCK_SIZES := PySem.W.mg_of X G g_BLOCK_SIZES
      q_BLOCK_SIZES := tp_of q_BLOCK_SIZES (by show 6 ≤ sizeLine; decide) (.cons ⟨_, rfl⟩ (.cons ⟨_, rfl⟩ (.cons ⟨_, rfl⟩ (.cons ⟨_, rfl⟩ (.cons ⟨_, rfl⟩ (.cons ⟨_, rfl⟩ .nil))))))
      g_WORD_BITS := PySem.W.mg_of X G g_WORD_BITS
      q_WORD_BITS := tp_of q_WORD_BITS (by show 6 ≤ sizeLine; decide) (.cons ⟨_, rfl⟩ (.cons ⟨_, rfl⟩ (.cons ⟨_, rfl⟩ (.cons ⟨_, rfl⟩ (.cons ⟨_, rfl⟩ (.cons ⟨_, rfl⟩ .nil))))))
      g_REGROUPS := PySem.W.mg_of X G g_REGROUPS
      q_REGROUPS := tp_of q_REGROUPS (by show 6 ≤ sizeLine; decide) (.cons rfl (.cons rfl (.cons rfl (.cons rfl (.cons rfl (.cons rfl .nil))))))
      g_SPREADS := PySem.W.mg_of X G g_SPREADS
      q_SPREADS := tp_of q_SPREADS (by show 6 ≤ sizeLine; decide) (.cons rfl (.cons rfl (.cons rfl (.cons rfl (.cons rfl (.cons rfl .nil))))))
      g_SEALS := PySem.W.mg_of X G g_SEALS
      q_SEALS := tp_of q_SEALS (by show 6 ≤ sizeLine; decide) (.cons rfl (.cons rfl (.cons rfl (.cons rfl (.cons rfl (.cons rfl .nil))))))
      g_UNSEALS := PySem.W.mg_of X G g_UNSEALS
      q_UNSEALS := tp_of q_UNSEALS (by show 6 ≤ sizeLine; decide) (.cons rfl (.cons rfl (.cons rfl (.cons rfl (.cons rfl (.cons rfl .nil))))))
      g_THREEFISH_TURNS := PySem.W.mg_of X G g_THREEFISH_TURNS
      q_THREEFISH_TURNS := tp_of q_THREEFISH_TURNS (by show 8 ≤ sizeLine; decide) (.cons rfl (.cons rfl (.cons rfl (.cons rfl (.cons rfl (.cons rfl (.cons rfl (.cons rfl .nil))))))))
      q_tt0 := tp_of q_tt0 (by show 2 ≤ sizeLine; decide) (.cons ⟨_, rfl⟩ (.cons ⟨_, rfl⟩ .nil))
      q_tt1 := tp_of q_tt1 (by show 2 ≤ sizeLine; decide) (.cons ⟨_, rfl⟩ (.cons ⟨_, rfl⟩ .nil))
      q_tt2 := tp_of q_tt2 (by show 2 ≤ sizeLine; decide) (.cons ⟨_, rfl⟩ (.cons ⟨_, rfl⟩ .nil))
      q_tt3 := tp_of q_tt3 (by show 2 ≤ sizeLine; decide) (.cons ⟨_, rfl⟩ (.cons ⟨_, rfl⟩ .nil))
      q_tt4 := tp_of q_tt4 (by show 2 ≤ sizeLine; decide) (.cons ⟨_, rfl⟩ (.cons ⟨_, rfl⟩ .nil))
      q_tt5 := tp_of q_tt5 (by show 2 ≤ sizeLine; decide) (.cons ⟨_, rfl⟩ (.cons ⟨_, rfl⟩ .nil))
      q_tt6 := tp_of q_tt6 (by show 2 ≤ sizeLine; decide) (.cons ⟨_, rfl⟩ (.cons ⟨_, rfl⟩ .nil))
      q_tt7 := tp_of q_tt7 (by show 2 ≤ sizeLine; decide) (.cons ⟨_, rfl⟩ (.cons ⟨_, rfl⟩ .nil))
      n_range := PySem.W.mg_none_of X G m_range
      n_len := PySem.W.mg_none_of X G m_len
      n_list := PySem.W.mg_none_of X G m_list
      n_reversed := PySem.W.mg_none_of X G m_reversed
      n_zip := PySem.W.mg_none_of X G m_zip
      n_enumerate := PySem.W.mg_none_of X G m_enumerate
      cl := ⟨pg, hd, po, sa⟩
      mkS := ⟨mkk, a___init__, i___init__, kc⟩
      g_Sealer := PySem.W.mg_of X G aC
      na_cipher := na_cipher
      na_schedule := na_schedule
      na_standing := na_standing }
  exact ⟨PySem.W.fnOf "answers" "answers" (defArgs s_answers) (defBody s_answers) (defScope s_answers) .none kV_answers dc_answers pm_answers an_answers cd_answers ct_answers, fun s us hu => match us, hu with | [_], _ => .of_eq rfl, fun base _ _ => ok_answers T⟩
end Sx
end
set_option Elab.async false
open PySem PySem.W PyProof.Rows
set_option maxRecDepth 100000 in
set_option maxHeartbeats 0 in
theorem PySem.Challenge.cw_sixciphers_s01_answers_holds : PySem.Challenge.rw_sixciphers_s01_answers.Holds := by
  w_on
  refine holds_os (q := Sx.vw) (loose := ["REGROUPS", "SPREADS", "SEALS", "UNSEALS"]) (Xt := fun s => xlAt Sx.vw [] s && recOk [] s) (XP := XL Sx.vw []) (Yf := Hook.obs (kHook Sx.heapK Sx.addrs Sx.addrs_eq)) (Ya := Hook.val (kHook Sx.heapK Sx.addrs Sx.addrs_eq)) (YP := Hook.says (kHook Sx.heapK Sx.addrs Sx.addrs_eq)) (N := 4354) Sx.topLeft (Hook.of (kHook Sx.heapK Sx.addrs Sx.addrs_eq)) (Hook.keeps (kHook Sx.heapK Sx.addrs Sx.addrs_eq)) (fun s e => xl_of s (Bool.and_eq_true_iff.mp e).1) XL.keeps (by rfl) (by rfl) (by rfl) (fun s e => recFacts_of (Bool.and_eq_true_iff.mp e).2) os_shapes (by first | assumption | decide +kernel) (by decide +kernel) ⟨rfl, rfl, rfl, rfl, rfl, by decide +kernel⟩ ?hw ?hc
  case hw => exact ⟨[.list [.int 1, .int 0, .int 16, .int 0, .int 0, .int 0, .int 0, .int 0, .int 0, .int 0, .int 0, .int 0, .int 0, .int 0, .int 0, .int 0, .int 0, .int 0, .int 0]], by decide +kernel, by decide +kernel⟩
  k_fillS
  refine L2.walk_specK (r := PySem.Challenge.rw_sixciphers_s01_answers) (k := 10) (CX := L2.CX0) (ps := ["calls"]) (sp := Sx.spAns) (by decide +kernel) rfl rfl ⟨rfl, by decide, by decide⟩ (fun w h Y => PySem.W.kIn_of Y) ?F ?S (fun _ _ _ _ z => z)
  case F =>
    intro w mg fa h Y KX G hmg
    refine' Sx.all_mk KX G hmg ?a_number_from ?a_row_from ?a_highest_first ?a_lowest_first ?a_exclusive_or ?a_turned_left ?a_turned_right ?a_idea_product ?a_idea_inverse ?a_idea_undoing ?a_idea_spread ?a_idea_keyed ?a_idea_mixed ?a_idea_swapped ?a_idea_seal ?a_idea_unseal ?a_xtea_spread ?a_xtea_mixed ?a_xtea_seal ?a_xtea_unseal ?a_rc_spread ?a_rc5_spread ?a_rc5_seal ?a_rc5_unseal ?a_rc6_spread ?a_rc6_turned ?a_rc6_round ?a_rc6_unround ?a_rc6_seal ?a_rc6_unseal ?a_speck_round ?a_speck_spread ?a_speck_seal ?a_speck_unseal ?a_threefish_sum ?a_threefish_difference ?a_threefish_spread ?a_threefish_round ?a_threefish_unround ?a_threefish_seal ?a_threefish_unseal ?a_call_end ?a_call_answer ?a_answers ?aC ?a___init__ ?i___init__ ?a_block_size ?i_block_size ?a_take_key ?i_take_key ?a_take_start ?i_take_start ?a_run_blocks ?i_run_blocks ?a_run_block ?i_run_block ?a_sealed ?i_sealed ?a_unsealed ?i_unsealed ?a_worked ?i_worked ?l_number_from ?c_number_from ?k_number_from ?l_row_from ?c_row_from ?k_row_from ?l_highest_first ?c_highest_first ?k_highest_first ?l_lowest_first ?c_lowest_first ?k_lowest_first ?l_exclusive_or ?c_exclusive_or ?k_exclusive_or ?l_turned_left ?c_turned_left ?k_turned_left ?l_turned_right ?c_turned_right ?k_turned_right ?l_idea_product ?c_idea_product ?k_idea_product ?l_idea_inverse ?c_idea_inverse ?k_idea_inverse ?l_idea_undoing ?c_idea_undoing ?k_idea_undoing ?l_idea_spread ?c_idea_spread ?k_idea_spread ?l_idea_keyed ?c_idea_keyed ?k_idea_keyed ?l_idea_mixed ?c_idea_mixed ?k_idea_mixed ?l_idea_swapped ?c_idea_swapped ?k_idea_swapped ?l_idea_seal ?c_idea_seal ?k_idea_seal ?l_idea_unseal ?c_idea_unseal ?k_idea_unseal ?l_xtea_spread ?c_xtea_spread ?k_xtea_spread ?l_xtea_mixed ?c_xtea_mixed ?k_xtea_mixed ?l_xtea_seal ?c_xtea_seal ?k_xtea_seal ?l_xtea_unseal ?c_xtea_unseal ?k_xtea_unseal ?l_rc_spread ?c_rc_spread ?k_rc_spread ?l_rc5_spread ?c_rc5_spread ?k_rc5_spread ?l_rc5_seal ?c_rc5_seal ?k_rc5_seal ?l_rc5_unseal ?c_rc5_unseal ?k_rc5_unseal ?l_rc6_spread ?c_rc6_spread ?k_rc6_spread ?l_rc6_turned ?c_rc6_turned ?k_rc6_turned ?l_rc6_round ?c_rc6_round ?k_rc6_round ?l_rc6_unround ?c_rc6_unround ?k_rc6_unround ?l_rc6_seal ?c_rc6_seal ?k_rc6_seal ?l_rc6_unseal ?c_rc6_unseal ?k_rc6_unseal ?l_speck_round ?c_speck_round ?k_speck_round ?l_speck_spread ?c_speck_spread ?k_speck_spread ?l_speck_seal ?c_speck_seal ?k_speck_seal ?l_speck_unseal ?c_speck_unseal ?k_speck_unseal ?l_threefish_sum ?c_threefish_sum ?k_threefish_sum ?l_threefish_difference ?c_threefish_difference ?k_threefish_difference ?l_threefish_spread ?c_threefish_spread ?k_threefish_spread ?l_threefish_round ?c_threefish_round ?k_threefish_round ?l_threefish_unround ?c_threefish_unround ?k_threefish_unround ?l_threefish_seal ?c_threefish_seal ?k_threefish_seal ?l_threefish_unseal ?c_threefish_unseal ?k_threefish_unseal ?l___init__ ?c___init__ ?k___init__ ?l_block_size ?c_block_size ?k_block_size ?l_take_key ?c_take_key ?k_take_key ?l_take_start ?c_take_start ?k_take_start ?l_run_blocks ?c_run_blocks ?k_run_blocks ?l_run_block ?c_run_block ?k_run_block ?l_sealed ?c_sealed ?k_sealed ?l_unsealed ?c_unsealed ?k_unsealed ?l_worked ?c_worked ?k_worked ?l_call_end ?c_call_end ?k_call_end ?l_call_answer ?c_call_answer ?k_call_answer ?l_answers ?c_answers ?k_answers ?n_CK_KEY ?n_CK_START ?n_CK_RUN ?n_CK_BLOCK ?n_LARGEST_RUN ?n_TWO_16 ?n_TWO_32 ?n_TWO_64 ?n_GOLDEN ?g_COUNT_PLACES ?g_BLOCK_SIZES ?g_WORD_BITS ?g_REGROUPS ?g_SPREADS ?g_SEALS ?g_UNSEALS ?g_THREEFISH_TURNS ?q_COUNT_PLACES ?q_BLOCK_SIZES ?q_WORD_BITS ?q_REGROUPS ?q_SPREADS ?q_SEALS ?q_UNSEALS ?q_THREEFISH_TURNS ?q_tt0 ?q_tt1 ?q_tt2 ?q_tt3 ?q_tt4 ?q_tt5 ?q_tt6 ?q_tt7 ?m_range ?m_len ?m_list ?m_reversed ?m_zip ?m_enumerate ?pg ?hd ?po ?sa ?mkk ?kc ?na_cipher ?na_schedule ?na_standing
    (case a_number_from => k_is)
    (case a_row_from => k_is)
    (case a_highest_first => k_is)
    (case a_lowest_first => k_is)
    (case a_exclusive_or => k_is)
    (case a_turned_left => k_is)
    (case a_turned_right => k_is)
    (case a_idea_product => k_is)
    (case a_idea_inverse => k_is)
    (case a_idea_undoing => k_is)
    (case a_idea_spread => k_is)
    (case a_idea_keyed => k_is)
    (case a_idea_mixed => k_is)
    (case a_idea_swapped => k_is)
    (case a_idea_seal => k_is)
    (case a_idea_unseal => k_is)
    (case a_xtea_spread => k_is)
    (case a_xtea_mixed => k_is)
    (case a_xtea_seal => k_is)
    (case a_xtea_unseal => k_is)
    (case a_rc_spread => k_is)
    (case a_rc5_spread => k_is)
    (case a_rc5_seal => k_is)
    (case a_rc5_unseal => k_is)
    (case a_rc6_spread => k_is)
    (case a_rc6_turned => k_is)
    (case a_rc6_round => k_is)
    (case a_rc6_unround => k_is)
    (case a_rc6_seal => k_is)
    (case a_rc6_unseal => k_is)
    (case a_speck_round => k_is)
    (case a_speck_spread => k_is)
    (case a_speck_seal => k_is)
    (case a_speck_unseal => k_is)
    (case a_threefish_sum => k_is)
    (case a_threefish_difference => k_is)
    (case a_threefish_spread => k_is)
    (case a_threefish_round => k_is)
    (case a_threefish_unround => k_is)
    (case a_threefish_seal => k_is)
    (case a_threefish_unseal => k_is)
    (case a_call_end => k_is)
    (case a_call_answer => k_is)
    (case a_answers => k_is)
    (case aC => k_is)
    (case a___init__ => k_is)
    (case i___init__ => k_is)
    (case a_block_size => k_is)
    (case i_block_size => k_is)
    (case a_take_key => k_is)
    (case i_take_key => k_is)
    (case a_take_start => k_is)
    (case i_take_start => k_is)
    (case a_run_blocks => k_is)
    (case i_run_blocks => k_is)
    (case a_run_block => k_is)
    (case i_run_block => k_is)
    (case a_sealed => k_is)
    (case i_sealed => k_is)
    (case a_unsealed => k_is)
    (case i_unsealed => k_is)
    (case a_worked => k_is)
    (case i_worked => k_is)
    (case l_number_from => k_is)
    (case c_number_from => k_is)
    (case k_number_from => k_is)
    (case l_row_from => k_is)
    (case c_row_from => k_is)
    (case k_row_from => k_is)
    (case l_highest_first => k_is)
    (case c_highest_first => k_is)
    (case k_highest_first => k_is)
    (case l_lowest_first => k_is)
    (case c_lowest_first => k_is)
    (case k_lowest_first => k_is)
    (case l_exclusive_or => k_is)
    (case c_exclusive_or => k_is)
    (case k_exclusive_or => k_is)
    (case l_turned_left => k_is)
    (case c_turned_left => k_is)
    (case k_turned_left => k_is)
    (case l_turned_right => k_is)
    (case c_turned_right => k_is)
    (case k_turned_right => k_is)
    (case l_idea_product => k_is)
    (case c_idea_product => k_is)
    (case k_idea_product => k_is)
    (case l_idea_inverse => k_is)
    (case c_idea_inverse => k_is)
    (case k_idea_inverse => k_is)
    (case l_idea_undoing => k_is)
    (case c_idea_undoing => k_is)
    (case k_idea_undoing => k_is)
    (case l_idea_spread => k_is)
    (case c_idea_spread => k_is)
    (case k_idea_spread => k_is)
    (case l_idea_keyed => k_is)
    (case c_idea_keyed => k_is)
    (case k_idea_keyed => k_is)
    (case l_idea_mixed => k_is)
    (case c_idea_mixed => k_is)
    (case k_idea_mixed => k_is)
    (case l_idea_swapped => k_is)
    (case c_idea_swapped => k_is)
    (case k_idea_swapped => k_is)
    (case l_idea_seal => k_is)
    (case c_idea_seal => k_is)
    (case k_idea_seal => k_is)
    (case l_idea_unseal => k_is)
    (case c_idea_unseal => k_is)
    (case k_idea_unseal => k_is)
    (case l_xtea_spread => k_is)
    (case c_xtea_spread => k_is)
    (case k_xtea_spread => k_is)
    (case l_xtea_mixed => k_is)
    (case c_xtea_mixed => k_is)
    (case k_xtea_mixed => k_is)
    (case l_xtea_seal => k_is)
    (case c_xtea_seal => k_is)
    (case k_xtea_seal => k_is)
    (case l_xtea_unseal => k_is)
    (case c_xtea_unseal => k_is)
    (case k_xtea_unseal => k_is)
    (case l_rc_spread => k_is)
    (case c_rc_spread => k_is)
    (case k_rc_spread => k_is)
    (case l_rc5_spread => k_is)
    (case c_rc5_spread => k_is)
    (case k_rc5_spread => k_is)
    (case l_rc5_seal => k_is)
    (case c_rc5_seal => k_is)
    (case k_rc5_seal => k_is)
    (case l_rc5_unseal => k_is)
    (case c_rc5_unseal => k_is)
    (case k_rc5_unseal => k_is)
    (case l_rc6_spread => k_is)
    (case c_rc6_spread => k_is)
    (case k_rc6_spread => k_is)
    (case l_rc6_turned => k_is)
    (case c_rc6_turned => k_is)
    (case k_rc6_turned => k_is)
    (case l_rc6_round => k_is)
    (case c_rc6_round => k_is)
    (case k_rc6_round => k_is)
    (case l_rc6_unround => k_is)
    (case c_rc6_unround => k_is)
    (case k_rc6_unround => k_is)
    (case l_rc6_seal => k_is)
    (case c_rc6_seal => k_is)
    (case k_rc6_seal => k_is)
    (case l_rc6_unseal => k_is)
    (case c_rc6_unseal => k_is)
    (case k_rc6_unseal => k_is)
    (case l_speck_round => k_is)
    (case c_speck_round => k_is)
    (case k_speck_round => k_is)
    (case l_speck_spread => k_is)
    (case c_speck_spread => k_is)
    (case k_speck_spread => k_is)
    (case l_speck_seal => k_is)
    (case c_speck_seal => k_is)
    (case k_speck_seal => k_is)
    (case l_speck_unseal => k_is)
    (case c_speck_unseal => k_is)
    (case k_speck_unseal => k_is)
    (case l_threefish_sum => k_is)
    (case c_threefish_sum => k_is)
    (case k_threefish_sum => k_is)
    (case l_threefish_difference => k_is)
    (case c_threefish_difference => k_is)
    (case k_threefish_difference => k_is)
    (case l_threefish_spread => k_is)
    (case c_threefish_spread => k_is)
    (case k_threefish_spread => k_is)
    (case l_threefish_round => k_is)
    (case c_threefish_round => k_is)
    (case k_threefish_round => k_is)
    (case l_threefish_unround => k_is)
    (case c_threefish_unround => k_is)
    (case k_threefish_unround => k_is)
    (case l_threefish_seal => k_is)
    (case c_threefish_seal => k_is)
    (case k_threefish_seal => k_is)
    (case l_threefish_unseal => k_is)
    (case c_threefish_unseal => k_is)
    (case k_threefish_unseal => k_is)
    (case l___init__ => k_is)
    (case c___init__ => k_is)
    (case k___init__ => k_is)
    (case l_block_size => k_is)
    (case c_block_size => k_is)
    (case k_block_size => k_is)
    (case l_take_key => k_is)
    (case c_take_key => k_is)
    (case k_take_key => k_is)
    (case l_take_start => k_is)
    (case c_take_start => k_is)
    (case k_take_start => k_is)
    (case l_run_blocks => k_is)
    (case c_run_blocks => k_is)
    (case k_run_blocks => k_is)
    (case l_run_block => k_is)
    (case c_run_block => k_is)
    (case k_run_block => k_is)
    (case l_sealed => k_is)
    (case c_sealed => k_is)
    (case k_sealed => k_is)
    (case l_unsealed => k_is)
    (case c_unsealed => k_is)
    (case k_unsealed => k_is)
    (case l_worked => k_is)
    (case c_worked => k_is)
    (case k_worked => k_is)
    (case l_call_end => k_is)
    (case c_call_end => k_is)
    (case k_call_end => k_is)
    (case l_call_answer => k_is)
    (case c_call_answer => k_is)
    (case k_call_answer => k_is)
    (case l_answers => k_is)
    (case c_answers => k_is)
    (case k_answers => k_is)
    (case n_CK_KEY => k_is)
    (case n_CK_START => k_is)
    (case n_CK_RUN => k_is)
    (case n_CK_BLOCK => k_is)
    (case n_LARGEST_RUN => k_is)
    (case n_TWO_16 => k_is)
    (case n_TWO_32 => k_is)
    (case n_TWO_64 => k_is)
    (case n_GOLDEN => k_is)
    (case g_COUNT_PLACES => k_is)
    (case g_BLOCK_SIZES => k_is)
    (case g_WORD_BITS => k_is)
    (case g_REGROUPS => k_is)
    (case g_SPREADS => k_is)
    (case g_SEALS => k_is)
    (case g_UNSEALS => k_is)
    (case g_THREEFISH_TURNS => k_is)
    (case q_COUNT_PLACES => k_is)
    (case q_BLOCK_SIZES => k_is)
    (case q_WORD_BITS => k_is)
    (case q_REGROUPS => k_is)
    (case q_SPREADS => k_is)
    (case q_SEALS => k_is)
    (case q_UNSEALS => k_is)
    (case q_THREEFISH_TURNS => k_is)
    (case q_tt0 => k_is)
    (case q_tt1 => k_is)
    (case q_tt2 => k_is)
    (case q_tt3 => k_is)
    (case q_tt4 => k_is)
    (case q_tt5 => k_is)
    (case q_tt6 => k_is)
    (case q_tt7 => k_is)
    (case m_range => k_is)
    (case m_len => k_is)
    (case m_list => k_is)
    (case m_reversed => k_is)
    (case m_zip => k_is)
    (case m_enumerate => k_is)
    (case pg => k_is)
    (case hd => k_is)
    (case po => k_is)
    (case sa => k_is)
    (case mkk => k_is)
    (case kc => k_is)
    (case na_cipher => k_is)
    (case na_schedule => k_is)
    (case na_standing => k_is)
  case S =>
    intro K H xs a hO hwi hask hx
    cases hx with
    | cons h1 h2 =>
      cases h2
      cases h1 with
      | lst hs ha =>
        have e := L2.ints_dw a.1 _ ha
        subst e
        have q : PySz25.answers_asked a.1 = true := hask
        obtain ⟨p, l⟩ := Sx.plays_all q
        exact ⟨_, rfl, a.1, _, hs, p, Nat.lt_of_le_of_lt l (by decide), fun H' r hp => .lst (L2.SqL.of hp) (L2.dw_ints _)⟩
#print axioms PySem.Challenge.cw_sixciphers_s01_answers_holds
