import PyProof.Rows.All
import Wide.All
import OpenK.AllK
import Wide.FinOn
import PyProof.EqAt
import PyProof.EqKinds
import PyProof.TupleCall
import KE.BitLaws
import Open.SpecLaws
import KE.OsHead
import KE.OsGo
import PySem.Challenge.RW_perishingday_s01_answers
section
set_option Elab.async false
set_option linter.all false
set_option maxRecDepth 100000
/-! THE HAND LAYER, for ints, bools, texts, own classes, lists, tuples, dicts, comprehensions, walks over dicts, enumerate, zip, reversed, texts, calls, loops. Paste it whole ahead of your own text; what your proof does not reach may be deleted. -/
namespace L2
open PySem PySem.Spec PyProof.Rows

/-- a key: an int or a str -/
abbrev Key := Sum Int Str
def keyIs : Key → Value → Bool
  | .inl k, v => Value.isInt k v
  | .inr x, v => Value.isStrOf x v
def keyH (w : World) : Key → Int
  | .inl k => hashInt k
  | .inr x => hashStr w x
theorem keyIs_shape : ∀ {k : Key} {v : Value}, keyIs k v = true → (∃ i t, k = Sum.inl i ∧ v = Value.int i t) ∨ (∃ x t, k = Sum.inr x ∧ v = Value.str x t)
  | .inl i, v, h => by
    obtain ⟨t, e⟩ := Value.isInt_shape (k := i) (v := v) h
    exact .inl ⟨i, t, rfl, e⟩
  | .inr x, v, h => by
    obtain ⟨t, e⟩ := Value.isStrOf_shape (x := x) (v := v) h
    exact .inr ⟨x, t, rfl, e⟩
theorem key_ll (a b : Int) : decide ((Sum.inl a : Key) = Sum.inl b) = (a == b) := by
  by_cases e : a = b
  · subst e; simp
  · have h : ¬ (Sum.inl a : Key) = Sum.inl b := fun q => e (Sum.inl.inj q)
    rw [decide_eq_false h]
    exact (beq_eq_false_iff_ne.mpr e).symm
theorem key_rr (a b : Str) : decide ((Sum.inr a : Key) = Sum.inr b) = decide (a = b) := by
  by_cases e : a = b
  · subst e; simp
  · have h : ¬ (Sum.inr a : Key) = Sum.inr b := fun q => e (Sum.inr.inj q)
    rw [decide_eq_false h, decide_eq_false e]
theorem key_lr (a : Int) (b : Str) : decide ((Sum.inl a : Key) = Sum.inr b) = false := decide_eq_false (fun q => nomatch q)
theorem key_rl (a : Str) (b : Int) : decide ((Sum.inr a : Key) = Sum.inl b) = false := decide_eq_false (fun q => nomatch q)

def mixKind (prog : Program) (w : World) : PySem.KeyKind prog w Key where
  is := keyIs
  hash := keyH w
  inj := fun v a b ha hb => by
    rcases keyIs_shape ha with ⟨i, t, rfl, rfl⟩ | ⟨x, t, rfl, rfl⟩
    · rcases keyIs_shape hb with ⟨j, u, rfl, e⟩ | ⟨y, u, rfl, e⟩
      · injection e with e1 _; rw [e1]
      · exact nomatch e
    · rcases keyIs_shape hb with ⟨j, u, rfl, e⟩ | ⟨y, u, rfl, e⟩
      · exact nomatch e
      · injection e with e1 _; rw [e1]
  byValue := fun k v h => by
    rcases keyIs_shape h with ⟨i, t, rfl, rfl⟩ | ⟨x, t, rfl, rfl⟩ <;> rfl
  pyHash := fun hv h => by
    rcases keyIs_shape hv with ⟨i, t, rfl, rfl⟩ | ⟨x, t, rfl, rfl⟩
    · exact wpAny_pyHash_int h
    · exact wpAny_pyHash_str h
  eqBool := fun hu hv h => by
    rcases keyIs_shape hu with ⟨i, t, rfl, rfl⟩ | ⟨x, t, rfl, rfl⟩
    · rcases keyIs_shape hv with ⟨j, u, rfl, rfl⟩ | ⟨y, u, rfl, rfl⟩
      · rw [key_ll] at h; exact wpAny_eqBool_int h
      · rw [key_lr] at h; exact SeqAt.EqAt.int_str i t y u _ _ _ _ h
    · rcases keyIs_shape hv with ⟨j, u, rfl, rfl⟩ | ⟨y, u, rfl, rfl⟩
      · rw [key_rl] at h; exact SeqAt.EqAt.str_int x t j u _ _ _ _ h
      · rw [key_rr] at h; exact wpAny_eqBool_str h
  «strs» := fun k x t v h => by
    rcases keyIs_shape h with ⟨i, u, rfl, e⟩ | ⟨y, u, rfl, e⟩
    · exact nomatch e
    · injection e with e1 _
      subst e1
      cases v <;> rfl

end L2

namespace L2
open PySem PySem.Spec PyProof.Rows

/-- a value, without the heap -/
inductive V where
  | non | bl (b : Bool) | int (i : Int) | str (x : Str) | byt (b : Array UInt8) | flt (b : UInt64) | ref (a : Addr) | ty (n : String)
  deriving DecidableEq

def RelV : V → Value → Prop
  | .non, u => u = Value.none
  | .bl b, u => u = Value.bool b
  | .int i, u => ∃ t, u = Value.int i t
  | .str x, u => ∃ t, u = Value.str x t
  | .byt b, u => ∃ t, u = Value.bytes b t
  | .flt b, u => ∃ t, u = Value.float b t
  | .ref a, u => u = Value.ref a
  | .ty n, u => u = Value.type n

abbrev Vals : List V → List Value → Prop := Paired RelV
theorem Vals.length {xs : List V} {us : List Value} (r : Vals xs us) : xs.length = us.length := Paired.length r
theorem Vals.get : ∀ {xs : List V} {us : List Value} {i : Nat} {x : V}, Vals xs us → xs[i]? = some x → ∃ u, us[i]? = some u ∧ RelV x u
  | _, _, _, _, .nil, e => by simp at e
  | _, _, 0, _, .cons r _, e => by simp at e; subst e; exact ⟨_, rfl, r⟩
  | _, _, i + 1, x, .cons _ t, e => by
    obtain ⟨u, h1, h2⟩ := Vals.get (i := i) (x := x) t (by simpa using e)
    exact ⟨u, by simpa using h1, h2⟩
theorem Vals.append : ∀ {xs ys : List V} {us ws : List Value}, Vals xs us → Vals ys ws → Vals (xs ++ ys) (us ++ ws)
  | _, _, _, _, .nil, s => s
  | _, _, _, _, .cons r t, s => .cons r (Vals.append t s)
theorem Vals.take : ∀ {xs : List V} {us : List Value} (n : Nat), Vals xs us → Vals (xs.take n) (us.take n)
  | _, _, 0, _ => .nil
  | _, _, _ + 1, .nil => .nil
  | _, _, n + 1, .cons r t => .cons r (Vals.take n t)
theorem Vals.drop : ∀ {xs : List V} {us : List Value} (n : Nat), Vals xs us → Vals (xs.drop n) (us.drop n)
  | _, _, 0, r => r
  | _, _, _ + 1, .nil => .nil
  | _, _, n + 1, .cons _ t => Vals.drop n t

def RelO : Option V → Option Value → Prop
  | some v, some u => RelV v u
  | none, none => True
  | _, _ => False
def KV {κ : Type} : List (κ × V) → List (κ × Value) → Prop := Paired fun (p : κ × V) (q : κ × Value) => p.1 = q.1 ∧ RelV p.2 q.2

/-- a key of a dict (00_mix): an int or a text -/
def kV : Key → V
  | .inl i => .int i
  | .inr x => .str x

/-- what stands at a tracked address -/
inductive HO where
  /-- a list -/
  | lst (xs : List V)
  /-- a tuple (never changes) -/
  | tup (xs : List V)
  /-- a dict whose keys are ints and texts; one whose keys are tuples of ints and texts (the empty one is both) -/
  | dK (kvs : List (Key × V)) | dT (kvs : List (List Key × V))
  /-- a set of ints: its members, its size -/
  | set (S : Int → Bool) (n : Nat)
  /-- an instance of the class at C, its dict at dx, its attributes -/
  | ins (C dx : Addr) (fs : List (Str × V))
  /-- the dict of the instance at x -/
  | own (x : Addr)
  /-- the dict of an exception -/
  | xd (fs : List (Str × V))
  /-- a bound method, f of x -/
  | met (f x : Addr)
  /-- a range object lo, lo + 1, .. below hi -/
  | rng (lo hi : Int)
  /-- a thing that is known to the object (the script; a dict while a loop walks it): read, never written while it is so -/
  | frz (o : Obj) (u : HO)
  /-- a code object's table -/
  | tbl (ps : Array Value)
  /-- any other thing, by what is true of its one object (a def of one's own: SetO a S n := HO.ext fun h => ..) -/
  | ext (φ : Heap → Prop)

abbrev Hp := Addr → Option HO
def upd (H : Hp) (a : Addr) (o : HO) : Hp := fun b => if b = a then some o else H b
theorem upd_same {H : Hp} {a : Addr} {o : HO} : upd H a o a = some o := by unfold upd; rw [if_pos rfl]
theorem upd_ne {H : Hp} {a b : Addr} {o : HO} (h : b ≠ a) : upd H a o b = H b := by unfold upd; rw [if_neg h]
theorem upd_upd {H : Hp} {a : Addr} {o u : HO} : upd (upd H a o) a u = upd H a u := by
  funext b; unfold upd; split <;> rfl
/-- two objects of different content stand apart -/
theorem ne_of {H : Hp} {a b : Addr} {o u : HO} (h : H a = some o) (h' : H b = some u) (d : o ≠ u) : a ≠ b := by
  intro e; subst e; rw [h] at h'; exact d (Option.some.inj h')
theorem ne_of_none {H : Hp} {a b : Addr} {o : HO} (h : H a = some o) (h' : H b = none) : a ≠ b := by
  intro e; subst e; rw [h] at h'; cases h'

section
variable (P : Program) (w : World)
def ObjOk (H : Hp) (h : Heap) (a : Addr) : HO → Prop
  | .lst xs => xs.length ≤ sizeLine ∧ ∃ (its : List Value) (n : Nat), Vals xs its ∧ h.get? a = some { cls := .type "list", data := .seq its.toArray n }
  | .tup xs => xs.length ≤ sizeLine ∧ ∃ its : List Value, Vals xs its ∧ IsTup h a its.toArray
  | .dK kvs => kvs.length ≤ sizeLine ∧ (a == sysModules) = false ∧ ∃ vs, KV kvs vs ∧ h.DictOf (mixKind P w) a vs
  | .dT kvs => kvs.length ≤ sizeLine ∧ (a == sysModules) = false ∧ ∃ xs : List (List Key × Addr × Value),
      Paired (fun (p : List Key × V) (q : List Key × Addr × Value) => p.1 = q.1 ∧ H q.2.1 = some (.tup (p.1.map kV)) ∧ RelV p.2 q.2.2) kvs xs ∧
      ∃ o es ep, h.get? a = some o ∧ o.ExactDict ∧ o.data = .dict es ep ∧ es.toList = xs.map (entryOfKey (tupleKind (mixKind P w))) ∧ (xs.map (·.1)).Nodup
  | .set S n => h.SetOf (intKind P w) a S n
  | .ins C dx fs => H dx = some (.own a) ∧ fs.length ≤ 1000 ∧ dx ≠ a ∧ h.get? a = some (PySem.W.instObj C dx) ∧
      ∃ mA, h.Ns1 dx mA ∧ (∀ f, RelO (fs.lookup f) (mA f)) ∧ PySem.Within mA (fs.map (·.1))
  | .own _ => ∃ o, h.get? a = some o
  | .xd fs => ∃ mA, h.Ns1 a mA ∧ ∀ f, RelO (fs.lookup f) (mA f)
  | .rng lo hi => ∃ t u v, h.get? a = some { cls := .type "range", data := .fields #[.int lo t, .int hi u, .int 1 v] }
  | .frz o u => h.get? a = some o ∧ ObjOk H h a u
  | .tbl ps => h.get? a = some { cls := .none, data := .fields ps }
  | .met f x => h.get? a = some (PySem.W.methodObj (.ref f) (.ref x))
  | .ext φ => φ h ∧ (∃ o, h.get? a = some o) ∧ ∀ h1 h2 : Heap, φ h1 → (∀ o, h1.get? a = some o → h2.get? a = some o) → φ h2
/-- the abstract heap is held -/
def HOk (H : Hp) (h : Heap) : Prop := ∀ a o, H a = some o → ObjOk P w H h a o
end

section
variable {P : Program} {w : World} {H H' : Hp} {h h' : Heap} {a : Addr} {o : HO}
theorem ObjOk.lt (x : ObjOk P w H h a o) : a < h.objs.size := by
  cases o with
  | lst xs => obtain ⟨_, _, _, _, e⟩ := x; exact Heap.lt_size e
  | tup xs => obtain ⟨_, _, _, p⟩ := x; exact p.lt
  | dK kvs => obtain ⟨_, _, _, _, o, _, _, e, _⟩ := x; exact Heap.lt_size e
  | dT kvs => obtain ⟨_, _, _, _, o, _, _, e, _⟩ := x; exact Heap.lt_size e
  | set S n => obtain ⟨o, _, _, _, e, _⟩ := x; exact Heap.lt_size e
  | ins C dx fs => obtain ⟨_, _, _, e, _⟩ := x; exact Heap.lt_size e
  | own y => obtain ⟨_, e⟩ := x; exact Heap.lt_size e
  | xd fs => obtain ⟨_, ⟨_, _, _, e, _⟩, _⟩ := x; exact Heap.lt_size e
  | rng lo hi => obtain ⟨_, _, _, e⟩ := x; exact Heap.lt_size e
  | frz ob u => obtain ⟨e, _⟩ := x; exact Heap.lt_size e
  | tbl ps => exact Heap.lt_size (show h.get? a = some _ from x)
  | met f y => exact Heap.lt_size (show h.get? a = some _ from x)
  | ext φ => obtain ⟨_, ⟨_, e⟩, _⟩ := x; exact Heap.lt_size e
theorem Paired.mapP {α β : Type} {F G : α → β → Prop} : ∀ {l₁ : List α} {l₂ : List β}, Paired F l₁ l₂ → (∀ a b, F a b → G a b) → Paired G l₁ l₂
  | _, _, .nil, _ => .nil
  | _, _, .cons r t, f => .cons (f _ _ r) (Paired.mapP t f)
/-- what an object's description leans on: its own object, its own dict, the tuples -/
theorem ObjOk.stay (x : ObjOk P w H h a o) (k : ∀ b u, (b = a ∨ H b = some (.own a)) → h.get? b = some u → h'.get? b = some u)
    (ho : ∀ b, H b = some (.own a) → H' b = some (.own a)) (ht : ∀ b xs, H b = some (.tup xs) → H' b = some (.tup xs)) : ObjOk P w H' h' a o := by
  induction o with
  | lst xs => obtain ⟨z, its, n, r, e⟩ := x; exact ⟨z, its, n, r, k _ _ (.inl rfl) e⟩
  | tup xs => obtain ⟨z, its, r, ob, e, c⟩ := x; exact ⟨z, its, r, ob, k _ _ (.inl rfl) e, c⟩
  | dK kvs => obtain ⟨z, y, vs, r, ob, es, ep, e, c⟩ := x; exact ⟨z, y, vs, r, ob, es, ep, k _ _ (.inl rfl) e, c⟩
  | dT kvs =>
    obtain ⟨z, y, xs, r, ob, es, ep, e, c⟩ := x
    exact ⟨z, y, xs, Paired.mapP r fun p q z => ⟨z.1, ht _ _ z.2.1, z.2.2⟩, ob, es, ep, k _ _ (.inl rfl) e, c⟩
  | set S n => obtain ⟨ob, es, ep, t, e, c⟩ := x; exact ⟨ob, es, ep, t, k _ _ (.inl rfl) e, c⟩
  | ins C dx fs =>
    obtain ⟨d, z, ne, e, mA, ⟨od, es, ep, e2, c⟩, r⟩ := x
    exact ⟨ho _ d, z, ne, k _ _ (.inl rfl) e, mA, ⟨od, es, ep, k _ _ (.inr d) e2, c⟩, r⟩
  | own y => obtain ⟨ob, e⟩ := x; exact ⟨ob, k _ _ (.inl rfl) e⟩
  | xd fs => obtain ⟨mA, ⟨od, es, ep, e, c⟩, r⟩ := x; exact ⟨mA, ⟨od, es, ep, k _ _ (.inl rfl) e, c⟩, r⟩
  | rng lo hi => obtain ⟨t, u, v, e⟩ := x; exact ⟨t, u, v, k _ _ (.inl rfl) e⟩
  | frz ob u ih => obtain ⟨e, q⟩ := x; exact ⟨k _ _ (.inl rfl) e, ih q⟩
  | tbl ps =>
    have e : h.get? a = some { cls := .none, data := .fields ps } := x
    show h'.get? a = some { cls := .none, data := .fields ps }
    exact k a _ (.inl rfl) e
  | met f y =>
    have e : h.get? a = some (PySem.W.methodObj (.ref f) (.ref y)) := x
    show h'.get? a = some (PySem.W.methodObj (.ref f) (.ref y))
    exact k a _ (.inl rfl) e
  | ext φ => obtain ⟨p, ⟨o, e⟩, st⟩ := x; exact ⟨st _ _ p fun o q => k _ _ (.inl rfl) q, ⟨o, k _ _ (.inl rfl) e⟩, st⟩
theorem HOk.lt (x : HOk P w H h) (e : H a = some o) : a < h.objs.size := (x a o e).lt
theorem HOk.fresh (x : HOk P w H h) (e : h.objs.size ≤ a) : H a = none := by
  cases q : H a with
  | none => rfl
  | some u => exact absurd (Nat.lt_of_lt_of_le (x.lt q) e) (Nat.lt_irrefl _)
/-- every object of the heap is kept -/
theorem HOk.kept (x : HOk P w H h) (k : ∀ b u, h.get? b = some u → h'.get? b = some u) : HOk P w H h' := fun a o e =>
  (x a o e).stay (fun b u _ q => k b u q) (fun _ q => q) fun _ _ q => q
/-- a new object is laid and tracked -/
theorem HOk.laid (x : HOk P w H h) (k : ∀ b u, h.get? b = some u → h'.get? b = some u) (hp : h.objs.size ≤ a) (new : ObjOk P w (upd H a o) h' a o) : HOk P w (upd H a o) h' := fun b u e => by
  have hn := x.fresh hp
  by_cases hb : b = a
  · subst hb; rw [upd_same] at e; cases e; exact new
  · rw [upd_ne hb] at e
    exact (x b u e).stay (fun c v _ q => k c v q) (fun c q => by rw [upd_ne (ne_of_none q hn)]; exact q) fun c xs q => by rw [upd_ne (ne_of_none q hn)]; exact q
end

/-- what may be read as u: it is u, or a known u -/
def Rd (H : Hp) (a : Addr) (u : HO) : Prop := H a = some u ∨ ∃ o, H a = some (.frz o u)
theorem Rd.ok {P : Program} {w : World} {H : Hp} {h : Heap} {a : Addr} {u : HO} (r : Rd H a u) (x : HOk P w H h) : ObjOk P w H h a u := by
  rcases r with r | ⟨o, r⟩
  · exact x a u r
  · obtain ⟨_, q⟩ := x a _ r
    exact q
/-- what may be written -/
def Mut : Option HO → Prop
  | some (.lst _) => True
  | some (.dK _) => True
  | some (.dT _) => True
  | some (.set _ _) => True
  | some (.ins _ _ _) => True
  | some (.ext _) => True
  | _ => False
section
variable {P : Program} {w : World} {H : Hp} {h h' : Heap} {x e : Addr} {o' : HO}
/-- the object at e is changed: x itself, or the dict of the instance x -/
theorem HOk.write (ok : HOk P w H h) (mu : Mut (H x)) (he : e = x ∨ H e = some (.own x)) (k : ∀ b u, b ≠ e → h.get? b = some u → h'.get? b = some u) (heo : ∃ u, h'.get? e = some u)
    (new : ObjOk P w (upd H x o') h' x o') : HOk P w (upd H x o') h' := fun b u q => by
  have nown : ∀ c y, H c = some (.own y) → c ≠ x := fun c y r z => by subst z; rw [r] at mu; exact mu
  have ntup : ∀ c xs, H c = some (.tup xs) → c ≠ x := fun c xs r z => by subst z; rw [r] at mu; exact mu
  by_cases hb : b = x
  · subst hb; rw [upd_same] at q; cases q; exact new
  · rw [upd_ne hb] at q
    by_cases hbe : b = e
    · have q' : H b = some (.own x) := by
        rcases he with z | z
        · exact absurd (hbe.trans z) hb
        · rw [hbe]; exact z
      rw [q] at q'; cases q'
      obtain ⟨v, hv⟩ := heo
      exact ⟨v, by rw [hbe]; exact hv⟩
    · refine (ok b u q).stay (fun c v hc r => k c v ?_ r) (fun c r => by rw [upd_ne (nown c b r)]; exact r) fun c xs r => by rw [upd_ne (ntup c xs r)]; exact r
      rcases hc with rfl | hc
      · exact hbe
      · rintro rfl
        rcases he with z | z
        · exact nown c b hc z
        · rw [hc] at z; cases z; exact hb rfl
end

/-! ### kept unless tracked; of the frames at fs (the callers') the slots may change (an exception that passes writes there); of the records at ex (iterators) nothing is said -/
structure Un (fs ex : List Addr) (H H' : Hp) (h h' : Heap) : Prop where
  keep : ∀ b o, h.get? b = some o → H b = none → b ∉ fs → b ∉ ex → h'.get? b = some o
  slot : ∀ b o, h.get? b = some o → H b = none → b ∈ fs → b ∉ ex → ∃ sl, h'.get? b = some { o with slots := sl }
  free : ∀ b o, h.get? b = some o → H b = none → b ∉ ex → H' b = none
  there : ∀ b o, h.get? b = some o → b ∉ ex → ∃ o', h'.get? b = some o'
  tups : ∀ b xs, H b = some (.tup xs) → H' b = some (.tup xs)
  frzs : ∀ b o u, H b = some (.frz o u) → H' b = some (.frz o u)
  tbls : ∀ b ps, H b = some (.tbl ps) → ∃ more, H' b = some (.tbl (ps ++ more))
section
variable {fs fs' ex ex' : List Addr} {H H1 H2 : Hp} {h h1 h2 h' : Heap} {a x e : Addr} {o : HO}
theorem Un.any (u : Un fs ex H H1 h h1) {b : Addr} {ob : Obj} (q : h.get? b = some ob) (n : H b = none) (hx : b ∉ ex) : ∃ sl, h1.get? b = some { ob with slots := sl } := by
  by_cases hb : b ∈ fs
  · exact u.slot b ob q n hb hx
  · exact ⟨ob.slots, u.keep b ob q n hb hx⟩
theorem Un.kept (k : ∀ b u, h.get? b = some u → h'.get? b = some u) : Un fs ex H H h h' :=
  ⟨fun b ob q _ _ _ => k b ob q, fun b ob q _ _ _ => ⟨ob.slots, k b ob q⟩, fun _ _ _ n _ => n, fun b ob q _ => ⟨ob, k b ob q⟩, fun _ _ q => q, fun _ _ _ q => q, fun _ ps q => ⟨#[], by rw [q]; simp⟩⟩
theorem Un.refl : Un fs ex H H h h := Un.kept fun _ _ q => q
theorem Un.laid (k : ∀ b u, h.get? b = some u → h'.get? b = some u) (hp : h.objs.size ≤ a) (hn : H a = none) : Un fs ex H (upd H a o) h h' where
  keep := fun b u q _ _ _ => k b u q
  slot := fun b u q _ _ _ => ⟨u.slots, k b u q⟩
  free := fun b u q n _ => by rw [upd_ne (Nat.ne_of_lt (Nat.lt_of_lt_of_le (Heap.lt_size q) hp))]; exact n
  there := fun b u q _ => ⟨u, k b u q⟩
  tups := fun b xs q => by rw [upd_ne (ne_of_none q hn)]; exact q
  frzs := fun b u xs q => by rw [upd_ne (ne_of_none q hn)]; exact q
  tbls := fun b ps q => ⟨#[], by rw [upd_ne (ne_of_none q hn), q]; simp⟩
theorem Un.write (mu : Mut (H x)) (he : e = x ∨ H e = some (.own x)) (k : ∀ b u, b ≠ e → h.get? b = some u → h'.get? b = some u) (heo : ∃ u, h'.get? e = some u) : Un fs ex H (upd H x o) h h' := by
  have hx : ∀ b, H b = none → b ≠ x := fun b n z => by subst z; rw [n] at mu; exact mu
  have hb : ∀ b, H b = none → b ≠ e := fun b n z => by
    subst z
    rcases he with r | r
    · exact hx b n r
    · rw [n] at r; cases r
  have hm : ∀ b u, H b = some u → ¬ Mut (some u) → b ≠ x := fun b u q nm z => by subst z; rw [q] at mu; exact nm mu
  refine ⟨fun b u q n _ _ => k b u (hb b n) q, fun b u q n _ _ => ⟨u.slots, k b u (hb b n) q⟩, fun b u q n _ => by rw [upd_ne (hx b n)]; exact n, fun b u q _ => ?_,
    fun b xs q => by rw [upd_ne (hm b _ q fun z => z)]; exact q, fun b u xs q => by rw [upd_ne (hm b _ q fun z => z)]; exact q, fun b ps q => ⟨#[], by rw [upd_ne (hm b _ q fun z => z), q]; simp⟩⟩
  by_cases hbe : b = e
  · subst hbe; exact heo
  · exact ⟨u, k b u hbe q⟩
end

/-! ### the heap without what is tracked -/
def trk (h : Heap) (H : Hp) : List Addr := (List.range h.objs.size).filter fun a => (H a).isSome
def hidT (h : Heap) (H : Hp) : Heap := PySem.W.hideAll h (trk h H)
theorem hidT_size (h : Heap) (H : Hp) : (hidT h H).objs.size = h.objs.size := PySem.W.hideAll_size _ _
theorem hidT_get {h : Heap} {H : Hp} {b : Addr} {o : Obj} (e : h.get? b = some o) (n : H b = none) : (hidT h H).get? b = some o :=
  PySem.W.hideAll_get _ e fun hm => by
    have q : (H b).isSome = true := (List.mem_filter.mp hm).2
    rw [n] at q; simp at q
theorem of_hidT {h : Heap} {H : Hp} {b : Addr} {o : Obj} (e : (hidT h H).get? b = some o) : h.get? b = some o ∧ H b = none := by
  have e' : h.get? b = some o := PySem.W.of_hideAll (trk h H) e
  refine ⟨e', ?_⟩
  cases q : H b with
  | none => rfl
  | some x =>
    have hm : b ∈ trk h H := List.mem_filter.mpr ⟨List.mem_range.mpr (Heap.lt_size e'), by simp [q]⟩
    have z : (hidT h H).get? b = none := PySem.W.hideAll_none (trk h H) hm
    rw [z] at e; cases e

/-! ### OpenK's ledger, filled with every new object but one -/
end L2

namespace L2
open PySem PySem.Spec PyProof.Rows

/-- the module's facts, over the base: the heap at the law's entry without what is tracked there -/
structure Mod (K : PySem.W.Frag) (mg : Str → Option Value) (base : Heap) : Prop where
  kin : K.In base
  glob : base.Ns mainGlobals mg
  blt : ∃ mb, base.Ns builtinsNs mb ∧ ∀ x : Str, x ≠ "__name__" → mb x = bootBuiltins x
  nolimit : base.NoLimit

/-- the context: a def's body (or a comprehension's block) running. base: fixed through the whole law; s₀, H₀: the entry; outer: the frames whose slots others may change (a def's callers); stack: all frames that run;
   ex: iterators that were made ahead of the entry and are walked here (a comprehension's); fn: the names whose cells were made at the entry (a def: all; a comprehension's block: its own); calm: not within an except suite; pn: pins that every state bears; xe: what is wanted of an exception that leaves the code -/
structure Cx where
  prog : Program
  w : World
  K : PySem.W.Frag
  mg : Str → Option Value
  base : Heap
  A : Around
  N : List Str
  s_0 : Shared
  H_0 : Hp
  env : Env
  outer : List Env
  stack : List Env
  ex : List Addr
  fn : Str → Bool
  calm : Bool
  pn : List (Addr × Obj)
  xe : Value → Shared → Prop
/-- the callers' frames -/
def frs (l : List Env) : List Addr := l.filterMap (·.frame)
abbrev Cx.fs (X : Cx) : List Addr := frs X.outer

def Vis (sc : Scope) (x : Str) : Prop := sc.names.lookup x = some .local ∨ sc.names.lookup x = some .cell ∨ sc.names.lookup x = some .free
def Loc (sc : Scope) (x : Str) : Prop := sc.names.lookup x = some .local ∨ sc.names.lookup x = some .cell
def Look (env : Env) (h : Heap) (m : Str → Option Value) (x : Str) (u : Value) : Prop :=
  (env.kindOf x = some .local ∧ m x = some u) ∨ ((env.kindOf x = some .cell ∨ env.kindOf x = some .free) ∧ ∃ c, env.cells.lookup x = some c ∧ h.IsCell c (some u))

structure Cx.Ok (X : Cx) : Prop where
  mod : Mod X.K X.mg X.base
  kind : X.env.scope.kind = .function
  glob : X.env.globals = mainGlobals
  blt : X.env.builtins = builtinsNs
  above : X.s_0.heap.objs.size ≤ X.env.locals
  inj : ∀ x y c, X.env.cells.lookup x = some c → X.env.cells.lookup y = some c → x = y
  has : ∀ x, (X.env.kindOf x = some .cell ∨ X.env.kindOf x = some .free) → ∃ c, X.env.cells.lookup x = some c
  cab : ∀ x c, X.fn x = true → X.env.cells.lookup x = some c → X.s_0.heap.objs.size ≤ c
  hd : X.calm = true → X.A.handled = none
  frames : X.A.frames = some X.stack
  stk : X.stack = X.outer ∨ (X.stack = X.env :: X.outer ∧ X.env.frame = some X.env.locals)
  exf : ∀ b ∈ X.ex, b ≠ X.env.locals ∧ ∀ x c, X.env.cells.lookup x = some c → c ≠ b
  bs : ∀ b o, X.base.get? b = some o → X.s_0.heap.get? b = some o ∧ X.H_0 b = none
  bsz : X.base.objs.size ≤ X.s_0.heap.objs.size
  noex : ∀ b o, X.base.get? b = some o → b ∉ X.ex
  exfs : ∀ b ∈ X.ex, b ∉ X.fs
  funs : X.s_0.heap.FunFrames X.base X.outer
  frf : ∀ b ∈ X.fs, X.H_0 b = none

structure Inv (X : Cx) (pins : List (Addr × Obj)) (σ : List (Option V)) (H : Hp) (s : Shared) : Prop where
  ok : X.Ok
  os : s.os = X.s_0.os
  bare : AllBare s.gens
  base : Un X.fs X.ex X.H_0 H X.s_0.heap s.heap
  loc : ∃ m, s.heap.Ns X.env.locals m ∧ ∀ (i : Nat) (x : Str) (v : V), X.N[i]? = some x → σ[i]? = some (some v) → Vis X.env.scope x → ∃ u, RelV v u ∧ Look X.env s.heap m x u
  cell : ∀ x c, X.env.cells.lookup x = some c → ∃ v, s.heap.IsCell c v
  free : H X.env.locals = none
  freeC : ∀ x c, X.env.cells.lookup x = some c → H c = none
  pin : ∀ p ∈ X.pn ++ pins, s.heap.get? p.1 = some p.2 ∧ H p.1 = none ∧ p.1 ≠ X.env.locals ∧ p.1 ∉ X.fs ∧ ∀ v, p.2.data ≠ .cell v
  hok : HOk X.prog X.w H s.heap
  len : σ.length = X.N.length

section
variable {X : Cx} {pins : List (Addr × Obj)} {σ : List (Option V)} {H H' : Hp} {s : Shared} {h' : Heap}

theorem Cx.Ok.nofr (ok : X.Ok) {b : Addr} {o : Obj} (e : X.base.get? b = some o) : b ∉ X.fs := fun hb => by
  have := (ok.funs.mem hb).1
  rw [e] at this; cases this
theorem Inv.bs (I : Inv X pins σ H s) : ∀ b o, X.base.get? b = some o → s.heap.get? b = some o ∧ H b = none := fun b o e =>
  ⟨I.base.keep b o (I.ok.bs b o e).1 (I.ok.bs b o e).2 (I.ok.nofr e) (I.ok.noex b o e), I.base.free b o (I.ok.bs b o e).1 (I.ok.bs b o e).2 (I.ok.noex b o e)⟩
theorem Inv.bk (I : Inv X pins σ H s) : ∀ b o, X.base.get? b = some o → s.heap.get? b = some o := fun b o e => (I.bs b o e).1
theorem Inv.mod (I : Inv X pins σ H s) : Mod X.K X.mg X.base := I.ok.mod
theorem Inv.kIn (I : Inv X pins σ H s) : X.K.In s.heap := I.ok.mod.kin.keeps I.bk
theorem Inv.lt (I : Inv X pins σ H s) : X.env.locals < s.heap.objs.size := let ⟨_, hn, _⟩ := I.loc; hn.lt
theorem Inv.sz (I : Inv X pins σ H s) : X.s_0.heap.objs.size ≤ s.heap.objs.size := Nat.le_trans I.ok.above (Nat.le_of_lt I.lt)
theorem Inv.nofs (I : Inv X pins σ H s) {a : Addr} (h : s.heap.objs.size ≤ a) : a ∉ X.fs := fun hb => by
  obtain ⟨_, o, ho, _⟩ := I.ok.funs.mem hb
  exact absurd (Nat.lt_of_lt_of_le (Heap.lt_size ho) (Nat.le_trans I.sz h)) (Nat.lt_irrefl _)
theorem Inv.cne (I : Inv X pins σ H s) : ∀ x c, X.env.cells.lookup x = some c → c ≠ X.env.locals := fun x c e z => by
  obtain ⟨v, o, ho, hd⟩ := I.cell x c e
  obtain ⟨m, ⟨o', es, ep, ho', hd', _⟩, _⟩ := I.loc
  rw [z, ho'] at ho; cases ho; rw [hd'] at hd; cases hd
theorem Inv.funs (I : Inv X pins σ H s) : s.heap.FunFrames X.base X.outer := by
  have all : ∀ (l : List Env), (∀ b ∈ frs l, b ∈ X.fs) → X.s_0.heap.FunFrames X.base l → s.heap.FunFrames X.base l := by
    intro l
    induction l with
    | nil => intro _ _; trivial
    | cons env r ih =>
      intro hs hl
      obtain ⟨hk, ⟨L, o, hf, hn, ho, hd⟩, hr⟩ := hl
      have hL : L ∈ X.fs := hs L (by unfold frs; rw [List.filterMap_cons, hf]; exact List.mem_cons_self)
      obtain ⟨sl, e⟩ := I.base.slot L o ho (I.ok.frf L hL) hL fun z => I.ok.exfs L z hL
      exact ⟨hk, ⟨L, _, hf, hn, e, hd⟩, ih (fun b hb => hs b (by unfold frs; rw [List.filterMap_cons, hf]; exact List.mem_cons_of_mem _ hb)) hr⟩
  exact all X.outer (fun _ hb => hb) I.ok.funs

/-- the frames that run, for a call -/
theorem Inv.stack (I : Inv X pins σ H s) : s.heap.FunFrames X.base X.stack := by
  rcases I.ok.stk with e | ⟨e, hf⟩
  · rw [e]; exact I.funs
  · rw [e]
    obtain ⟨m, hn, _⟩ := I.loc
    refine .cons (by rw [I.ok.kind]; decide) hf hn ?_ I.funs
    exact Heap.get?_none_of_le (Nat.le_trans I.ok.bsz I.ok.above)
theorem Inv.stkSub (I : Inv X pins σ H s) : ∀ b ∈ frs X.stack, b ∈ X.env.locals :: X.fs := fun b hb => by
  rcases I.ok.stk with e | ⟨e, hf⟩
  · rw [e] at hb; exact List.mem_cons_of_mem _ hb
  · rw [e] at hb
    unfold frs at hb
    rw [List.filterMap_cons, hf] at hb
    exact hb
theorem Inv.stkFree (I : Inv X pins σ H s) : ∀ b ∈ frs X.stack, H b = none := fun b hb => by
  rcases List.mem_cons.mp (I.stkSub b hb) with e | hb
  · rw [e]; exact I.free
  · obtain ⟨_, o, ho, _⟩ := I.ok.funs.mem hb
    exact I.base.free b o ho (I.ok.frf b hb) fun z => I.ok.exfs b z hb

/-- THE STEP: the untracked objects but the frame and the records at ch are kept (the callers' frames up to slots), the frame's map is kept, the new abstract heap is held -/
theorem Inv.step {g' : Array GenState} {t' : Nat} {d' : Drawn} {ch : List Addr} (I : Inv X pins σ H s)
    (hch : ∀ b ∈ ch, (b ∈ X.ex ∨ X.s_0.heap.objs.size ≤ b) ∧ b ≠ X.env.locals ∧ (∀ x c, X.env.cells.lookup x = some c → c ≠ b) ∧ ∀ p ∈ X.pn ++ pins, p.1 ≠ b)
    (keep : ∀ b o, b ≠ X.env.locals → b ∉ X.fs → b ∉ ch → s.heap.get? b = some o → H b = none → h'.get? b = some o)
    (slot : ∀ b o, b ≠ X.env.locals → b ∈ X.fs → b ∉ ch → s.heap.get? b = some o → H b = none → ∃ sl, h'.get? b = some { o with slots := sl }) (free : ∀ b o, b ∉ ch → s.heap.get? b = some o → H b = none → H' b = none)
    (there : ∀ b o, b ∉ ch → s.heap.get? b = some o → ∃ o', h'.get? b = some o')
    (tups : ∀ b xs, H b = some (.tup xs) → H' b = some (.tup xs)) (frzs : ∀ b o u, H b = some (.frz o u) → H' b = some (.frz o u)) (tbls : ∀ b ps, H b = some (.tbl ps) → ∃ more, H' b = some (.tbl (ps ++ more)))
    (ns : ∀ m, s.heap.Ns X.env.locals m → h'.Ns X.env.locals m) (hok : HOk X.prog X.w H' h') (hg : AllBare g') :
    Inv X pins σ H' { s with heap := h', gens := g', drawn := d', toks := t' } := by
  have neL : ∀ b o, X.s_0.heap.get? b = some o → b ≠ X.env.locals := fun b o e => Nat.ne_of_lt (Nat.lt_of_lt_of_le (Heap.lt_size e) I.ok.above)
  have neC : ∀ b o, X.s_0.heap.get? b = some o → b ∉ X.ex → b ∉ ch := fun b o e hx hb => by
    rcases (hch b hb).1 with z | z
    · exact hx z
    · exact absurd (Nat.lt_of_lt_of_le (Heap.lt_size e) z) (Nat.lt_irrefl _)
  have cellK : ∀ x c, X.env.cells.lookup x = some c → ∀ v, s.heap.IsCell c v → h'.IsCell c v := fun x c e v ⟨o, ho, hd⟩ => by
    have nch : c ∉ ch := fun z => (hch c z).2.2.1 x c e rfl
    by_cases hc : c ∈ X.fs
    · obtain ⟨sl, q⟩ := slot c o (I.cne x c e) hc nch ho (I.freeC x c e)
      exact ⟨_, q, hd⟩
    · exact ⟨o, keep c o (I.cne x c e) hc nch ho (I.freeC x c e), hd⟩
  refine ⟨I.ok, I.os, hg, ⟨fun b o e n hb hx => ?_, fun b o e n hb hx => ?_, fun b o e n hx => ?_, fun b o e hx => ?_, fun b xs e => tups b xs (I.base.tups b xs e), fun b o xs e => frzs b o xs (I.base.frzs b o xs e), fun b ps e => ?_⟩, ?_, fun x c e => ?_, ?_, fun x c e => ?_, fun p hp => ?_, hok, I.len⟩
  · exact keep b o (neL b o e) hb (neC b o e hx) (I.base.keep b o e n hb hx) (I.base.free b o e n hx)
  · obtain ⟨sl, e1⟩ := I.base.slot b o e n hb hx
    obtain ⟨sl', e2⟩ := slot b _ (neL b o e) hb (neC b o e hx) e1 (I.base.free b o e n hx)
    exact ⟨sl', e2⟩
  · obtain ⟨o', e1⟩ := I.base.there b o e hx
    exact free b o' (neC b o e hx) e1 (I.base.free b o e n hx)
  · obtain ⟨o', e1⟩ := I.base.there b o e hx
    exact there b o' (neC b o e hx) e1
  · obtain ⟨m1, e1⟩ := I.base.tbls b ps e
    obtain ⟨m2, e2⟩ := tbls b _ e1
    exact ⟨m1 ++ m2, by rw [e2, Array.append_assoc]⟩
  · obtain ⟨m, hn, hl⟩ := I.loc
    refine ⟨m, ns m hn, fun i x v e1 e2 e3 => ?_⟩
    obtain ⟨u, r, l⟩ := hl i x v e1 e2 e3
    refine ⟨u, r, ?_⟩
    rcases l with l | ⟨k, c, e, z⟩
    · exact .inl l
    · exact .inr ⟨k, c, e, cellK x c e _ z⟩
  · obtain ⟨v, z⟩ := I.cell x c e
    exact ⟨v, cellK x c e v z⟩
  · obtain ⟨m, ⟨o, _, _, ho, _⟩, _⟩ := I.loc
    exact free _ o (fun z => (hch _ z).2.1 rfl) ho I.free
  · obtain ⟨v, o, ho, hd⟩ := I.cell x c e
    exact free c o (fun z => (hch c z).2.2.1 x c e rfl) ho (I.freeC x c e)
  · obtain ⟨e, n, ne, nf, d⟩ := I.pin p hp
    have nch : p.1 ∉ ch := fun z => (hch p.1 z).2.2.2 p hp rfl
    exact ⟨keep p.1 p.2 ne nf nch e n, free p.1 p.2 nch e n, ne, nf, d⟩
/-- .. where the frame's own object is kept too -/
theorem Inv.un {t' : Nat} (I : Inv X pins σ H s) (u : Un X.fs [] H H' s.heap h') (hok : HOk X.prog X.w H' h') : Inv X pins σ H' { s with heap := h', toks := t' } := by
  obtain ⟨m, ⟨o, es, ep, ho, r⟩, _⟩ := id I.loc
  obtain ⟨sl, hL⟩ := u.any ho I.free (by simp)
  exact I.step (g' := s.gens) (d' := s.drawn) (ch := []) (fun _ z => nomatch z) (fun b o _ hb _ e n => u.keep b o e n hb (by simp)) (fun b o _ hb _ e n => u.slot b o e n hb (by simp)) (fun b o _ e n => u.free b o e n (by simp)) (fun b o _ e => u.there b o e (by simp)) u.tups u.frzs u.tbls (fun m' hm => by
    obtain ⟨o', es', ep', ho', r'⟩ := hm
    rw [ho] at ho'; cases ho'
    exact ⟨_, es', ep', hL, r'⟩) hok I.bare
/-- behind a call (or a comprehension's block): the slots of this frame may have changed too, the records at ch may have turned -/
theorem Inv.call {g' : Array GenState} {t' : Nat} {d' : Drawn} {ch : List Addr} (I : Inv X pins σ H s) (u : Un (frs X.stack) ch H H' s.heap h') (hok : HOk X.prog X.w H' h') (hg : AllBare g')
    (hch : ∀ b ∈ ch, (b ∈ X.ex ∨ X.s_0.heap.objs.size ≤ b) ∧ b ≠ X.env.locals ∧ (∀ x c, X.env.cells.lookup x = some c → c ≠ b) ∧ ∀ p ∈ X.pn ++ pins, p.1 ≠ b) :
    Inv X pins σ H' { s with heap := h', gens := g', drawn := d', toks := t' } := by
  obtain ⟨m, ⟨o, es, ep, ho, r⟩, _⟩ := id I.loc
  obtain ⟨sl, hL⟩ := u.any ho I.free fun z => (hch _ z).2.1 rfl
  exact I.step (ch := ch) hch (fun b o hL hb hc e n => u.keep b o e n (fun z => (List.mem_cons.mp (I.stkSub b z)).elim hL hb) hc) (fun b o _ _ hc e n => u.any e n hc) (fun b o hc e n => u.free b o e n hc) (fun b o hc e => u.there b o e hc) u.tups u.frzs u.tbls (fun m' hm => by
    obtain ⟨o', es', ep', ho', r'⟩ := hm
    rw [ho] at ho'; cases ho'
    exact ⟨_, es', ep', hL, r'⟩) hok hg
/-- an untracked record of ours (an iterator) has turned -/
theorem Inv.turned {t' : Nat} {it : Addr} (I : Inv X pins σ H s) (k : ∀ b o, b ≠ it → s.heap.get? b = some o → h'.get? b = some o) (hn : H it = none) (hL : it ≠ X.env.locals)
    (h1 : it ∈ X.ex ∨ X.s_0.heap.objs.size ≤ it) (h2 : ∀ x c, X.env.cells.lookup x = some c → c ≠ it) (h3 : ∀ p ∈ X.pn ++ pins, p.1 ≠ it) : Inv X pins σ H { s with heap := h', toks := t' } := by
  have nit : ∀ b u, H b = some u → b ≠ it := fun b u e z => by rw [z, hn] at e; cases e
  refine I.step (g' := s.gens) (d' := s.drawn) (ch := [it]) (fun b hb => ?_) (fun b o _ _ hc e _ => k b o (fun z => hc (by simp [z])) e) (fun b o _ _ hc e _ => ⟨o.slots, k b o (fun z => hc (by simp [z])) e⟩) (fun _ _ _ _ n => n)
    (fun b o hc e => ⟨o, k b o (fun z => hc (by simp [z])) e⟩) (fun _ _ e => e) (fun _ _ _ e => e) (fun b ps e => ⟨#[], by rw [e]; simp⟩) (fun m hm => ?_) (fun b u e => ?_) I.bare
  · have e : b = it := by simpa using hb
    subst e
    exact ⟨h1, hL, h2, h3⟩
  · obtain ⟨o, es, ep, ho, r⟩ := hm
    exact ⟨o, es, ep, k _ o (Ne.symm hL) ho, r⟩
  · refine (I.hok b u e).stay (fun c v hc q => k c v ?_ q) (fun _ q => q) fun _ _ q => q
    rcases hc with z | z
    · rw [z]; exact nit b u e
    · exact nit c _ z
theorem Inv.tok (I : Inv X pins σ H s) (t : Nat) : Inv X pins σ H { s with toks := t } := I.un (h' := s.heap) (t' := t) Un.refl I.hok
/-- all objects kept -/
theorem Inv.kept {t' : Nat} (I : Inv X pins σ H s) (k : ∀ b u, s.heap.get? b = some u → h'.get? b = some u) : Inv X pins σ H { s with heap := h', toks := t' } := I.un (Un.kept k) (I.hok.kept k)
/-- a new object laid and tracked -/
theorem Inv.laid {a : Addr} {o : HO} {t' : Nat} (I : Inv X pins σ H s) (k : ∀ b u, s.heap.get? b = some u → h'.get? b = some u) (hp : s.heap.objs.size ≤ a) (new : ObjOk X.prog X.w (upd H a o) h' a o) :
    Inv X pins σ (upd H a o) { s with heap := h', toks := t' } := I.un (Un.laid k hp (I.hok.fresh hp)) (I.hok.laid k hp new)
/-- an object written -/
theorem Inv.write {x e : Addr} {o : HO} {t' : Nat} (I : Inv X pins σ H s) (mu : Mut (H x)) (he : e = x ∨ H e = some (.own x)) (k : ∀ b u, b ≠ e → s.heap.get? b = some u → h'.get? b = some u) (heo : ∃ u, h'.get? e = some u)
    (new : ObjOk X.prog X.w (upd H x o) h' x o) : Inv X pins σ (upd H x o) { s with heap := h', toks := t' } := I.un (Un.write mu he k heo) (I.hok.write mu he k heo new)
/-- forgetting slots, pins -/
theorem Inv.weak {σ' : List (Option V)} (I : Inv X pins σ H s) (hl : σ'.length = σ.length) (w : ∀ (i : Nat) v, σ'[i]? = some (some v) → σ[i]? = some (some v)) : Inv X pins σ' H s :=
  ⟨I.ok, I.os, I.bare, I.base, let ⟨m, hn, hl'⟩ := I.loc; ⟨m, hn, fun i x v e1 e2 e3 => hl' i x v e1 (w i v e2) e3⟩, I.cell, I.free, I.freeC, I.pin, I.hok, hl.trans I.len⟩
theorem Inv.pins_of {pins' : List (Addr × Obj)} (I : Inv X pins σ H s) (h : ∀ p ∈ pins', s.heap.get? p.1 = some p.2 ∧ H p.1 = none ∧ p.1 ≠ X.env.locals ∧ p.1 ∉ X.fs ∧ ∀ v, p.2.data ≠ .cell v) : Inv X pins' σ H s :=
  ⟨I.ok, I.os, I.bare, I.base, I.loc, I.cell, I.free, I.freeC, fun p hp => (List.mem_append.mp hp).elim (fun z => I.pin p (List.mem_append_left _ z)) (h p), I.hok, I.len⟩

theorem nodup_ix {N : List Str} (hN : N.Nodup) {i j : Nat} {x : Str} (a : N[i]? = some x) (b : N[j]? = some x) : i = j := by
  obtain ⟨h1, e1⟩ := List.getElem?_eq_some_iff.mp a
  obtain ⟨h2, e2⟩ := List.getElem?_eq_some_iff.mp b
  exact (List.getElem_inj hN).mp (e1.trans e2.symm)

/-- a name is stored; what changed -/
theorem store_ok2 {M : Model} {A : Around} {E : Value → Shared → Prop} {i : Nat} {x : Str} {v : V} {u : Value} {Q : Unit → Shared → Prop} (I : Inv X pins σ H s) (hN : X.N.Nodup) (hi : X.N[i]? = some x) (hx : Loc X.env.scope x) (r : RelV v u)
    (h : ∀ s', Inv X pins (σ.set i (some v)) H s' → (∃ a, Heap.SameBut a s.heap s'.heap ∧ (a = X.env.locals ∨ X.env.cells.lookup x = some a)) → Q () s') (hf : X.fn x = true ∨ X.env.scope.names.lookup x = some .local := by first | exact .inl rfl | exact .inr rfl | assumption) : wpAny M A (storeName X.env x u) Q E s := by
  obtain ⟨m, hn, hl⟩ := id I.loc
  have hcls : (X.env.scope.kind == .class || (X.env.scope.kind == .module && X.env.locals != X.env.globals)) = false := by rw [I.ok.kind]; rfl
  have hiσ : i < σ.length := by rw [I.len]; exact (List.getElem?_eq_some_iff.mp hi).1
  have cne := I.cne
  have tracked : ∀ {a : Addr} {h' : Heap}, (∃ o, s.heap.get? a = some o ∧ H a = none) → Heap.SameBut a s.heap h' → HOk X.prog X.w H h' := fun {a h'} ha hs b ob e => by
    obtain ⟨_, _, hfree⟩ := ha
    refine (I.hok b ob e).stay (fun c w' hc q => (hs.2 c ?_).trans q) (fun _ q => q) fun _ _ q => q
    rintro rfl
    rcases hc with rfl | hc
    · rw [hfree] at e; cases e
    · rw [hfree] at hc; cases hc
  rcases hx with hk | hk
  · refine wpAny_storeName_local hk hn (fun h' hn' hs => ?_) hcls
    obtain ⟨oL, _, _, hoL, _⟩ := id hn
    refine h _ ⟨I.ok, I.os, I.bare, ⟨fun b o e n hb hx => ?_, fun b o e n hb hx => ?_, I.base.free, fun b o e hx => ?_, I.base.tups, I.base.frzs, I.base.tbls⟩, ⟨_, hn', fun j y v' e1 e2 e3 => ?_⟩, fun y c e => ?_, I.free, I.freeC, fun p hp => ?_, tracked ⟨oL, hoL, I.free⟩ hs, by simpa using I.len⟩ ⟨_, hs, .inl rfl⟩
    · exact (hs.2 b (Nat.ne_of_lt (Nat.lt_of_lt_of_le (Heap.lt_size e) I.ok.above))).trans (I.base.keep b o e n hb hx)
    · obtain ⟨sl, e1⟩ := I.base.slot b o e n hb hx
      exact ⟨sl, (hs.2 b (Nat.ne_of_lt (Nat.lt_of_lt_of_le (Heap.lt_size e) I.ok.above))).trans e1⟩
    · obtain ⟨o', e1⟩ := I.base.there b o e hx
      exact ⟨o', (hs.2 b (Nat.ne_of_lt (Nat.lt_of_lt_of_le (Heap.lt_size e) I.ok.above))).trans e1⟩
    · by_cases hj : j = i
      · subst hj
        rw [hi] at e1; cases e1
        rw [List.getElem?_set_self hiσ] at e2
        cases e2
        exact ⟨u, r, .inl ⟨hk, by simp⟩⟩
      · rw [List.getElem?_set_ne (Ne.symm hj)] at e2
        obtain ⟨u', r', q⟩ := hl j y v' e1 e2 e3
        refine ⟨u', r', ?_⟩
        rcases q with ⟨k, e⟩ | ⟨k, c, e, z⟩
        · refine .inl ⟨k, ?_⟩
          have : y ≠ x := fun e => hj (nodup_ix hN e1 (e ▸ hi))
          simp [this, e]
        · exact .inr ⟨k, c, e, z.sameBut hs (cne y c e)⟩
    · obtain ⟨w', z⟩ := I.cell y c e
      exact ⟨w', z.sameBut hs (cne y c e)⟩
    · obtain ⟨e, n, ne, nf, d⟩ := I.pin p hp
      exact ⟨(hs.2 p.1 ne).trans e, n, ne, nf, d⟩
  · have hfn : X.fn x = true := by
      rcases hf with z | z
      · exact z
      · rw [z] at hk; cases hk
    obtain ⟨c, hc⟩ := I.ok.has x (.inl hk)
    obtain ⟨w', z⟩ := I.cell x c hc
    refine wpAny_storeName_cell I.ok.kind hk hc z (fun h' hc' hs => ?_)
    obtain ⟨oc, hoc, hocd⟩ := id z
    refine h { s with heap := h' } ⟨I.ok, I.os, I.bare, ⟨fun b o e n hb hx => ?_, fun b o e n hb hx => ?_, I.base.free, fun b o e hx => ?_, I.base.tups, I.base.frzs, I.base.tbls⟩, ⟨m, hn.sameBut hs (Ne.symm (cne x c hc)), fun j y v' e1 e2 e3 => ?_⟩, fun y c' e => ?_, I.free, I.freeC, fun p hp => ?_, tracked ⟨oc, hoc, I.freeC x c hc⟩ hs, by simpa using I.len⟩ ⟨c, hs, .inr hc⟩
    · exact (hs.2 b (Nat.ne_of_lt (Nat.lt_of_lt_of_le (Heap.lt_size e) (I.ok.cab x c hfn hc)))).trans (I.base.keep b o e n hb hx)
    · obtain ⟨sl, e1⟩ := I.base.slot b o e n hb hx
      exact ⟨sl, (hs.2 b (Nat.ne_of_lt (Nat.lt_of_lt_of_le (Heap.lt_size e) (I.ok.cab x c hfn hc)))).trans e1⟩
    · obtain ⟨o', e1⟩ := I.base.there b o e hx
      exact ⟨o', (hs.2 b (Nat.ne_of_lt (Nat.lt_of_lt_of_le (Heap.lt_size e) (I.ok.cab x c hfn hc)))).trans e1⟩
    · by_cases hj : j = i
      · subst hj
        rw [hi] at e1; cases e1
        rw [List.getElem?_set_self hiσ] at e2
        cases e2
        exact ⟨u, r, .inr ⟨.inl hk, c, hc, hc'⟩⟩
      · rw [List.getElem?_set_ne (Ne.symm hj)] at e2
        obtain ⟨u', r', q⟩ := hl j y v' e1 e2 e3
        refine ⟨u', r', ?_⟩
        rcases q with q | ⟨k, c', e, z'⟩
        · exact .inl q
        · refine .inr ⟨k, c', e, z'.sameBut hs ?_⟩
          rintro rfl
          exact hj (nodup_ix hN e1 (I.ok.inj _ _ _ e hc ▸ hi))
    · by_cases hcc : c' = c
      · subst hcc; exact ⟨_, hc'⟩
      · obtain ⟨w2, z2⟩ := I.cell y c' e
        exact ⟨w2, z2.sameBut hs hcc⟩
    · obtain ⟨e, n, ne, nf, d⟩ := I.pin p hp
      refine ⟨(hs.2 p.1 ?_).trans e, n, ne, nf, d⟩
      intro q
      rw [q, hoc] at e
      have q' : oc = p.2 := Option.some.inj e
      exact d w' (by rw [← q']; exact hocd)
theorem store_ok {M : Model} {A : Around} {E : Value → Shared → Prop} {i : Nat} {x : Str} {v : V} {u : Value} {Q : Unit → Shared → Prop} (I : Inv X pins σ H s) (hN : X.N.Nodup) (hi : X.N[i]? = some x) (hx : Loc X.env.scope x) (r : RelV v u)
    (h : ∀ s', Inv X pins (σ.set i (some v)) H s' → Q () s') (hf : X.fn x = true ∨ X.env.scope.names.lookup x = some .local := by first | exact .inl rfl | exact .inr rfl | assumption) : wpAny M A (storeName X.env x u) Q E s :=
  store_ok2 I hN hi hx r (fun s' I' _ => h s' I') hf
/-- behind a call or a block, the state as it is -/
theorem Inv.call' {s' : Shared} {ch : List Addr} (I : Inv X pins σ H s) (ho : s'.os = s.os) (u : Un (frs X.stack) ch H H' s.heap s'.heap) (hok : HOk X.prog X.w H' s'.heap) (hg : AllBare s'.gens)
    (hch : ∀ b ∈ ch, (b ∈ X.ex ∨ X.s_0.heap.objs.size ≤ b) ∧ b ≠ X.env.locals ∧ (∀ x c, X.env.cells.lookup x = some c → c ≠ b) ∧ ∀ p ∈ X.pn ++ pins, p.1 ≠ b) : Inv X pins σ H' s' := by
  obtain ⟨h', g', d', t', o'⟩ := s'
  have e : o' = s.os := ho
  subst e
  exact I.call (g' := g') (t' := t') (d' := d') u hok hg hch
end

/-! ### the judgements -/
/-- an exception: its class, its own dict's address (where it has one), the abstract heap behind it -/
abbrev XK := Value → Option Addr → Hp → Prop
abbrev St := List (Option V)
abbrev VK := V → Hp → Prop
/-- an expression's reading; a test's; an argument list's -/
abbrev TE := St → Hp → VK → Prop
abbrev TT := St → Hp → (Bool → Hp → Prop) → Prop
abbrev TA := St → Hp → (List V → Hp → Prop) → Prop
/-- what is wanted behind a statement -/
structure Ends where
  nx : St → Hp → Prop
  rt : VK
  bk : St → Hp → Prop := fun _ _ => False
  ct : St → Hp → Prop := fun _ _ => False
abbrev TS := Ends → St → Hp → Prop

def EP (X : Cx) (pins : List (Addr × Obj)) (σ : St) (Q : VK) (u : Value) (s' : Shared) : Prop := ∃ v H', Inv X pins σ H' s' ∧ RelV v u ∧ Q v H'
def TP (X : Cx) (pins : List (Addr × Obj)) (σ : St) (Q : Bool → Hp → Prop) (b : Bool) (s' : Shared) : Prop := ∃ H', Inv X pins σ H' s' ∧ Q b H'
def AP (X : Cx) (pins : List (Addr × Obj)) (σ : St) (Q : List V → Hp → Prop) (us : List Value) (s' : Shared) : Prop := ∃ vs H', Inv X pins σ H' s' ∧ Vals vs us ∧ Q vs H'
def SP (X : Cx) (pins : List (Addr × Obj)) (D : Ends) (f : Flow) (s' : Shared) : Prop :=
  match f with
  | .next => ∃ σ' H', Inv X pins σ' H' s' ∧ D.nx σ' H'
  | .brk => ∃ σ' H', Inv X pins σ' H' s' ∧ D.bk σ' H'
  | .cont => ∃ σ' H', Inv X pins σ' H' s' ∧ D.ct σ' H'
  | .ret u => ∃ v σ' H', Inv X pins σ' H' s' ∧ RelV v u ∧ D.rt v H'

def PE (X : Cx) (e : Expr) (t : TE) : Prop :=
  ∀ (pins : List (Addr × Obj)) (s : Shared) (σ : St) (H : Hp) (Q : VK), Inv X pins σ H s → t σ H Q → wpAny (model X.prog X.w) X.A (eval e X.env) (EP X pins σ Q) X.xe s
def PT (X : Cx) (e : Expr) (t : TT) : Prop :=
  ∀ (pins : List (Addr × Obj)) (s : Shared) (σ : St) (H : Hp) (Q : Bool → Hp → Prop), Inv X pins σ H s → t σ H Q → wpAny (model X.prog X.w) X.A (isTrue e X.env (eval e X.env)) (TP X pins σ Q) X.xe s
/-- a test whatever its 'whole' is (and, or) -/
def PW (X : Cx) (e : Expr) (t : TT) : Prop :=
  ∀ (whole : Sem Value) (pins : List (Addr × Obj)) (s : Shared) (σ : St) (H : Hp) (Q : Bool → Hp → Prop), Inv X pins σ H s → t σ H Q → wpAny (model X.prog X.w) X.A (isTrue e X.env whole) (TP X pins σ Q) X.xe s
theorem PW.pt {X : Cx} {e : Expr} {t : TT} (h : PW X e t) : PT X e t := h _
/-- an argument list (no star), from the left -/
def PA (X : Cx) (es : List Expr) (t : TA) : Prop :=
  ∀ (pos : Pos) (pins : List (Addr × Obj)) (s : Shared) (σ : St) (H : Hp) (Q : List V → Hp → Prop), Inv X pins σ H s → t σ H Q → wpAny (model X.prog X.w) X.A (spliced (backTo pos (starEach es X.env))) (AP X pins σ Q) X.xe s
def PS (X : Cx) (st : Stmt) (t : TS) : Prop :=
  ∀ (pins : List (Addr × Obj)) (s : Shared) (σ : St) (H : Hp) (D : Ends), Inv X pins σ H s → t D σ H → wpAny (model X.prog X.w) X.A (exec st X.env) (SP X pins D) X.xe s
def PSs (X : Cx) (st : List Stmt) (t : TS) : Prop :=
  ∀ (pins : List (Addr × Obj)) (s : Shared) (σ : St) (H : Hp) (D : Ends), Inv X pins σ H s → t D σ H → wpAny (model X.prog X.w) X.A (execs st X.env) (SP X pins D) X.xe s
/-- weaken the end -/
theorem thn {α : Type} {t : Sem α} {Q Q' : α → Shared → Prop} {M : Model} {A : Around} {E : Value → Shared → Prop} {s : Shared} (h : wpAny M A t Q E s) (hQ : ∀ a s, Q a s → Q' a s) : wpAny M A t Q' E s := wpAny_mono h hQ fun _ _ x => x
end L2

namespace L2
open PySem PySem.Spec PyProof.Rows
section
variable {X : Cx}


/-! ### names and constants -/
def tVar (i : Nat) : TE := fun σ H Q => ∃ v, σ[i]? = some (some v) ∧ Q v H
def tC (v : V) : TE := fun _ H Q => Q v H
theorem pe_var {i : Nat} {x : Str} {pos : Pos} (hN : X.N[i]? = some x) (hv : Vis X.env.scope x) (hd : (x == ("__debug__" : Str)) = false := by decide) (hcd : (x == ("__classdict__" : Str)) = false := by decide) : PE X (.Name x pos) (tVar i) := by
  intro pins s σ H Q I h
  obtain ⟨v, e, h⟩ := h
  obtain ⟨m, hn, hl⟩ := I.loc
  obtain ⟨u, r, l⟩ := hl i x v hN e hv
  have fin : EP X pins σ Q u s := ⟨v, H, I, r, h⟩
  rcases l with ⟨hk, hm⟩ | ⟨hk, c, hc, hcell⟩
  · exact wpAny_Name (wpAny_loadName_local I.ok.kind hk hn hm fin) hd
  · rcases hk with hk | hk
    · exact wpAny_Name (wpAny_loadName_cell I.ok.kind hk hc hcell fin) hd
    · exact wpAny_Name (wpAny_loadName_free I.ok.kind hk hc hcell fin hcd) hd
theorem pe_int {i j pos} : PE X (.Constant (.int i) j pos) (tC (.int i)) := fun _ _ _ H _ I h => wpAny_Constant_int ⟨.int i, H, I.tok _, ⟨_, rfl⟩, h⟩
theorem pe_bl {b j pos} : PE X (.Constant (.bool b) j pos) (tC (.bl b)) := fun _ _ _ H _ I h => Constant_bool ⟨.bl b, H, I, rfl, h⟩

/-- a global name of the def -/
def Gl (X : Cx) (x : Str) : Prop := X.env.kindOf x = some .globalImplicit
theorem ld_glob {E : Value → Shared → Prop} {pins : List (Addr × Obj)} {s : Shared} {σ : St} {H : Hp} {x : Str} {u : Value} {pos : Pos} {Q : Value → Shared → Prop} (I : Inv X pins σ H s) (hg : Gl X x) (hm : X.mg x = some u) (h : Q u s)
    (hd : (x == ("__debug__" : Str)) = false := by decide) : wpAny (model X.prog X.w) X.A (eval (.Name x pos) X.env) Q E s :=
  Calls.Name_function_global I.ok.kind hg (Calls.loadGlobal_global (by rw [I.ok.glob]; exact I.mod.glob.keeps I.bk) hm h) hd
theorem ld_blt {E : Value → Shared → Prop} {pins : List (Addr × Obj)} {s : Shared} {σ : St} {H : Hp} {x : Str} {u : Value} {pos : Pos} {Q : Value → Shared → Prop} (I : Inv X pins σ H s) (hg : Gl X x) (hm : X.mg x = none) (hv : bootBuiltins x = some u) (h : Q u s)
    (hn : x ≠ "__name__" := by decide) (hd : (x == ("__debug__" : Str)) = false := by decide) : wpAny (model X.prog X.w) X.A (eval (.Name x pos) X.env) Q E s := by
  obtain ⟨mb, h1, h2⟩ := I.mod.blt
  exact Calls.Name_function_global I.ok.kind hg (Calls.loadGlobal_builtin (by rw [I.ok.glob]; exact I.mod.glob.keeps I.bk) hm (by rw [I.ok.blt]; exact h1.keeps I.bk) ((h2 x hn).trans hv) h) hd
/-- a module's constant, a class, a function, as a value -/
theorem pe_glob {x : Str} {v : V} {u : Value} {pos : Pos} (hg : Gl X x) (hm : X.mg x = some u) (r : RelV v u) (hd : (x == ("__debug__" : Str)) = false := by decide) : PE X (.Name x pos) (tC v) :=
  fun _ _ _ H _ I h => ld_glob I hg hm ⟨v, H, I, r, h⟩ hd

/-! ### arithmetic -/
variable {a b : Expr} {ta tb : TE} {pos : Pos}

/-! ### comparisons -/
/-- a comparison as a value, as a test -/
def tB (t : TE) : TT := fun σ H Q => t σ H fun x H1 => ∃ c, x = .bl c ∧ Q c H1
/-- an expression whose value is a bool, as a test -/
theorem pt_val {e : Expr} {t : TE} (h : PE X e t) (he : ∀ whole, isTrue e X.env whole = (do let v ← whole; standAt e.pos; holding [v] (truthy v)) := by intro _; rfl) : PT X e (tB t) := by
  intro pins s σ H Q I hw
  refine isTrue_plain (thn (h pins s σ H _ I hw) fun v s1 ⟨x, H1, I1, r1, q1⟩ => ?_) (he _)
  obtain ⟨d, rfl, q⟩ := q1
  cases r1
  exact wpAny_truthy_bool ⟨H1, I1, q⟩

/-! ### and, or, not -/
variable {tA tB' : TT} {rest : List Expr}
def tAnd (t u : TT) : TT := fun σ H Q => t σ H fun c H1 => if c = true then u σ H1 Q else Q false H1
def tOr (t u : TT) : TT := fun σ H Q => t σ H fun c H1 => if c = true then Q true H1 else u σ H1 Q
def tNot (t : TT) : TT := fun σ H Q => t σ H fun c H1 => Q (!c) H1
theorem pw_and1 (ha : PT X a tA) : PW X (.BoolOp .And [a] pos) tA := by
  intro wh pins s σ H Q I h
  refine isTrue_and (thn (ha pins s σ H Q I h) fun c s1 e => ?_)
  cases c with
  | true => exact isTrue_and_nil e
  | false => exact e
theorem pw_or1 (ha : PT X a tA) : PW X (.BoolOp .Or [a] pos) tA := by
  intro wh pins s σ H Q I h
  refine isTrue_or (thn (ha pins s σ H Q I h) fun c s1 e => ?_)
  cases c with
  | false => exact isTrue_or_nil e
  | true => exact e
theorem pw_and (ha : PT X a tA) (hb : PW X (.BoolOp .And (b :: rest) pos) tB') : PW X (.BoolOp .And (a :: b :: rest) pos) (tAnd tA tB') := by
  intro wh pins s σ H Q I h
  refine isTrue_and (thn (ha pins s σ H _ I h) fun c s1 ⟨H1, I1, q1⟩ => ?_)
  cases c with
  | true => exact hb wh pins s1 σ H1 Q I1 q1
  | false => exact ⟨H1, I1, q1⟩
theorem pw_or (ha : PT X a tA) (hb : PW X (.BoolOp .Or (b :: rest) pos) tB') : PW X (.BoolOp .Or (a :: b :: rest) pos) (tOr tA tB') := by
  intro wh pins s σ H Q I h
  refine isTrue_or (thn (ha pins s σ H _ I h) fun c s1 ⟨H1, I1, q1⟩ => ?_)
  cases c with
  | true => exact ⟨H1, I1, q1⟩
  | false => exact hb wh pins s1 σ H1 Q I1 q1
theorem pt_not (ha : PT X a tA) : PT X (.UnaryOp .Not a pos) (tNot tA) := by
  intro pins s σ H Q I h
  exact isTrue_not (ha pins s σ H (fun c H1 => Q (!c) H1) I h)
/-- .. as values (bools) -/
def tAndV (ta tb : TE) : TE := fun σ H Q => ta σ H fun x H1 => ∃ c, x = .bl c ∧ if c = true then tb σ H1 Q else Q (.bl false) H1
def tOrV (ta tb : TE) : TE := fun σ H Q => ta σ H fun x H1 => ∃ c, x = .bl c ∧ if c = true then Q (.bl true) H1 else tb σ H1 Q
def tNotV (ta : TE) : TE := fun σ H Q => ta σ H fun x H1 => ∃ c, x = .bl c ∧ Q (.bl (!c)) H1
theorem pe_one {op} {t : TE} (h : PE X a t) : PE X (.BoolOp op [a] pos) t := fun pins s σ H Q I hw => BoolOp_one (h pins s σ H Q I hw)
theorem pe_and (ha : PE X a ta) (hb : PE X (.BoolOp .And (b :: rest) pos) tb) : PE X (.BoolOp .And (a :: b :: rest) pos) (tAndV ta tb) := by
  intro pins s σ H Q I h
  refine BoolOp_and (thn (ha pins s σ H _ I h) fun v s1 ⟨x, H1, I1, r1, q1⟩ => ?_)
  obtain ⟨c, rfl, q1⟩ := q1
  cases r1
  refine wpAny_truthy_bool ?_
  cases c with
  | true => exact hb pins s1 σ H1 Q I1 q1
  | false => exact ⟨.bl false, H1, I1, rfl, q1⟩
theorem pe_or (ha : PE X a ta) (hb : PE X (.BoolOp .Or (b :: rest) pos) tb) : PE X (.BoolOp .Or (a :: b :: rest) pos) (tOrV ta tb) := by
  intro pins s σ H Q I h
  refine BoolOp_or (thn (ha pins s σ H _ I h) fun v s1 ⟨x, H1, I1, r1, q1⟩ => ?_)
  obtain ⟨c, rfl, q1⟩ := q1
  cases r1
  refine wpAny_truthy_bool ?_
  cases c with
  | false => exact hb pins s1 σ H1 Q I1 q1
  | true => exact ⟨.bl true, H1, I1, rfl, q1⟩
theorem pe_not (ha : PE X a ta) : PE X (.UnaryOp .Not a pos) (tNotV ta) := by
  intro pins s σ H Q I h
  refine UnaryOp_ (thn (ha pins s σ H _ I h) fun v s1 ⟨x, H1, I1, r1, q1⟩ => ?_)
  obtain ⟨c, rfl, q1⟩ := q1
  cases r1
  exact not_of (wpAny_truthy_bool ⟨.bl (!c), H1, I1, rfl, q1⟩)
/-- a if t else b -/
def tIf (t : TT) (ta tb : TE) : TE := fun σ H Q => t σ H fun c H1 => if c = true then ta σ H1 Q else tb σ H1 Q
theorem pe_ifExp {c : Expr} (hc : PT X c tA) (ha : PE X a ta) (hb : PE X b tb) : PE X (.IfExp c a b pos) (tIf tA ta tb) := by
  intro pins s σ H Q I h
  refine wpAny_IfExp (thn (hc pins s σ H _ I h) fun d s1 ⟨H1, I1, q1⟩ => ?_)
  cases d with
  | true => exact ha pins s1 σ H1 Q I1 q1
  | false => exact hb pins s1 σ H1 Q I1 q1
end
end L2

namespace L2
open PySem PySem.Spec PyProof.Rows

/-! ### a list, a tuple that is read: tracked, frozen, or an object of the module -/
def SqL (K : PySem.W.Frag) (H : Hp) (a : Addr) (xs : List V) : Prop :=
  Rd H a (.lst xs) ∨
    ∃ (o : Obj) (its : Array Value) (n : Nat), K.lookup a = some o ∧ o.cls = .type "list" ∧ o.dict = none ∧ o.data = .seq its n ∧ its.size ≤ sizeLine ∧ Vals xs its.toList
def SqT (K : PySem.W.Frag) (H : Hp) (a : Addr) (xs : List V) : Prop :=
  Rd H a (.tup xs) ∨
    ∃ (o : Obj) (its : Array Value) (n : Nat), K.lookup a = some o ∧ o.cls = .type "tuple" ∧ o.data = .seq its n ∧ its.size ≤ sizeLine ∧ Vals xs its.toList
def absV : Value → Option V
  | .none => some .non
  | .bool b => some (.bl b)
  | .int i _ => some (.int i)
  | .str x _ => some (.str x)
  | .bytes b _ => some (.byt b)
  | .float b _ => some (.flt b)
  | .ref a => some (.ref a)
  | .type n => some (.ty n)
  | _ => none
theorem RelV.abs {x : V} {u : Value} (r : RelV x u) : absV u = some x := by
  cases x with
  | non => cases r; rfl
  | bl _ => cases r; rfl
  | int _ => obtain ⟨t, rfl⟩ := r; rfl
  | str _ => obtain ⟨t, rfl⟩ := r; rfl
  | byt _ => obtain ⟨t, rfl⟩ := r; rfl
  | flt _ => obtain ⟨t, rfl⟩ := r; rfl
  | ref _ => cases r; rfl
  | ty _ => cases r; rfl
theorem RelV.inj {x y : V} {u : Value} (r : RelV x u) (q : RelV y u) : x = y := Option.some.inj (r.abs.symm.trans q.abs)
theorem Vals.inj : ∀ {xs ys : List V} {us : List Value}, Vals xs us → Vals ys us → xs = ys
  | _, _, _, .nil, .nil => rfl
  | _, _, _, .cons r t, .cons r' t' => by rw [r.inj r', Vals.inj t t']
section
variable {X : Cx} {pins : List (Addr × Obj)} {σ : St} {H : Hp} {s : Shared} {a : Addr} {xs ys : List V}
theorem SqL.of {K : PySem.W.Frag} (h : H a = some (.lst xs)) : SqL K H a xs := .inl (.inl h)
theorem SqT.of {K : PySem.W.Frag} (h : H a = some (.tup xs)) : SqT K H a xs := .inl (.inl h)
theorem Inv.list (I : Inv X pins σ H s) (h : SqL X.K H a xs) : ∃ its : List Value, Vals xs its ∧ PlainL s.heap a its.toArray ∧ xs.length ≤ sizeLine := by
  rcases h with h | ⟨o, its, n, hk, hc, hd, hs, hz, r⟩
  · obtain ⟨z, its, n, r, e⟩ := h.ok I.hok
    exact ⟨its, r, ⟨_, n, e, rfl, rfl, rfl⟩, z⟩
  · refine ⟨its.toList, r, ⟨o, n, I.kIn a o hk, hc, hd, by simpa using hs⟩, ?_⟩
    have e := r.length
    simp only [Array.length_toList] at e
    omega
theorem Inv.tuple (I : Inv X pins σ H s) (h : SqT X.K H a xs) : ∃ its : List Value, Vals xs its ∧ IsTup s.heap a its.toArray ∧ xs.length ≤ sizeLine := by
  rcases h with h | ⟨o, its, n, hk, hc, hs, hz, r⟩
  · obtain ⟨z, its, r, p⟩ := h.ok I.hok
    exact ⟨its, r, p, z⟩
  · refine ⟨its.toList, r, ⟨o, I.kIn a o hk, hc, n, by simpa using hs⟩, ?_⟩
    have e := r.length
    simp only [Array.length_toList] at e
    omega
theorem Inv.list_inj (I : Inv X pins σ H s) (h : SqL X.K H a xs) (h' : SqL X.K H a ys) : xs = ys := by
  obtain ⟨its, r, ⟨o, n, e, _, _, d⟩, _⟩ := I.list h
  obtain ⟨its', r', ⟨o', n', e', _, _, d'⟩, _⟩ := I.list h'
  rw [e] at e'; cases e'
  rw [d] at d'
  injection d' with d1 _
  have : its = its' := by simpa using congrArg Array.toList d1
  subst this
  exact r.inj r'
end

/-! ### another wish about exceptions -/
abbrev Cx.wish (X : Cx) (E : Value → Shared → Prop) : Cx := { X with xe := E }
/-- no exception leaves -/
abbrev Cx.nox (X : Cx) : Cx := X.wish fun _ _ => False
theorem Cx.Ok.wish {X : Cx} (ok : X.Ok) (E : Value → Shared → Prop) : (X.wish E).Ok :=
  ⟨ok.mod, ok.kind, ok.glob, ok.blt, ok.above, ok.inj, ok.has, ok.cab, ok.hd, ok.frames, ok.stk, ok.exf, ok.bs, ok.bsz, ok.noex, ok.exfs, ok.funs, ok.frf⟩
theorem Cx.Ok.unwish {X : Cx} {E : Value → Shared → Prop} (ok : (X.wish E).Ok) : X.Ok :=
  ⟨ok.mod, ok.kind, ok.glob, ok.blt, ok.above, ok.inj, ok.has, ok.cab, ok.hd, ok.frames, ok.stk, ok.exf, ok.bs, ok.bsz, ok.noex, ok.exfs, ok.funs, ok.frf⟩
section
variable {X : Cx} {pins : List (Addr × Obj)} {σ : St} {H : Hp} {s : Shared} {E : Value → Shared → Prop}
theorem Inv.wish (I : Inv X pins σ H s) (E : Value → Shared → Prop) : Inv (X.wish E) pins σ H s := ⟨I.ok.wish E, I.os, I.bare, I.base, I.loc, I.cell, I.free, I.freeC, I.pin, I.hok, I.len⟩
theorem Inv.unwish (I : Inv (X.wish E) pins σ H s) : Inv X pins σ H s := ⟨I.ok.unwish, I.os, I.bare, I.base, I.loc, I.cell, I.free, I.freeC, I.pin, I.hok, I.len⟩
theorem SP.unwish {D : Ends} {f : Flow} {s' : Shared} (h : SP (X.wish E) pins D f s') : SP X pins D f s' := by
  cases f with
  | next => obtain ⟨σ', H', I, q⟩ := h; exact ⟨σ', H', I.unwish, q⟩
  | brk => obtain ⟨σ', H', I, q⟩ := h; exact ⟨σ', H', I.unwish, q⟩
  | cont => obtain ⟨σ', H', I, q⟩ := h; exact ⟨σ', H', I.unwish, q⟩
  | ret u => obtain ⟨v, σ', H', I, r, q⟩ := h; exact ⟨v, σ', H', I.unwish, r, q⟩
theorem PSs.nox {st : List Stmt} {t : TS} (h : PSs X.nox st t) : PSs X st t := fun pins s σ H D I hw =>
  wpAny_mono (h pins s σ H D (I.wish _) hw) (fun _ _ q => q.unwish) fun _ _ z => False.elim z
end

/-! ### blocks and small statements -/
section
variable {X : Cx} {st : Stmt} {rest : List Stmt} {t u : TS} {e : Expr} {te : TE} {pos : Pos}
def tNext : TS := fun D σ H => D.nx σ H
def tSeq (t u : TS) : TS := fun D σ H => t { D with nx := u D } σ H
theorem pss_nil : PSs X [] tNext := fun _ _ σ H _ I h => wpAny_execs_nil ⟨σ, H, I, h⟩
theorem pss_cons (h1 : PS X st t) (h2 : PSs X rest u) : PSs X (st :: rest) (tSeq t u) := by
  intro pins s σ H D I h
  refine wpAny_execs_cons (thn (h1 pins s σ H { D with nx := u D } I h) fun f s1 q => ?_)
  cases f with
  | next =>
    obtain ⟨σ', H', I', q⟩ := q
    exact h2 pins s1 σ' H' D I' q
  | ret v => exact q
  | brk => exact q
  | cont => exact q
theorem pss_one (h1 : PS X st t) : PSs X [st] t := by
  intro pins s σ H D I h
  refine wpAny_execs_cons (thn (h1 pins s σ H D I h) fun f s1 q => ?_)
  cases f with
  | next => exact wpAny_execs_nil q
  | ret v => exact q
  | brk => exact q
  | cont => exact q
/-- in a def's body nothing is shown -/
theorem Inv.quiet {pins : List (Addr × Obj)} {σ : St} {H : Hp} {s : Shared} (I : Inv X pins σ H s) : interactive X.env = false := by simp [interactive, I.ok.kind]
/-- an expression whose value is dropped -/
def tDrop (te : TE) : TS := fun D σ H => te σ H fun _ H1 => D.nx σ H1
theorem ps_expr (he : PE X e te) (hs : swapsWith e none pos.line X.env = pure false := by rfl) : PS X (.Expr e pos) (tDrop te) := by
  intro pins s σ H D I h
  exact wpAny_Expr_any (thn (he pins s σ H _ I h) fun v s1 ⟨x, H1, I1, r1, q1⟩ => ⟨σ, H1, I1, q1⟩) I.quiet hs
def tRet (te : TE) : TS := fun D σ H => te σ H D.rt
theorem ps_ret (he : PE X e te) : PS X (.Return (some e) pos) (tRet te) := by
  intro pins s σ H D I h
  exact wpAny_Return_some (thn (he pins s σ H _ I h) fun v s1 ⟨x, H1, I1, r1, q1⟩ => ⟨x, σ, H1, I1, r1, q1⟩)
def tIfS (c : TT) (t u : TS) : TS := fun D σ H => c σ H fun b H1 => if b = true then t D σ H1 else u D σ H1
theorem ps_if {c : Expr} {a b : List Stmt} {tc : TT} (hc : PT X c tc) (ha : PSs X a t) (hb : PSs X b u) : PS X (.If c a b pos) (tIfS tc t u) := by
  intro pins s σ H D I h
  refine wpAny_If (thn (hc pins s σ H _ I h) fun d s1 ⟨H1, I1, q1⟩ => ?_)
  cases d with
  | true => exact ha pins s1 σ H1 D I1 q1
  | false => exact hb pins s1 σ H1 D I1 q1
end

/-! ### targets -/
abbrev TG := V → St → Hp → (St → Hp → Prop) → Prop
abbrev TGs := List V → St → Hp → (St → Hp → Prop) → Prop
def PG (X : Cx) (target : Expr) (t : TG) : Prop :=
  ∀ (pins : List (Addr × Obj)) (s : Shared) (σ : St) (H : Hp) (v : V) (u : Value) (Q : St → Hp → Prop), Inv X pins σ H s → RelV v u → t v σ H Q →
    wpAny (model X.prog X.w) X.A (assign target X.env u) (fun _ s' => ∃ σ' H', Inv X pins σ' H' s' ∧ Q σ' H') X.xe s
/-- several targets, one after another -/
def PGs (X : Cx) (ts : List Expr) (t : TGs) : Prop :=
  ∀ (pins : List (Addr × Obj)) (s : Shared) (σ : St) (H : Hp) (vs : List V) (us : List Value) (Q : St → Hp → Prop), Inv X pins σ H s → Vals vs us → t vs σ H Q →
    wpAny (model X.prog X.w) X.A (assignInOrder ((assignEach ts X.env).map (·.2)) us) (fun _ s' => ∃ σ' H', Inv X pins σ' H' s' ∧ Q σ' H') X.xe s
/-- a op= b, by values -/
abbrev TIp := V → V → Hp → VK → Prop
def PIp (X : Cx) (op : Operator) (t : TIp) : Prop :=
  ∀ (pins : List (Addr × Obj)) (s : Shared) (σ : St) (H : Hp) (x y : V) (v u : Value) (Q : VK), Inv X pins σ H s → RelV x v → RelV y u → t x y H Q →
    wpAny (model X.prog X.w) X.A (inplaceOp op v u) (EP X pins σ Q) X.xe s
section
variable {X : Cx} {pos : Pos}
def gName (i : Nat) : TG := fun v σ H Q => Q (σ.set i (some v)) H
theorem pg_name {i : Nat} {x : Str} (hN : X.N.Nodup) (hi : X.N[i]? = some x) (hx : Loc X.env.scope x) (hf : X.fn x = true ∨ X.env.scope.names.lookup x = some .local := by first | exact .inl rfl | exact .inr rfl | assumption) : PG X (.Name x pos) (gName i) := by
  intro pins s σ H v u Q I r h
  exact wpAny_assign_Name (store_ok I hN hi hx r (fun s' I' => ⟨_, H, I', h⟩) hf)
def gNil : TGs := fun vs σ H Q => vs = [] ∧ Q σ H
def gCons (t : TG) (u : TGs) : TGs := fun vs σ H Q => ∃ v r, vs = v :: r ∧ t v σ H fun σ' H' => u r σ' H' Q
theorem pgs_nil : PGs X [] gNil := by
  intro pins s σ H vs us Q I r h
  obtain ⟨e, h⟩ := h
  subst e
  cases r
  exact assignInOrder_nil ⟨σ, H, I, h⟩
theorem pgs_cons {e : Expr} {es : List Expr} {t : TG} {u : TGs} (h1 : PG X e t) (h2 : PGs X es u)
    (hs : (assignEach (e :: es) X.env).map (·.2) = assign e X.env :: (assignEach es X.env).map (·.2) := by rfl) : PGs X (e :: es) (gCons t u) := by
  intro pins s σ H vs us Q I r h
  obtain ⟨v, vr, e1, h⟩ := h
  subst e1
  cases r with
  | cons r rr =>
    rw [hs]
    refine assignInOrder_cons (thn (h1 pins s σ H _ _ _ I r h) fun _ s1 ⟨σ1, H1, I1, q1⟩ => ?_)
    exact h2 pins s1 σ1 H1 _ _ Q I1 rr q1
/-- (a, b, ..) = a tuple of that length -/
def gTup (K : PySem.W.Frag) (n : Nat) (t : TGs) : TG := fun v σ H Q => ∃ a xs, v = .ref a ∧ SqT K H a xs ∧ xs.length = n ∧ t xs σ H Q
theorem pg_tup {es : List Expr} {k : Nat} {t : TGs} {n : Nat} (hc : X.calm = true) (h : PGs X es t)
    (hn : (assignEach es X.env).length = n := by rfl) (hst : (assignEach es X.env).findIdx? (·.1) = none := by rfl) : PG X (.Tuple es k pos) (gTup X.K n t) := by
  intro pins s σ H v u Q I r hw
  obtain ⟨a, xs, e1, hq, hl, hw⟩ := hw
  subst e1
  cases r
  obtain ⟨its, rv, ht, hz⟩ := I.tuple hq
  refine assign_Tuple_tuple (I.ok.hd hc) ht (by simp [hn, ← hl, rv.length]) hst fun h' hx => ?_
  have I1 : Inv X pins σ H { s with heap := h' } := I.kept (t' := s.toks) fun b o e => hx b o (Nat.ne_of_lt (Heap.lt_size e)) e
  exact h pins _ σ H xs _ Q I1 (by simpa using rv) hw
/-- target = value -/
def tAsg (te : TE) (g : TG) : TS := fun D σ H => te σ H fun x H1 => g x σ H1 D.nx
/-- name = value -/
theorem ps_set {i : Nat} {x : Str} {e : Expr} {te : TE} {pos' : Pos} (hN : X.N.Nodup) (hi : X.N[i]? = some x) (hx : Loc X.env.scope x) (he : PE X e te) (hs : swapsWith e (some (.Name x pos')) pos.line X.env = pure false := by rfl) (hf : X.fn x = true ∨ X.env.scope.names.lookup x = some .local := by first | exact .inl rfl | exact .inr rfl | assumption) :
    PS X (.Assign [.Name x pos'] e pos) (tAsg te (gName i)) := by
  intro pins s σ H D I h
  refine wpAny_Assign_Name (thn (he pins s σ H _ I h) fun v s1 ⟨y, H1, I1, r1, q1⟩ => ?_) hs
  exact store_ok I1 hN hi hx r1 (fun s2 I2 => ⟨_, H1, I2, q1⟩) hf
/-- name op= e -/
def tAug (i : Nat) (te : TE) (ti : TIp) : TS := fun D σ H => ∃ x, σ[i]? = some (some x) ∧ te σ H fun y H1 => ti x y H1 fun z H2 => D.nx (σ.set i (some z)) H2
theorem ps_aug {i : Nat} {x : Str} {e : Expr} {te : TE} {op : Operator} {ti : TIp} {pos' : Pos} (hN : X.N.Nodup) (hi : X.N[i]? = some x) (hx : Loc X.env.scope x) (he : PE X e te) (ho : PIp X op ti) (hf : X.fn x = true ∨ X.env.scope.names.lookup x = some .local := by first | exact .inl rfl | exact .inr rfl | assumption) :
    PS X (.AugAssign (.Name x pos') op e pos) (tAug i te ti) := by
  intro pins s σ H D I h
  obtain ⟨v, e1, h⟩ := h
  obtain ⟨m, hn, hl⟩ := I.loc
  have vis : Vis X.env.scope x := by rcases hx with k | k; exact .inl k; exact .inr (.inl k)
  obtain ⟨u, r, l⟩ := hl i x v hi e1 vis
  refine wpAny_AugAssign_Name ?_
  have go : wpAny (model X.prog X.w) X.A (eval e X.env) (fun w s₂ => wpAny (model X.prog X.w) X.A (inplaceOp op u w) (fun r s₃ => wpAny (model X.prog X.w) X.A (storeName X.env x r) (fun _ => SP X pins D .next) X.xe s₃) X.xe s₂) X.xe s := by
    refine thn (he pins s σ H _ I h) fun w s1 ⟨y, H1, I1, r1, q1⟩ => ?_
    refine thn (ho pins s1 σ H1 v y u w _ I1 r r1 q1) fun z s2 ⟨zv, H2, I2, r2, q2⟩ => ?_
    exact store_ok I2 hN hi hx r2 (fun s3 I3 => ⟨_, H2, I3, q2⟩) hf
  rcases l with ⟨hk, hm⟩ | ⟨hk, c, hc, hcell⟩
  · exact wpAny_loadName_local I.ok.kind hk hn hm go
  · rcases hk with hk | hk
    · exact wpAny_loadName_cell I.ok.kind hk hc hcell go
    · rcases hx with k | k
      · have : X.env.scope.names.lookup x = some .free := hk
        rw [k] at this; cases this
      · have : X.env.scope.names.lookup x = some .free := hk
        rw [k] at this; cases this
/-- ints -/
def ipI (f : Int → Int → Int) : TIp := fun x y H Q => ∃ i j, x = .int i ∧ y = .int j ∧ Q (.int (f i j)) H
theorem ip_add : PIp X .Add (ipI fun i j => i + j) := by
  intro pins s σ H x y v u Q I r1 r2 h
  obtain ⟨i, j, e1, e2, q⟩ := h
  subst e1; subst e2
  obtain ⟨t, rfl⟩ := r1
  obtain ⟨t', rfl⟩ := r2
  exact iadd_int ⟨.int _, H, I.tok _, ⟨_, rfl⟩, q⟩
end

/-! ### while -/
section
variable {X : Cx} {pos : Pos}
/-- the invariant W with its measure -/
def tWhile (c : TT) (tb : TS) : TS := fun D σ H => ∃ W : Nat → St → Hp → Prop, (∃ m, W m σ H) ∧ ∀ m σ H, W m σ H →
  c σ H fun b H1 => if b = true then ∃ N : St → Hp → Prop, (∀ σ' H', N σ' H' → ∃ m', m' < m ∧ W m' σ' H') ∧ tb { D with nx := N, ct := N, bk := D.nx } σ H1 else D.nx σ H1
theorem ps_while {c : Expr} {body : List Stmt} {tc : TT} {tb : TS} (hp : PassesOwn (model X.prog X.w) X.A X.env X.xe) (hc : PT X c tc) (hb : PSs X body tb) : PS X (.While c body [] pos) (tWhile tc tb) := by
  intro pins s σ H D I h
  obtain ⟨W, ⟨m0, w0⟩, turn⟩ := h
  refine wpAny_While (codeAny_whileLoop (fun n s' => ∃ σ' H', Inv X pins σ' H' s' ∧ W n σ' H') ?_ m0 ⟨σ, H, I, w0⟩)
  rintro n s1 ⟨σ1, H1, I1, w1⟩
  refine wpAny_passesOwn hp (thn (hc pins s1 σ1 H1 _ I1 (turn n σ1 H1 w1)) fun b s2 ⟨H2, I2, q2⟩ => ?_)
  cases b with
  | true =>
    obtain ⟨N, hN, q2⟩ := q2
    rw [if_pos rfl]
    refine wpAny_passesOwn hp (thn (hb pins s2 σ1 H2 _ I2 q2) fun f s3 q3 => ?_)
    cases f with
    | next =>
      obtain ⟨σ3, H3, I3, n3⟩ := q3
      obtain ⟨m', hm, w3⟩ := hN σ3 H3 n3
      exact ⟨m', hm, σ3, H3, I3, w3⟩
    | cont =>
      obtain ⟨σ3, H3, I3, n3⟩ := q3
      obtain ⟨m', hm, w3⟩ := hN σ3 H3 n3
      exact ⟨m', hm, σ3, H3, I3, w3⟩
    | brk => exact q3
    | ret v => exact q3
  | false =>
    rw [if_neg Bool.false_ne_true]
    exact wpAny_execs_nil ⟨σ1, H2, I2, q2⟩
end

/-! ### what a loop or a comprehension walks -/
/-- at turn i: it yields x (the heap may grow), or it stops -/
structure It where
  go : Nat → Hp → Prop
  yld : Nat → Hp → V → Hp → Prop
  stop : Nat → Hp → Prop
/-- the iterator's own objects may turn: they are not the frame's, not pinned, younger than the entry (or a comprehension's own) -/
def FpOk (X : Cx) (pins : List (Addr × Obj)) (H : Hp) (b : Addr) : Prop :=
  H b = none ∧ b ≠ X.env.locals ∧ b ∉ X.fs ∧ (b ∈ X.ex ∨ X.s_0.heap.objs.size ≤ b) ∧ (∀ x c, X.env.cells.lookup x = some c → c ≠ b) ∧ ∀ p ∈ X.pn ++ pins, p.1 ≠ b
theorem Inv.fpOk {X : Cx} {pins : List (Addr × Obj)} {σ : St} {H H' : Hp} {s : Shared} {b : Addr} (I : Inv X pins σ H s) (hb : s.heap.objs.size ≤ b) (hn : H' b = none) : FpOk X pins H' b := by
  refine ⟨hn, Nat.ne_of_gt (Nat.lt_of_lt_of_le I.lt hb), I.nofs hb, .inr (Nat.le_trans I.sz hb), fun x c e z => ?_, fun p hp z => ?_⟩
  · obtain ⟨v, q⟩ := I.cell x c e
    exact absurd (Nat.lt_of_lt_of_le q.lt (by rw [z]; exact hb)) (Nat.lt_irrefl _)
  · exact absurd (Nat.lt_of_lt_of_le (Heap.lt_size (I.pin p hp).1) (by rw [z]; exact hb)) (Nat.lt_irrefl _)
structure Turn (P : Program) (w : World) (K : PySem.W.Frag) (tg : Expr) (J : It) (fp : List Addr) (it : Addr) (tn : Nat → Heap → Prop) : Prop where
  mem : it ∈ fp
  obj : ∀ i h, tn i h → ∀ b ∈ fp, ∃ o, h.get? b = some o ∧ ∀ v, o.data ≠ .cell v
  keep : ∀ i h h', tn i h → (∀ b ∈ fp, ∀ o, h.get? b = some o → h'.get? b = some o) → tn i h'
  item : ∀ (X : Cx), X.prog = P → X.w = w → X.K = K → X.calm = true → ∀ (i : Nat) (pins : List (Addr × Obj)) (s : Shared) (σ : St) (H : Hp) (E : Value → Shared → Prop), Inv X pins σ H s → (∀ b ∈ fp, FpOk X pins H b) → tn i s.heap → J.go i H →
    wpAny (model P w) X.A (pyNext (.ref it)) (fun r s1 => ∃ u, r = some u ∧
      wpAny (model P w) X.A (letOwnedTupleGo tg (.ref it) u) (fun _ s2 => ∃ x H', Inv X pins σ H' s2 ∧ RelV x u ∧ J.yld i H x H' ∧ tn (i + 1) s2.heap ∧ ∀ b ∈ fp, H' b = none) E s1) E s
  done : ∀ (X : Cx), X.prog = P → X.w = w → X.K = K → X.calm = true → ∀ (i : Nat) (pins : List (Addr × Obj)) (s : Shared) (σ : St) (H : Hp) (E : Value → Shared → Prop), Inv X pins σ H s → (∀ b ∈ fp, FpOk X pins H b) → tn i s.heap → J.stop i H →
    wpAny (model P w) X.A (pyNext (.ref it)) (fun r s1 => r = none ∧ Inv X pins σ H s1) E s
  self : ∀ (A : Around) (i : Nat) (s : Shared) (Q : Value → Shared → Prop) (E : Value → Shared → Prop), tn i s.heap → Q (.ref it) s → wpAny (model P w) A (pyIter (.ref it)) Q E s
abbrev TI := St → Hp → (It → Hp → Prop) → Prop
/-- an iterator has come -/
def PIE (X : Cx) (pins : List (Addr × Obj)) (σ : St) (tg : Expr) (R : It → Hp → Prop) (itv : Value) (s2 : Shared) : Prop :=
  ∃ (it : Addr) (fp : List Addr) (tn : Nat → Heap → Prop) (J : It) (H' : Hp), itv = .ref it ∧ Inv X pins σ H' s2 ∧ Turn X.prog X.w X.K tg J fp it tn ∧ tn 0 s2.heap ∧ (∀ b ∈ fp, FpOk X pins H' b) ∧ R J H'
def PI (X : Cx) (tg iter : Expr) (wi : TI) : Prop :=
  ∀ (pins : List (Addr × Obj)) (s : Shared) (σ : St) (H : Hp) (R : It → Hp → Prop), Inv X pins σ H s → wi σ H R →
    wpAny (model X.prog X.w) X.A (eval iter X.env) (fun v s1 => wpAny (model X.prog X.w) X.A (pyIter v) (PIE X pins σ tg R) X.xe s1) X.xe s

/-- the step ahead of the store is nothing for an iterator that keeps no tuple -/
theorem go_of {M : Model} {A : Around} {E : Value → Shared → Prop} {s : Shared} {tg : Expr} {it : Addr} {u : Value} {o : Obj} {n : String} {vs : Array Value} {Q : Unit → Shared → Prop} (ho : s.heap.get? it = some o) (hc : o.cls = .type n) (hd : o.data = .fields vs)
    (hn : ["enumerate", "zip", "dict_itemiterator", "dict_reverseitemiterator", "odict_iterator", "itertools.zip_longest", "itertools.pairwise"].contains n = false) (hQ : Q () s) : wpAny M A (letOwnedTupleGo tg (.ref it) u) Q E s := by
  unfold letOwnedTupleGo
  cases tg <;> first
    | exact wpAny_pure hQ
    | (cases u <;> first
        | exact wpAny_pure hQ
        | (refine wpAny_bind (wpAny_load ho ?_)
           rw [hc, hd]
           show wpAny M A (if (["enumerate", "zip", "dict_itemiterator", "dict_reverseitemiterator", "odict_iterator", "itertools.zip_longest", "itertools.pairwise"].contains n && vs[0]? == some (rawInt _)) = true then _ else _) Q E s
           rw [if_neg (by intro h; rw [hn, Bool.false_and] at h; cases h)]
           exact wpAny_pure hQ))

/-- the list at a, as it stands at each turn (a loop may append to it) -/
def Itl (K : PySem.W.Frag) (a : Addr) : It :=
  ⟨fun i H => ∃ xs x, SqL K H a xs ∧ xs[i]? = some x, fun i H x H' => H' = H ∧ ∀ xs, SqL K H a xs → xs[i]? = some x, fun i H => ∃ xs, SqL K H a xs ∧ xs.length ≤ i⟩
/-- lo, lo + 1, .. (n of them) -/
def Itr (lo : Int) (n : Nat) : It := ⟨fun i _ => i < n, fun i H x H' => H' = H ∧ x = .int (lo + i), fun i _ => n ≤ i⟩
theorem turn_list {P : Program} {w : World} {K : PySem.W.Frag} {tg : Expr} (a it : Addr) : Turn P w K tg (Itl K a) [it] it (fun i h => h.IsListIter it a i) where
  mem := by simp
  obj := fun i h st b hb => by
    have e : b = it := by simpa using hb
    subst e
    obtain ⟨o, e, c, d⟩ := st
    exact ⟨o, e, fun v z => by rw [d] at z; cases z⟩
  keep := fun i h h' st k => st.at fun o e => k it (by simp) o e
  item := by
    intro X hP hw hK hc i pins s σ H E I hf st hg
    subst hP hw hK
    obtain ⟨xs, x, hq, hx⟩ := hg
    obtain ⟨its, rv, p, hz⟩ := I.list hq
    obtain ⟨u, hu, ru⟩ := rv.get hx
    obtain ⟨f0, f1, f2, f3, f4, f5⟩ := hf it (by simp)
    refine wpAny_pyNext_list_item st p.isList (x := u) (by simpa using hu) fun h' st' sb => ?_
    have I1 : Inv X pins σ H { s with heap := h' } := I.turned (t' := s.toks) (fun b o hb e => (sb.2 b hb).trans e) f0 f1 f3 f4 f5
    obtain ⟨o, e, c, d⟩ := id st'
    exact ⟨u, rfl, go_of (s := { s with heap := h' }) e c d (by decide) ⟨x, H, I1, ru, ⟨rfl, fun ys hy => by rw [I.list_inj hy hq]; exact hx⟩, st', fun b hb => (hf b hb).1⟩⟩
  done := by
    intro X hP hw hK hc i pins s σ H E I hf st hg
    subst hP hw hK
    obtain ⟨xs, hq, hx⟩ := hg
    obtain ⟨its, rv, p, hz⟩ := I.list hq
    obtain ⟨f0, f1, f2, f3, f4, f5⟩ := hf it (by simp)
    have hl := rv.length
    exact wpAny_pyNext_list_end (I.ok.hd hc) st p.isList (by simp; omega) fun h' eb => ⟨rfl, I.turned (t' := s.toks) (fun b o hb e => eb b o hb e) f0 f1 f3 f4 f5⟩
  self := fun _ _ _ _ _ st h => wpAny_pyIter_listiter st h
theorem turn_range {P : Program} {w : World} {K : PySem.W.Frag} {tg : Expr} (it : Addr) (lo : Int) (n : Nat) : Turn P w K tg (Itr lo n) [it] it (fun i h => IsRangeIter h it (lo + (i : Nat) * 1) ((n : Int) - (i : Nat)) 1) where
  mem := by simp
  obj := fun i h st b hb => by
    have e : b = it := by simpa using hb
    subst e
    exact ⟨_, st, fun v z => by
      have z' : Data.fields _ = Data.cell v := z
      cases z'⟩
  keep := fun i h h' st k => k it (by simp) _ st
  item := by
    intro X hP hw hK hc i pins s σ H E I hf st hg
    subst hP hw hK
    obtain ⟨f0, f1, f2, f3, f4, f5⟩ := hf it (by simp)
    have W := Walks.range (prog := X.prog) (w := X.w) (I.ok.hd hc) it lo 1 n
    refine W.item i s _ _ hg st fun v h' tk hv st' kk => ?_
    obtain ⟨t, rfl⟩ := hv
    have I1 : Inv X pins σ H { s with heap := h', toks := tk } := I.turned (fun b o hb e => kk b o (by simpa using hb) e) f0 f1 f3 f4 f5
    refine ⟨_, rfl, go_of (s := { s with heap := h', toks := tk }) (n := "range_iterator") st' rfl rfl (by decide) ⟨.int (lo + i), H, I1, ⟨t, ?_⟩, ⟨rfl, rfl⟩, st', fun b hb => (hf b hb).1⟩⟩
    rw [Int.mul_one]
  done := by
    intro X hP hw hK hc i pins s σ H E I hf st hg
    subst hP hw hK
    obtain ⟨f0, f1, f2, f3, f4, f5⟩ := hf it (by simp)
    exact wpAny_pyNext_range_end (I.ok.hd hc) st (by have : n ≤ i := hg; omega) fun h' eb => ⟨rfl, I.turned (t' := s.toks) (fun b o hb e => eb b o hb e) f0 f1 f3 f4 f5⟩
  self := fun _ _ _ _ _ st h => wpAny_pyIter_rangeiter st h
end L2

namespace L2
open PySem PySem.Spec PyProof.Rows
section
variable {X : Cx} {tg : Expr}
def iList (K : PySem.W.Frag) (tl : TE) : TI := fun σ H R => tl σ H fun x H1 => ∃ a, x = .ref a ∧ (∃ xs, SqL K H1 a xs) ∧ R (Itl K a) H1
theorem pi_list {l : Expr} {tl : TE} (hl : PE X l tl) : PI X tg l (iList X.K tl) := by
  intro pins s σ H R I h
  refine thn (hl pins s σ H _ I h) fun v s1 ⟨x, H1, I1, r1, q1⟩ => ?_
  obtain ⟨a, e, ⟨xs, hq⟩, q⟩ := q1
  subst e
  cases r1
  obtain ⟨its, rv, p, hz⟩ := I1.list hq
  refine wpAny_pyIter_list p.isList ?_
  refine ⟨s1.heap.objs.size, [s1.heap.objs.size], _, _, H1, rfl, I1.kept (t' := s1.toks) fun b o e => Heap.get?_push_of_some _ e, turn_list a _, ⟨_, Heap.get?_push_size _ rfl, rfl, rfl⟩, fun b hb => ?_, q⟩
  have e : b = s1.heap.objs.size := by simpa using hb
  subst e
  exact I1.fpOk (Nat.le_refl _) (I1.hok.fresh (Nat.le_refl _))
/-- a range object just made, walked -/
theorem range_it {pins : List (Addr × Obj)} {σ : St} {H : Hp} {s : Shared} {R : It → Hp → Prop} {E : Value → Shared → Prop} {lo hi : Int} {t u v : Tok} {tk : Nat} (I : Inv X pins σ H s) (h1 : -(2 ^ 62) ≤ lo) (h2 : lo < 2 ^ 62) (h3 : -(2 ^ 62) ≤ hi) (h4 : hi < 2 ^ 62)
    (q : R (Itr lo (hi - lo).toNat) H) : wpAny (model X.prog X.w) X.A (pyIter (.ref s.heap.objs.size)) (PIE X pins σ tg R) E { s with heap := s.heap.push { cls := .type "range", data := .fields #[.int lo t, .int hi u, .int 1 v] }, toks := tk } := by
  refine wpAny_pyIter_range (IsRange.new ..) (small_one h1 h2 h3 h4) ?_
  have I1 : Inv X pins σ H { s with heap := s.heap.push { cls := .type "range", data := .fields #[.int lo t, .int hi u, .int 1 v] }, toks := tk } := I.kept fun b o e => Heap.get?_push_of_some _ e
  refine ⟨(s.heap.push { cls := .type "range", data := .fields #[.int lo t, .int hi u, .int 1 v] }).objs.size, [(s.heap.push { cls := .type "range", data := .fields #[.int lo t, .int hi u, .int 1 v] }).objs.size], _, _, H, rfl,
    I1.kept (t' := tk) fun b o e => Heap.get?_push_of_some _ e, turn_range _ lo (hi - lo).toNat, ?_, fun b hb => ?_, q⟩
  · have e1 : lo + ((0 : Nat) : Int) * 1 = lo := by simp
    have e2 : (((hi - lo).toNat : Nat) : Int) - ((0 : Nat) : Int) = Builtin.Range.rangeSize lo hi 1 := by rw [rangeSize_one]; split <;> omega
    show IsRangeIter _ _ (lo + ((0 : Nat) : Int) * 1) ((((hi - lo).toNat : Nat) : Int) - ((0 : Nat) : Int)) 1
    rw [e1, e2]
    exact Heap.get?_push_size _ rfl
  · have e : b = (s.heap.push { cls := .type "range", data := .fields #[.int lo t, .int hi u, .int 1 v] }).objs.size := by simpa using hb
    subst e
    exact I1.fpOk (Nat.le_refl _) (I1.hok.fresh (Nat.le_refl _))
def iRng1 (ta : TA) : TI := fun σ H R => ta σ H fun vs H1 => ∃ j : Int, vs = [.int j] ∧ -(2 ^ 62) ≤ j ∧ j < 2 ^ 62 ∧ R (Itr 0 j.toNat) H1
def iRng2 (ta : TA) : TI := fun σ H R => ta σ H fun vs H1 => ∃ i j : Int, vs = [.int i, .int j] ∧ (-(2 ^ 62) ≤ i ∧ i < 2 ^ 62 ∧ -(2 ^ 62) ≤ j ∧ j < 2 ^ 62) ∧ R (Itr i (j - i).toNat) H1
theorem pi_range1 {a : Expr} {ta : TA} {p pos : Pos} (hg : Gl X "range") (hm : X.mg "range" = none) (ha : PA X [a] ta) (hs : starEach [a] X.env = [(false, eval a X.env)] := by rfl) : PI X tg (.Call (.Name "range" p) [a] [] pos) (iRng1 ta) := by
  intro pins s σ H R I h
  refine Call_ (ld_blt I hg hm boot_range (PyProof.Rows.callWith_type1 (thn (ha pos pins s σ H _ I h) fun us s1 ⟨vs, H1, I1, r1, q1⟩ => ?_) hs rfl))
  obtain ⟨j, e, q1, q2, q⟩ := q1
  subst e
  cases r1 with
  | cons r rr =>
    cases rr
    obtain ⟨t, rfl⟩ := r
    exact call_range_1 (range_it I1 (by omega) (by omega) q1 q2 (by simpa using q))
theorem pi_range2 {a b : Expr} {ta : TA} {p pos : Pos} (hg : Gl X "range") (hm : X.mg "range" = none) (ha : PA X [a, b] ta) (hs : starEach [a, b] X.env = [(false, eval a X.env), (false, eval b X.env)] := by rfl) (hs2 : starEach [b] X.env = [(false, eval b X.env)] := by rfl) :
    PI X tg (.Call (.Name "range" p) [a, b] [] pos) (iRng2 ta) := by
  intro pins s σ H R I h
  refine Call_ (ld_blt I hg hm boot_range (PyProof.Rows.callWith_type1 (thn (ha pos pins s σ H _ I h) fun us s1 ⟨vs, H1, I1, r1, q1⟩ => ?_) (by rw [hs, hs2]) (by rw [hs2]; rfl)))
  obtain ⟨i, j, e, ⟨q1, q2, q3, q4⟩, q⟩ := q1
  subst e
  cases r1 with
  | cons r rr =>
    cases rr with
    | cons r' rr =>
      cases rr
      obtain ⟨t, rfl⟩ := r
      obtain ⟨t', rfl⟩ := r'
      exact call_range_2 (range_it I1 q1 q2 q3 q4 q)

/-! ### for -/
/-- W: the invariant by the turn and a measure; N: what the body is to reach -/
def tFor (wi : TI) (g : TG) (tb : TS) : TS := fun D σ H => wi σ H fun J H1 => ∃ W : Nat → Nat → St → Hp → Prop, (∃ m, W 0 m σ H1) ∧ ∀ i m σ H, W i m σ H →
  (J.stop i H ∧ D.nx σ H) ∨ (J.go i H ∧ ∃ N : St → Hp → Prop, (∀ σ' H', N σ' H' → ∃ m', m' < m ∧ W (i + 1) m' σ' H') ∧ ∀ x H', J.yld i H x H' → g x σ H' fun σ2 H2 => tb { D with nx := N, ct := N, bk := D.nx } σ2 H2)
/-- the records at fp as they stand -/
def pinsAt (fp : List Addr) (h : Heap) : List (Addr × Obj) := fp.filterMap fun b => (h.get? b).map fun o => (b, o)
theorem mem_pinsAt {fp : List Addr} {h : Heap} {b : Addr} {o : Obj} (hb : b ∈ fp) (e : h.get? b = some o) : (b, o) ∈ pinsAt fp h := List.mem_filterMap.mpr ⟨b, hb, by rw [e]; rfl⟩
theorem of_pinsAt {fp : List Addr} {h : Heap} {p : Addr × Obj} (hp : p ∈ pinsAt fp h) : p.1 ∈ fp ∧ h.get? p.1 = some p.2 := by
  obtain ⟨b, hb, e⟩ := List.mem_filterMap.mp hp
  cases q : h.get? b with
  | none => rw [q] at e; cases e
  | some o =>
    rw [q] at e
    have e' : (b, o) = p := Option.some.inj e
    subst e'
    exact ⟨hb, q⟩
theorem Inv.pinned {pins : List (Addr × Obj)} {σ : St} {H : Hp} {s : Shared} {fp : List Addr} (I : Inv X pins σ H s) (hf : ∀ b ∈ fp, FpOk X pins H b) (ho : ∀ b ∈ fp, ∃ o, s.heap.get? b = some o ∧ ∀ v, o.data ≠ .cell v) : Inv X (pins ++ pinsAt fp s.heap) σ H s :=
  I.pins_of fun p hp => (List.mem_append.mp hp).elim (fun z => I.pin p (List.mem_append_right _ z)) fun z => by
    obtain ⟨hb, e⟩ := of_pinsAt z
    obtain ⟨f0, f1, f2, _⟩ := hf p.1 hb
    obtain ⟨o, e', d⟩ := ho p.1 hb
    rw [e] at e'; cases e'
    exact ⟨e, f0, f1, f2, d⟩
theorem Inv.unpinned {pins pl : List (Addr × Obj)} {σ : St} {H : Hp} {s : Shared} (I : Inv X (pins ++ pl) σ H s) : Inv X pins σ H s := I.pins_of fun p hp => I.pin p (List.mem_append_right _ (List.mem_append_left _ hp))
theorem ps_for {iter : Expr} {body : List Stmt} {wi : TI} {g : TG} {tb : TS} {pos : Pos} (hp : PassesOwn (model X.prog X.w) X.A X.env X.xe) (hc : X.calm = true) (hi : PI X tg iter wi) (hg : PG X tg g) (hb : PSs X body tb)
    (hs : ∀ x, foldedSetIterable iter X.env x = pure x := by intro _; rfl) : PS X (.For tg iter body [] pos) (tFor wi g tb) := by
  intro pins s σ H D I h
  refine wpAny_For (thn (hi pins s σ H _ I h) fun v s1 h1 => thn h1 fun itv s2 h2 => ?_) hs
  obtain ⟨it, fp, tn, J, H2, e, I2, T, st2, f2, W, ⟨m0, w0⟩, turn⟩ := h2
  subst e
  -- what stays true of the iterator's objects through the loop
  have stat : ∀ {H' : Hp}, (∀ b ∈ fp, H' b = none) → ∀ b ∈ fp, FpOk X pins H' b := fun hn b hb => ⟨hn b hb, (f2 b hb).2⟩
  refine codeAny_forLoop_any (fun n s' => ∃ i σ' H', Inv X pins σ' H' s' ∧ tn i s'.heap ∧ (∀ b ∈ fp, H' b = none) ∧ W i n σ' H') ?_ m0 ⟨0, σ, H2, I2, st2, fun b hb => (f2 b hb).1, w0⟩
  rintro n s3 ⟨i, σ3, H3, I3, st3, fr3, w3⟩
  rcases turn i n σ3 H3 w3 with ⟨stop, qn⟩ | ⟨go, N, hN, step⟩
  · refine wpAny_passesOwn hp (thn (T.done X rfl rfl rfl hc i pins s3 σ3 H3 X.xe I3 (stat fr3) st3 stop) fun r s4 ⟨hr, I4⟩ => ?_)
    subst hr
    exact wpAny_execs_nil ⟨σ3, H3, I4, qn⟩
  · refine wpAny_passesOwn hp (thn (T.item X rfl rfl rfl hc i pins s3 σ3 H3 X.xe I3 (stat fr3) st3 go) fun r s4 ⟨u, hr, h4⟩ => ?_)
    subst hr
    refine wpAny_passesOwn hp (thn h4 fun _ s5 ⟨x, H5, I5, r5, y5, st5, fr5⟩ => ?_)
    have I5' := I5.pinned (stat fr5) (T.obj _ _ st5)
    refine wpAny_passesOwn hp (thn (hg _ s5 σ3 H5 x u _ I5' r5 (step x H5 y5)) fun _ s6 ⟨σ6, H6, I6, q6⟩ => ?_)
    refine wpAny_passesOwn hp (thn (hb _ s6 σ6 H6 _ I6 q6) fun f s7 q7 => ?_)
    have again : ∀ {σ7 : St} {H7 : Hp}, Inv X (pins ++ pinsAt fp s5.heap) σ7 H7 s7 → N σ7 H7 → ∃ m, m < n ∧ ∃ i σ' H', Inv X pins σ' H' s7 ∧ tn i s7.heap ∧ (∀ b ∈ fp, H' b = none) ∧ W i m σ' H' := fun {σ7 H7} I7 n7 => by
      obtain ⟨m', hm, w7⟩ := hN σ7 H7 n7
      refine ⟨m', hm, i + 1, σ7, H7, I7.unpinned, T.keep _ _ _ st5 fun b hb o e => (I7.pin (b, o) (List.mem_append_right _ (List.mem_append_right _ (mem_pinsAt hb e)))).1, fun b hb => ?_, w7⟩
      obtain ⟨o, e, d⟩ := T.obj _ _ st5 b hb
      exact (I7.pin (b, o) (List.mem_append_right _ (List.mem_append_right _ (mem_pinsAt hb e)))).2.1
    cases f with
    | next => obtain ⟨σ7, H7, I7, n7⟩ := q7; exact again I7 n7
    | cont => obtain ⟨σ7, H7, I7, n7⟩ := q7; exact again I7 n7
    | brk => obtain ⟨σ7, H7, I7, q7⟩ := q7; exact ⟨σ7, H7, I7.unpinned, q7⟩
    | ret v => obtain ⟨x7, σ7, H7, I7, r7, q7⟩ := q7; exact ⟨x7, σ7, H7, I7.unpinned, r7, q7⟩
end

/-! ### the forms one uses -/
/-- over a list that the body leaves as it is -/
theorem for_list {K : PySem.W.Frag} {a : Addr} {xs : List V} {g : TG} {tb : TS} {D : Ends} {σ : St} {H : Hp} (Pv : Nat → St → Hp → Prop) (h0 : Pv 0 σ H) (hl : ∀ i σ H, i ≤ xs.length → Pv i σ H → SqL K H a xs)
    (hs : ∀ i x σ H, xs[i]? = some x → Pv i σ H → g x σ H fun σ2 H2 => tb { D with nx := Pv (i + 1), ct := Pv (i + 1), bk := D.nx } σ2 H2) (hd : ∀ σ H, Pv xs.length σ H → D.nx σ H) :
    ∃ W : Nat → Nat → St → Hp → Prop, (∃ m, W 0 m σ H) ∧ ∀ i m σ H, W i m σ H →
      ((Itl K a).stop i H ∧ D.nx σ H) ∨ ((Itl K a).go i H ∧ ∃ N : St → Hp → Prop, (∀ σ' H', N σ' H' → ∃ m', m' < m ∧ W (i + 1) m' σ' H') ∧ ∀ x H', (Itl K a).yld i H x H' → g x σ H' fun σ2 H2 => tb { D with nx := N, ct := N, bk := D.nx } σ2 H2) := by
  refine ⟨fun i m σ H => m = xs.length - i ∧ i ≤ xs.length ∧ Pv i σ H, ⟨xs.length, by simp, Nat.zero_le _, h0⟩, ?_⟩
  rintro i m σ H ⟨rfl, hi, p⟩
  have q := hl i σ H hi p
  by_cases hlt : i < xs.length
  · refine .inr ⟨⟨xs, xs[i], q, by simp [hlt]⟩, Pv (i + 1), fun σ' H' p' => ⟨xs.length - (i + 1), by omega, rfl, hlt, p'⟩, fun x H' y => ?_⟩
    obtain ⟨e, y⟩ := y
    subst e
    exact hs i x σ _ (y xs q) p
  · have e : i = xs.length := by omega
    subst e
    exact .inl ⟨⟨xs, q, Nat.le_refl _⟩, hd σ H p⟩
theorem for_range {lo : Int} {n : Nat} {g : TG} {tb : TS} {D : Ends} {σ : St} {H : Hp} (Pv : Nat → St → Hp → Prop) (h0 : Pv 0 σ H)
    (hs : ∀ i σ H, i < n → Pv i σ H → g (.int (lo + i)) σ H fun σ2 H2 => tb { D with nx := Pv (i + 1), ct := Pv (i + 1), bk := D.nx } σ2 H2) (hd : ∀ σ H, Pv n σ H → D.nx σ H) :
    ∃ W : Nat → Nat → St → Hp → Prop, (∃ m, W 0 m σ H) ∧ ∀ i m σ H, W i m σ H →
      ((Itr lo n).stop i H ∧ D.nx σ H) ∨ ((Itr lo n).go i H ∧ ∃ N : St → Hp → Prop, (∀ σ' H', N σ' H' → ∃ m', m' < m ∧ W (i + 1) m' σ' H') ∧ ∀ x H', (Itr lo n).yld i H x H' → g x σ H' fun σ2 H2 => tb { D with nx := N, ct := N, bk := D.nx } σ2 H2) := by
  refine ⟨fun i m σ H => m = n - i ∧ i ≤ n ∧ Pv i σ H, ⟨n, by simp, Nat.zero_le _, h0⟩, ?_⟩
  rintro i m σ H ⟨rfl, hi, p⟩
  by_cases hlt : i < n
  · refine .inr ⟨hlt, Pv (i + 1), fun σ' H' p' => ⟨n - (i + 1), by omega, rfl, hlt, p'⟩, fun x H' y => ?_⟩
    obtain ⟨e, y⟩ := y
    subst e y
    exact hs i σ _ hlt p
  · have e : i = n := by omega
    subst e
    exact .inl ⟨Nat.le_refl _, hd σ H p⟩
/-- while, by a word and a measure of the state -/
theorem while_by {c : TT} {tb : TS} {D : Ends} {σ : St} {H : Hp} (Pv : St → Hp → Prop) (μ : St → Hp → Nat) (h0 : Pv σ H)
    (hs : ∀ σ H, Pv σ H → c σ H fun b H1 => if b = true then tb { D with nx := fun σ' H' => Pv σ' H' ∧ μ σ' H' < μ σ H, ct := fun σ' H' => Pv σ' H' ∧ μ σ' H' < μ σ H, bk := D.nx } σ H1 else D.nx σ H1)
    (mono : ∀ σ H Q Q', (∀ b H1, Q b H1 → Q' b H1) → c σ H Q → c σ H Q') : tWhile c tb D σ H := by
  refine ⟨fun m σ H => m = μ σ H ∧ Pv σ H, ⟨_, rfl, h0⟩, ?_⟩
  rintro m σ H ⟨rfl, p⟩
  refine mono σ H _ _ (fun b H1 q => ?_) (hs σ H p)
  cases b with
  | true => exact ⟨_, fun σ' H' ⟨p', l⟩ => ⟨_, l, rfl, p'⟩, q⟩
  | false => exact q
end L2

namespace L2
open PySem PySem.Spec PyProof.Rows

abbrev R2 := V → V → Hp → VK → Prop
/-- a two-place operation on values: f is binaryOp op, inplaceOp op or compareOp op -/
def OpR (X : Cx) (f : Value → Value → Sem Value) (r : R2) : Prop :=
  ∀ (pins : List (Addr × Obj)) (s : Shared) (σ : St) (H : Hp) (x y : V) (v u : Value) (Q : VK), Inv X pins σ H s → RelV x v → RelV y u → r x y H Q →
    wpAny (model X.prog X.w) X.A (f v u) (EP X pins σ Q) X.xe s
/-- a call of a value that is known (a builtin, a type) with values -/
def CallR (X : Cx) (f : Value) (r : List V → Hp → VK → Prop) : Prop :=
  ∀ (pins : List (Addr × Obj)) (s : Shared) (σ : St) (H : Hp) (xs : List V) (us : List Value) (Q : VK), Inv X pins σ H s → Vals xs us → r xs H Q →
    wpAny (model X.prog X.w) X.A (call f us) (EP X pins σ Q) X.xe s

def tOp (r : R2) (ta tb : TE) : TE := fun σ H Q => ta σ H fun x H1 => tb σ H1 fun y H2 => r x y H2 Q
/-- ints in, under C, and a value out -/
def rI (C : Int → Int → Prop) (g : Int → Int → V) : R2 := fun x y H Q => ∃ i j, x = .int i ∧ y = .int j ∧ C i j ∧ Q (g i j) H
def rI0 (g : Int → Int → V) : R2 := fun x y H Q => ∃ i j, x = .int i ∧ y = .int j ∧ Q (g i j) H

section
variable {X : Cx} {a b c : Expr} {ta tb tc : TE} {pos : Pos}

theorem binT (ha : PE X a ta) (hb : PE X b tb) {pins : List (Addr × Obj)} {s : Shared} {σ : St} {H : Hp} {R : V → V → Hp → Prop} (I : Inv X pins σ H s)
    (h : ta σ H fun x H1 => tb σ H1 fun y H2 => R x y H2) {Q : Value → Shared → Prop} {f : Value → Value → Sem Value}
    (hf : ∀ v u s2 x y H2, Inv X pins σ H2 s2 → RelV x v → RelV y u → R x y H2 → wpAny (model X.prog X.w) X.A (f v u) Q X.xe s2) :
    wpAny (model X.prog X.w) X.A (eval a X.env) (fun v s₁ => wpAny (model X.prog X.w) X.A (eval b X.env) (fun u s₂ => wpAny (model X.prog X.w) X.A (f v u) Q X.xe s₂) X.xe s₁) X.xe s := by
  refine thn (ha pins s σ H _ I h) fun v s1 ⟨x, H1, I1, r1, q1⟩ => ?_
  refine thn (hb pins s1 σ H1 _ I1 q1) fun u s2 ⟨y, H2, I2, r2, q2⟩ => ?_
  exact hf v u s2 x y H2 I2 r1 r2 q2

theorem pe_op {op : Operator} {r : R2} (ho : OpR X (binaryOp op) r) (ha : PE X a ta) (hb : PE X b tb) : PE X (.BinOp a op b pos) (tOp r ta tb) := by
  intro pins s σ H Q I h
  exact wpAny_BinOp (binT ha hb I h fun v u s2 x y H2 I2 rx ry q => ho pins s2 σ H2 x y v u Q I2 rx ry q)

/-! ### ints -/
theorem opI {f : Value → Value → Sem Value} {C : Int → Int → Prop} {g : Int → Int → Int}
    (rule : ∀ (i j : Int) (t u : Tok) (s : Shared) (Q : Value → Shared → Prop) (E : Value → Shared → Prop), C i j → Q (.int (g i j) s.toks) { s with toks := s.toks + 1 } → wpAny (model X.prog X.w) X.A (f (.int i t) (.int j u)) Q E s) :
    OpR X f (rI C fun i j => .int (g i j)) := by
  intro pins s σ H x y v u Q I rx ry h
  obtain ⟨i, j, rfl, rfl, hc, q⟩ := h
  obtain ⟨t, rfl⟩ := rx
  obtain ⟨t', rfl⟩ := ry
  exact rule i j t t' s _ _ hc ⟨.int (g i j), H, I.tok _, ⟨_, rfl⟩, q⟩
theorem opI0 {f : Value → Value → Sem Value} {g : Int → Int → Int}
    (rule : ∀ (i j : Int) (t u : Tok) (s : Shared) (Q : Value → Shared → Prop) (E : Value → Shared → Prop), Q (.int (g i j) s.toks) { s with toks := s.toks + 1 } → wpAny (model X.prog X.w) X.A (f (.int i t) (.int j u)) Q E s) :
    OpR X f (rI0 fun i j => .int (g i j)) := by
  intro pins s σ H x y v u Q I rx ry h
  obtain ⟨i, j, rfl, rfl, q⟩ := h
  obtain ⟨t, rfl⟩ := rx
  obtain ⟨t', rfl⟩ := ry
  exact rule i j t t' s _ _ ⟨.int (g i j), H, I.tok _, ⟨_, rfl⟩, q⟩
theorem opB0 {f : Value → Value → Sem Value} {g : Int → Int → Bool}
    (rule : ∀ (i j : Int) (t u : Tok) (s : Shared) (Q : Value → Shared → Prop) (E : Value → Shared → Prop), Q (.bool (g i j)) s → wpAny (model X.prog X.w) X.A (f (.int i t) (.int j u)) Q E s) :
    OpR X f (rI0 fun i j => .bl (g i j)) := by
  intro pins s σ H x y v u Q I rx ry h
  obtain ⟨i, j, rfl, rfl, q⟩ := h
  obtain ⟨t, rfl⟩ := rx
  obtain ⟨t', rfl⟩ := ry
  exact rule i j t t' s _ _ ⟨.bl (g i j), H, I, rfl, q⟩

def CDiv (i j : Int) : Prop := 0 < j ∧ j < 1073741824
def CMul (i j : Int) : Prop := (-(2 ^ 64) < i ∧ i < 2 ^ 64) ∨ (-(2 ^ 64) < j ∧ j < 2 ^ 64)
theorem CMul.ok {i j : Int} (h : CMul i j) : IntMulOk i j := by
  rcases h with ⟨h1, h2⟩ | ⟨h1, h2⟩
  · exact .of_left (intBits_le_64 h1 h2)
  · exact .of_right (intBits_le_64 h1 h2)

theorem op_add : OpR X (binaryOp .Add) (rI0 fun i j => .int (i + j)) := opI0 fun _ _ _ _ _ _ _ q => add_int q
theorem op_sub : OpR X (binaryOp .Sub) (rI0 fun i j => .int (i - j)) := opI0 fun _ _ _ _ _ _ _ q => sub_int q
theorem op_mul : OpR X (binaryOp .Mult) (rI CMul fun i j => .int (i * j)) := opI fun _ _ _ _ _ _ _ hc q => mul_int q hc.ok
/-- // by a positive divisor -/
theorem op_fdiv : OpR X (binaryOp .FloorDiv) (rI CDiv fun i j => .int (i / j)) := opI fun i j _ _ _ _ _ hc q => by
  have h1 : (0 : Int) < j := hc.1
  have h2 : j < 1073741824 := hc.2
  exact floordiv_int (by omega) (by rw [Int.fdiv_eq_ediv_of_nonneg i (by omega)]; exact q) (.inl (PyProof.noPylong_small (by omega)))
/-- % by a positive divisor of any size -/
theorem op_mod : OpR X (binaryOp .Mod) (rI (fun _ j => 0 < j) fun i j => .int (i % j)) := opI fun i j _ _ _ _ _ hc q => by
  have h1 : (0 : Int) < j := hc
  exact mod_int' (by omega) (by rw [Int.fmod_eq_emod_of_nonneg i (by omega)]; exact q)



/-! ### bools among ints: n += (a < b) -/
end

/-! ### comparisons -/
/-- the scalars that == tells apart as data does -/
def scal : V → V → Bool
  | .non, .non => true | .non, .int _ => true | .int _, .non => true | .non, .bl _ => true | .bl _, .non => true | .non, .str _ => true | .str _, .non => true
  | .int _, .int _ => true | .bl _, .bl _ => true | .str _, .str _ => true | .byt _, .byt _ => true
  | .int _, .str _ => true | .str _, .int _ => true | .bl _, .str _ => true | .str _, .bl _ => true
  | _, _ => false
def rEq : R2 := fun x y H Q => scal x y = true ∧ Q (.bl (decide (x = y))) H
def rNe : R2 := fun x y H Q => scal x y = true ∧ Q (.bl (!decide (x = y))) H

theorem dec_int {i j : Int} : decide (V.int i = V.int j) = (i == j) := by
  rw [Bool.eq_iff_iff]
  simp
theorem dec_bl {i j : Bool} : decide (V.bl i = V.bl j) = (i == j) := by
  rw [Bool.eq_iff_iff]
  simp
theorem dec_str {i j : Str} : decide (V.str i = V.str j) = (i == j) := by
  rw [Bool.eq_iff_iff]
  simp
theorem dec_byt {i j : Array UInt8} : decide (V.byt i = V.byt j) = (i.toList == j.toList) := by
  rw [Bool.eq_iff_iff]
  cases i
  cases j
  simp

section
variable {X : Cx} {a b c : Expr} {ta tb tc : TE} {pos : Pos}
theorem fin_bl {pins : List (Addr × Obj)} {σ : St} {H : Hp} {s : Shared} {Q : VK} {k k' : Bool} (I : Inv X pins σ H s) (q : Q (.bl k) H) (e : k = k') : EP X pins σ Q (.bool k') s := by
  subst e
  exact ⟨.bl k, H, I, rfl, q⟩
theorem op_eq : OpR X (compareOp .Eq) rEq := by
  intro pins s σ H x y v u Q I rx ry h
  obtain ⟨hs, q⟩ := h
  cases x with
  | non =>
    cases rx
    cases y with
    | non => cases ry; exact PySem.EqNone.eq_none_none (fin_bl I q (by simp))
    | bl j => cases ry; exact PySem.EqNone.eq_none_bool (fin_bl I q (by simp))
    | int j => obtain ⟨t', rfl⟩ := ry; exact PySem.EqNone.eq_none_int (fin_bl I q (by simp))
    | str j => obtain ⟨t', rfl⟩ := ry; exact PySem.EqNone.eq_none_str (fin_bl I q (by simp))
    | _ => exact absurd (show false = true from hs) Bool.false_ne_true
  | bl i =>
    cases rx
    cases y with
    | non => cases ry; exact PySem.EqNone.eq_bool_none (fin_bl I q (by simp))
    | bl j => cases ry; exact eq_bool (fin_bl I q dec_bl)
    | str j => obtain ⟨t', rfl⟩ := ry; exact PySem.EqMixed.eq_bool_str (fin_bl I q (by simp))
    | _ => exact absurd (show false = true from hs) Bool.false_ne_true
  | int i =>
    obtain ⟨t, rfl⟩ := rx
    cases y with
    | non => cases ry; exact PySem.EqNone.eq_int_none (fin_bl I q (by simp))
    | int j => obtain ⟨t', rfl⟩ := ry; exact eq_int (fin_bl I q dec_int)
    | str j => obtain ⟨t', rfl⟩ := ry; exact PySem.EqMixed.eq_int_str (fin_bl I q (by simp))
    | _ => exact absurd (show false = true from hs) Bool.false_ne_true
  | str i =>
    obtain ⟨t, rfl⟩ := rx
    cases y with
    | non => cases ry; exact PySem.EqNone.eq_str_none (fin_bl I q (by simp))
    | bl j => cases ry; exact PySem.EqMixed.eq_str_bool (fin_bl I q (by simp))
    | int j => obtain ⟨t', rfl⟩ := ry; exact PySem.EqMixed.eq_str_int (fin_bl I q (by simp))
    | str j => obtain ⟨t', rfl⟩ := ry; exact eq_str (fin_bl I q dec_str)
    | _ => exact absurd (show false = true from hs) Bool.false_ne_true
  | byt i =>
    obtain ⟨t, rfl⟩ := rx
    cases y with
    | byt j => obtain ⟨t', rfl⟩ := ry; exact PySem.W.eq_bytes (fin_bl I q dec_byt)
    | _ => exact absurd (show false = true from hs) Bool.false_ne_true
  | _ => cases y <;> exact absurd (show false = true from hs) Bool.false_ne_true
theorem op_ne : OpR X (compareOp .NotEq) rNe := by
  intro pins s σ H x y v u Q I rx ry h
  obtain ⟨hs, q⟩ := h
  cases x with
  | non =>
    cases rx
    cases y with
    | non => cases ry; exact PySem.EqNone.ne_none_none (fin_bl I q (by simp))
    | bl j => cases ry; exact PySem.EqNone.ne_none_bool (fin_bl I q (by simp))
    | int j => obtain ⟨t', rfl⟩ := ry; exact PySem.EqNone.ne_none_int (fin_bl I q (by simp))
    | str j => obtain ⟨t', rfl⟩ := ry; exact PySem.EqNone.ne_none_str (fin_bl I q (by simp))
    | _ => exact absurd (show false = true from hs) Bool.false_ne_true
  | bl i =>
    cases rx
    cases y with
    | non => cases ry; exact PySem.EqNone.ne_bool_none (fin_bl I q (by simp))
    | bl j => cases ry; exact ne_bool (fin_bl I q (congrArg not dec_bl))
    | str j => obtain ⟨t', rfl⟩ := ry; exact PySem.EqMixed.ne_bool_str (fin_bl I q (by simp))
    | _ => exact absurd (show false = true from hs) Bool.false_ne_true
  | int i =>
    obtain ⟨t, rfl⟩ := rx
    cases y with
    | non => cases ry; exact PySem.EqNone.ne_int_none (fin_bl I q (by simp))
    | int j => obtain ⟨t', rfl⟩ := ry; exact ne_int (fin_bl I q (congrArg not dec_int))
    | str j => obtain ⟨t', rfl⟩ := ry; exact PySem.EqMixed.ne_int_str (fin_bl I q (by simp))
    | _ => exact absurd (show false = true from hs) Bool.false_ne_true
  | str i =>
    obtain ⟨t, rfl⟩ := rx
    cases y with
    | non => cases ry; exact PySem.EqNone.ne_str_none (fin_bl I q (by simp))
    | bl j => cases ry; exact PySem.EqMixed.ne_str_bool (fin_bl I q (by simp))
    | int j => obtain ⟨t', rfl⟩ := ry; exact PySem.EqMixed.ne_str_int (fin_bl I q (by simp))
    | str j => obtain ⟨t', rfl⟩ := ry; exact ne_str (fin_bl I q (congrArg not dec_str))
    | _ => exact absurd (show false = true from hs) Bool.false_ne_true
  | byt i =>
    obtain ⟨t, rfl⟩ := rx
    cases y with
    | byt j => obtain ⟨t', rfl⟩ := ry; exact PySem.W.ne_bytes (fin_bl I q (congrArg not dec_byt))
    | _ => exact absurd (show false = true from hs) Bool.false_ne_true
  | _ => cases y <;> exact absurd (show false = true from hs) Bool.false_ne_true

theorem op_lt : OpR X (compareOp .Lt) (rI0 fun i j => .bl (decide (i < j))) := opB0 fun _ _ _ _ _ _ _ q => lt_int q
theorem op_le : OpR X (compareOp .LtE) (rI0 fun i j => .bl (decide (i ≤ j))) := opB0 fun _ _ _ _ _ _ _ q => le_int q
theorem op_gt : OpR X (compareOp .Gt) (rI0 fun i j => .bl (decide (j < i))) := opB0 fun _ _ _ _ _ _ _ q => gt_int q
theorem op_ge : OpR X (compareOp .GtE) (rI0 fun i j => .bl (decide (j ≤ i))) := opB0 fun _ _ _ _ _ _ _ q => ge_int q




theorem nomark (b : Expr) {op : CmpOp} (h : op ≠ .In := by decide) (h2 : op ≠ .NotIn := by decide) : behindInMarks op b = false := by
  have e1 : (op == CmpOp.In) = false := by cases op <;> first | rfl | exact absurd rfl h
  have e2 : (op == CmpOp.NotIn) = false := by cases op <;> first | rfl | exact absurd rfl h2
  cases b <;> simp [behindInMarks, e1, e2]
/-- a comparison as a value; hm: nomark b, or (for in, not in) by with_unfolding_all rfl -/
theorem pe_cmpR {op : CmpOp} {r : R2} (ho : OpR X (compareOp op) r) (ha : PE X a ta) (hb : PE X b tb) (hm : behindInMarks op b = false) : PE X (.Compare a [op] [b] pos) (tOp r ta tb) := by
  intro pins s σ H Q I h
  exact wpAny_Compare1 (binT ha hb I h fun v u s2 x y H2 I2 rx ry q => ho pins s2 σ H2 x y v u Q I2 rx ry q) hm
/-- a reading of a value as a test -/
def tTest (t : TE) : TT := fun σ H Q => t σ H fun x H' => ∃ k, x = .bl k ∧ Q k H'
theorem pt_cmpR {op : CmpOp} {r : R2} (ho : OpR X (compareOp op) r) (ha : PE X a ta) (hb : PE X b tb) (hm : behindInMarks op b = false) : PT X (.Compare a [op] [b] pos) (tTest (tOp r ta tb)) := by
  intro pins s σ H Q I h
  refine wpAny_isTrue_Compare1 (thn (ha pins s σ H _ I h) fun v s1 ⟨x, H1, I1, r1, q1⟩ => thn (hb pins s1 σ H1 _ I1 q1) fun u s2 ⟨y, H2, I2, r2, q2⟩ =>
    thn (ho pins s2 σ H2 x y v u _ I2 r1 r2 q2) fun c s3 ⟨z, H3, I3, r3, k, e, q3⟩ => ?_) hm
  subst e
  cases r3
  exact wpAny_truthy_bool ⟨H3, I3, q3⟩

/-! ### truth -/
theorem line63 : (sizeLine : Nat) < 2 ^ 63 := by rw [sizeLine_eq]; decide

/-! ### strs and bytes -/


/-! ### scalar builtins, by CallR -/
theorem vals1 {x : V} {us : List Value} (r : Vals [x] us) : ∃ u, us = [u] ∧ RelV x u := by
  cases r with
  | cons r1 r2 => cases r2; exact ⟨_, rfl, r1⟩
theorem vals2 {x y : V} {us : List Value} (r : Vals [x, y] us) : ∃ u w', us = [u, w'] ∧ RelV x u ∧ RelV y w' := by
  cases r with
  | cons r1 r2 =>
    cases r2 with
    | cons r3 r4 => cases r4; exact ⟨_, _, rfl, r1, r3⟩
theorem call_abs : CallR X (.builtin "abs") (fun xs H Q => ∃ i, xs = [.int i] ∧ Q (.int (if i < 0 then -i else i)) H) := by
  intro pins s σ H xs us Q I r h
  obtain ⟨i, rfl, q⟩ := h
  obtain ⟨u, rfl, t, rfl⟩ := vals1 r
  exact call_abs_int fun u tk => ⟨.int (if i < 0 then -i else i), H, I.tok _, ⟨_, rfl⟩, q⟩
theorem call_max2 (hc : X.calm = true) : CallR X (.builtin "max") (fun xs H Q => ∃ i j, xs = [.int i, .int j] ∧ Q (.int (if j > i then j else i)) H) := by
  intro pins s σ H xs us Q I r h
  obtain ⟨i, j, rfl, q⟩ := h
  obtain ⟨u, w', rfl, ⟨t, rfl⟩, ⟨t', rfl⟩⟩ := vals2 r
  refine max_two_ints (I.ok.hd hc) fun h' tk k => ⟨_, H, I.kept k, ?_, q⟩
  by_cases hj : j > i
  · rw [if_pos hj, if_pos hj]; exact ⟨_, rfl⟩
  · rw [if_neg hj, if_neg hj]; exact ⟨_, rfl⟩
theorem call_min2 (hc : X.calm = true) : CallR X (.builtin "min") (fun xs H Q => ∃ i j, xs = [.int i, .int j] ∧ Q (.int (if j < i then j else i)) H) := by
  intro pins s σ H xs us Q I r h
  obtain ⟨i, j, rfl, q⟩ := h
  obtain ⟨u, w', rfl, ⟨t, rfl⟩, ⟨t', rfl⟩⟩ := vals2 r
  refine min_two_ints (I.ok.hd hc) fun h' tk k => ⟨_, H, I.kept k, ?_, q⟩
  by_cases hj : j < i
  · rw [if_pos hj, if_pos hj]; exact ⟨_, rfl⟩
  · rw [if_neg hj, if_neg hj]; exact ⟨_, rfl⟩
end
end L2

namespace L2
open PySem PySem.Spec PyProof.Rows

/-! ### an instance, its attributes a map -/
structure ObjM (h : Heap) (x dx C : Addr) (mA : Str → Option Value) : Prop where
  obj : h.get? x = some (PySem.W.instObj C dx)
  ns : h.Ns1 dx mA
  ne : dx ≠ x

theorem lookIn_ns {h : Heap} {dx : Addr} {mA : Str → Option Value} (n : h.Ns1 dx mA) : ∃ od, h.get? dx = some od ∧ ∀ name, PySem.W.lookIn name od = some (mA name) := by
  obtain ⟨o, es, ep, ho, hd, hk, _, hm⟩ := n
  refine ⟨o, ho, fun name => ?_⟩
  have e := hm name
  unfold nsFind findBy at e
  rw [← Array.find?_toList] at e
  unfold PySem.W.lookIn
  rw [hd]
  dsimp only
  split
  · rename_i y q
    rw [q] at e
    exact congrArg some e
  · rename_i q
    rw [q] at e
    have a : es.toList.any (·.refKey) = false := by
      rw [List.any_eq_false]
      intro y hy
      obtain ⟨z, t, hkey⟩ := hk y (Array.mem_toList_iff.mp hy)
      simp [DictEntry.refKey, hkey]
    have a' : ¬ es.toList.any (·.refKey) = true := by rw [a]; exact Bool.false_ne_true
    rw [if_neg a']
    exact congrArg some e

theorem ObjM.look {h : Heap} {x dx C : Addr} {mA : Str → Option Value} (I : ObjM h x dx C mA) : ∃ od, PySem.W.InstAt h x (PySem.W.instObj C dx) C (some od) ∧ ∀ name, PySem.W.lookIn name od = some (mA name) :=
  let ⟨od, ho, hl⟩ := lookIn_ns I.ns
  ⟨od, ⟨I.obj, rfl, rfl, ho⟩, hl⟩

section
variable {prog : Program} {w : World} {A : Around} {E : Value → Shared → Prop} {s : Shared} {K : PySem.W.Frag} {x dx C f : Addr} {mA : Str → Option Value} {name : Str} {v : Value}

theorem get_map {expr : Bool} {Q : Value → Shared → Prop} (X : K.In s.heap) (I : ObjM s.heap x dx C mA) (hg : PySem.W.plainGet K C name = true) (hh : PySem.W.hasDictIn K C = true)
    (ha : PySem.W.findIn K (.ref C) name = some none) (hv : mA name = some v) (hv' : PySem.W.handedIn v = true) (h : Q v { s with toks := s.toks + 1 }) :
    wpAny (model prog w) A (getAttr (.ref x) name expr) Q E s := by
  obtain ⟨od, J, hl⟩ := I.look
  exact PySem.W.get_value X J (PySem.W.plainGet_of hg).1 (PySem.W.findObj_own hh ha rfl (by rw [hl, hv])) hv' h



theorem set_map {ns : List Str} {Q : Unit → Shared → Prop} (X : K.In s.heap) (I : ObjM s.heap x dx C mA)
    (hs : PySem.W.findIn K (.ref C) "__setattr__" = some (some (.builtin "object.__setattr__"))) (hp : PySem.W.plainOver K C = true) (ht : PySem.W.takerIn K C name = some none) (hh : PySem.W.hasDictIn K C = true)
    (hw : PySem.Within mA ns) (hsz : ns.length ≤ sizeLine)
    (h : ∀ h', ObjM h' x dx C (fun y => if y = name then some v else mA y) → Heap.SameBut dx s.heap h' → Q () { s with heap := h', toks := s.toks + 2 }) :
    wpAny (model prog w) A (setAttr (.ref x) name v) Q E s := by
  obtain ⟨od, J, hl⟩ := I.look
  refine PySem.W.set_plain X J hs (PySem.W.osa_open (s := { s with toks := s.toks + 1 }) (r := none) X J hp ht fun b => ?_)
  obtain ⟨cd, hc, hd'⟩ := PySem.W.any_some hh
  have hx : s.heap.get? x = some ⟨.ref C, some dx, .plain, #[]⟩ := I.obj
  refine wpAny_bind (wpAny_pure (wpAny_bind (wpAny_bind (wpAny_loadPart hx (wpAny_bind (PySem.W.Looks.here (s := { s with toks := s.toks + 1 }) (PySem.W.looks_clsIn X hc) ?_))))))
  rw [hd']
  refine wpAny_pure (a := some dx) (wpAny_bind (wpAny_pure (wpAny_bind ?_)))
  refine wpAny_nsSet1 (s := { s with toks := s.toks + 1 }) I.ns fun h' hn2 hs2 => ?_
  obtain ⟨oD, esD, epD, hoD, hdD, hcD⟩ := hn2.count (PySem.Within.cons name v hw)
  refine wpAny_bind (wpAny_lookBehind hoD (by rw [hdD]; exact pastItsLine_dict (Nat.le_trans hcD (by rw [List.length_cons]; omega))) ?_)
  exact wpAny_pure (h _ ⟨(hs2.2 _ (Ne.symm I.ne)).trans I.obj, hn2, I.ne⟩ hs2)

/-- C(..): the dict at the heap's end, the instance behind it; then its __init__ -/
theorem make_map {R : Result → Shared → Prop} {vs : List Value} {kw : List (Str × Value)} (X : K.In s.heap) (hm : PySem.W.makesIn K C = true)
    (hi : PySem.W.findIn K (.ref C) "__init__" = some (some (.ref f))) (hf : PySem.W.typeIn K (.ref f) = some (.type "function"))
    (h : codeAny (model prog w) (A.under (.builtin "type.__call__" ⟨.ref C :: vs, kw⟩)) (.call (.ref f) ⟨.ref (s.heap.objs.size + 1) :: vs, kw⟩) (PySem.W.InitBack (s.heap.objs.size + 1) R)
      { s with heap := (s.heap.push PySem.W.emptyDict).push (PySem.W.instObj C s.heap.objs.size) }) :
    codeAny (model prog w) A (.call (.ref C) ⟨vs, kw⟩) R s := by
  obtain ⟨hh, g, d, t, os⟩ := s
  exact PySem.W.make_core (PySem.W.makes_of X hm) (PySem.W.looks_findIn X hi) (fun self => PySem.W.bind_fn X self hf) (.inl rfl) h
end

/-! ### the attributes as a list of pairs -/
def putF (f : Str) (v : V) : List (Str × V) → List (Str × V)
  | [] => [(f, v)]
  | (g, x) :: r => if g = f then (g, v) :: r else (g, x) :: putF f v r
theorem lookup_putF (f g : Str) (v : V) : ∀ fs : List (Str × V), (putF f v fs).lookup g = if g = f then some v else fs.lookup g
  | [] => by
    show List.lookup g [(f, v)] = _
    by_cases h : g = f
    · have hb : (g == f) = true := beq_iff_eq.mpr h
      simp only [List.lookup, hb, if_pos h]
    · have hb : (g == f) = false := beq_eq_false_iff_ne.mpr h
      simp only [List.lookup, hb, if_neg h]
  | (k, x) :: r => by
    have ih := lookup_putF f g v r
    rw [show putF f v ((k, x) :: r) = (if k = f then (k, v) :: r else (k, x) :: putF f v r) from rfl]
    by_cases hk : k = f
    · rw [if_pos hk]
      by_cases h : g = k
      · have hb : (g == k) = true := beq_iff_eq.mpr h
        simp only [List.lookup, hb, if_pos (h.trans hk)]
      · have hb : (g == k) = false := beq_eq_false_iff_ne.mpr h
        simp only [List.lookup, hb, if_neg (fun e : g = f => h (e.trans hk.symm))]
    · rw [if_neg hk]
      by_cases h : g = k
      · have hb : (g == k) = true := beq_iff_eq.mpr h
        simp only [List.lookup, hb, if_neg (fun e : g = f => hk (h.symm.trans e))]
      · have hb : (g == k) = false := beq_eq_false_iff_ne.mpr h
        simp only [List.lookup, hb]
        exact ih
theorem keys_putF (f : Str) (v : V) : ∀ fs : List (Str × V), f ∈ (putF f v fs).map (·.1) ∧ ∀ g, g ∈ fs.map (·.1) → g ∈ (putF f v fs).map (·.1)
  | [] => ⟨by simp [putF], fun g h => by simp at h⟩
  | (k, x) :: r => by
    obtain ⟨i1, i2⟩ := keys_putF f v r
    rw [show putF f v ((k, x) :: r) = (if k = f then (k, v) :: r else (k, x) :: putF f v r) from rfl]
    by_cases hk : k = f
    · rw [if_pos hk]
      subst hk
      exact ⟨by simp, fun g h => by simpa using h⟩
    · rw [if_neg hk]
      refine ⟨?_, fun g h => ?_⟩
      · rw [List.map_cons]
        exact List.mem_cons_of_mem _ i1
      · rw [List.map_cons] at h ⊢
        rcases List.mem_cons.mp h with e | e
        · exact List.mem_cons.mpr (.inl e)
        · exact List.mem_cons_of_mem _ (i2 g e)
theorem length_putF (f : Str) (v : V) : ∀ fs : List (Str × V), (putF f v fs).length ≤ fs.length + 1
  | [] => by simp [putF]
  | (k, x) :: r => by
    have ih := length_putF f v r
    rw [show putF f v ((k, x) :: r) = (if k = f then (k, v) :: r else (k, x) :: putF f v r) from rfl]
    by_cases hk : k = f
    · rw [if_pos hk, List.length_cons, List.length_cons]; omega
    · rw [if_neg hk, List.length_cons, List.length_cons]; omega

theorem RelO.some_of {v : V} {o : Option Value} (r : RelO (some v) o) : ∃ u, o = some u ∧ RelV v u := by
  cases o with
  | none => exact (show False from r).elim
  | some u => exact ⟨u, rfl, r⟩
theorem handed_of {v : V} {u : Value} (r : RelV v u) : PySem.W.handedIn u = true := by
  cases v with
  | non => cases (show u = Value.none from r); rfl
  | bl b => cases (show u = Value.bool b from r); rfl
  | int i => obtain ⟨t, e⟩ := (show ∃ t, u = Value.int i t from r); cases e; rfl
  | str x => obtain ⟨t, e⟩ := (show ∃ t, u = Value.str x t from r); cases e; rfl
  | byt b => obtain ⟨t, e⟩ := (show ∃ t, u = Value.bytes b t from r); cases e; rfl
  | flt b => obtain ⟨t, e⟩ := (show ∃ t, u = Value.float b t from r); cases e; rfl
  | ref a => cases (show u = Value.ref a from r); rfl
  | ty n => cases (show u = Value.type n from r); rfl

section
variable {P : Program} {w : World} {H H' : Hp} {h h' : Heap} {a C dx : Addr} {fs fs' : List (Str × V)}
theorem ins_get (hok : HOk P w H h) (e : H a = some (.ins C dx fs)) : ∃ mA, ObjM h a dx C mA ∧ (∀ f, RelO (fs.lookup f) (mA f)) ∧ PySem.Within mA (fs.map (·.1)) ∧ fs.length ≤ 1000 ∧ H dx = some (.own a) := by
  obtain ⟨d, z, ne, ob, mA, n, r, q⟩ := (show ObjOk P w H h a (.ins C dx fs) from hok a _ e)
  exact ⟨mA, ⟨ob, n, ne⟩, r, q, z, d⟩
end

/-! ### what of the text a class must have -/
structure Cls (K : PySem.W.Frag) (C : Addr) : Prop where
  pg : PySem.W.plainGet K C Str.empty = true
  hd : PySem.W.hasDictIn K C = true
  po : PySem.W.plainOver K C = true
  sa : PySem.W.findIn K (.ref C) "__setattr__" = some (some (.builtin "object.__setattr__"))
theorem Cls.get {K : PySem.W.Frag} {C : Addr} (c : Cls K C) (f : Str) : PySem.W.plainGet K C f = true := c.pg
/-- no class of it has the name -/
def NoAttr (K : PySem.W.Frag) (C : Addr) (f : Str) : Prop := PySem.W.findIn K (.ref C) f = some none
theorem NoAttr.taker {K : PySem.W.Frag} {C : Addr} {f : Str} (n : NoAttr K C f) : PySem.W.takerIn K C f = some none := by
  unfold PySem.W.takerIn
  rw [show PySem.W.findIn K (.ref C) f = some none from n]
  rfl

section
variable {X : Cx} {pins : List (Addr × Obj)} {σ : St} {H : Hp} {s : Shared} {a C dx : Addr} {fs : List (Str × V)} {f : Str} {v : V} {A : Around} {E : Value → Shared → Prop}

theorem getattr_ok {b : Bool} {Q : Value → Shared → Prop} (I : Inv X pins σ H s) (e : H a = some (.ins C dx fs)) (c : Cls X.K C) (n : NoAttr X.K C f) (l : fs.lookup f = some v)
    (h : ∀ u s', Inv X pins σ H s' → RelV v u → Q u s') : wpAny (model X.prog X.w) A (getAttr (.ref a) f b) Q E s := by
  obtain ⟨mA, O, r, _, _, _⟩ := ins_get I.hok e
  obtain ⟨u, hu, ru⟩ := RelO.some_of (v := v) (o := mA f) (by rw [← l]; exact r f)
  exact get_map I.kIn O (c.get f) c.hd n hu (handed_of ru) (h u _ (I.tok _) ru)



theorem setattr_ok {y : V} {u : Value} {Q : Unit → Shared → Prop} (I : Inv X pins σ H s) (e : H a = some (.ins C dx fs)) (c : Cls X.K C) (n : NoAttr X.K C f) (hl : fs.length < 1000) (ry : RelV y u)
    (h : ∀ s', Inv X pins σ (upd H a (.ins C dx (putF f y fs))) s' → Q () s') : wpAny (model X.prog X.w) A (setAttr (.ref a) f u) Q E s := by
  obtain ⟨mA, O, r, wi, _, ho⟩ := ins_get I.hok e
  have hz : (fs.map (·.1)).length ≤ sizeLine := by rw [List.length_map, sizeLine_eq]; omega
  refine set_map I.kIn O c.sa c.po n.taker c.hd wi hz fun h' O' sb => h _ ?_
  have hd : ∃ o, h'.get? dx = some o := let ⟨o, _, _, e', _⟩ := O'.ns; ⟨o, e'⟩
  refine I.write (x := a) (e := dx) (by rw [e]; exact True.intro) (.inr ho) (fun b q hb z => (sb.2 b hb).trans z) hd ?_
  refine ⟨by rw [upd_ne O.ne]; exact ho, ?_, O.ne, O'.obj, _, O'.ns, fun g => ?_, fun g hg => ?_⟩
  · have := length_putF f y fs; omega
  · show RelO ((putF f y fs).lookup g) (if g = f then some u else mA g)
    rw [lookup_putF]
    by_cases q : g = f
    · rw [if_pos q, if_pos q]; exact ry
    · rw [if_neg q, if_neg q]; exact r g
  · by_cases q : g = f
    · rw [q]; exact (keys_putF f y fs).1
    · refine (keys_putF f y fs).2 g (wi g fun z => hg ?_)
      show (if g = f then some u else mA g) = none
      rw [if_neg q]; exact z

/-- a new instance, tracked, without attributes -/
theorem Inv.made (I : Inv X pins σ H s) : Inv X pins σ (upd (upd H s.heap.objs.size (.own (s.heap.objs.size + 1))) (s.heap.objs.size + 1) (.ins C s.heap.objs.size []))
    { s with heap := (s.heap.push PySem.W.emptyDict).push (PySem.W.instObj C s.heap.objs.size) } := by
  have e1 : (s.heap.push PySem.W.emptyDict).get? s.heap.objs.size = some PySem.W.emptyDict := Heap.get?_push_size s.heap rfl
  have e2 : ((s.heap.push PySem.W.emptyDict).push (PySem.W.instObj C s.heap.objs.size)).get? (s.heap.objs.size + 1) = some (PySem.W.instObj C s.heap.objs.size) := by
    have := Heap.get?_push_size (s.heap.push PySem.W.emptyDict) (o := PySem.W.instObj C s.heap.objs.size) rfl
    rwa [Heap.size_push] at this
  have e3 : (s.heap.push PySem.W.emptyDict).Ns s.heap.objs.size (fun _ => none) := ⟨PySem.W.emptyDict, #[], _, e1, rfl, (fun e he => absurd he (by simp)), fun _ => rfl⟩
  have I1 := I.laid (a := s.heap.objs.size) (o := .own (s.heap.objs.size + 1)) (h' := s.heap.push PySem.W.emptyDict) (t' := s.toks) (fun b u q => Heap.get?_push_of_some _ q) (Nat.le_refl _) ⟨_, e1⟩
  refine I1.laid (a := s.heap.objs.size + 1) (o := .ins C s.heap.objs.size []) (t' := s.toks) (fun b u q => Heap.get?_push_of_some _ q) (Nat.le_of_eq (Heap.size_push _ _)) ?_
  have ne : s.heap.objs.size ≠ s.heap.objs.size + 1 := Nat.ne_of_lt (Nat.lt_succ_self _)
  refine ⟨by rw [upd_ne ne, upd_same], Nat.zero_le _, ne, e2, fun _ => none, (Heap.Ns1.of_empty e3).at fun o q => Heap.get?_push_of_some _ q, fun _ => True.intro, fun y hy => absurd rfl hy⟩

/-- e.f where nothing but the object is asked: through attributeBase (super) and the last hold -/
theorem attr_of {prog : Program} {w : World} {env : Env} {e : Expr} {f : Str} {pos : Pos} {s : Shared} {Q : Value → Shared → Prop} (hb : attributeBase e f env (eval e env) = eval e env)
    (h : wpAny (model prog w) A (eval e env) (fun o s₁ => wpAny (model prog w) A (getAttr o f true) Q E s₁) E s) : wpAny (model prog w) A (eval (.Attribute e f pos) env) Q E s :=
  Attribute_any_ h (by rw [arm_eval_Attribute, hb])
end

/-! ### readings and rules -/
/-- e.f, an attribute of the instance -/
def tFld (K : PySem.W.Frag) (ta : TE) (f : Str) : TE := fun σ H Q => ta σ H fun x H1 => ∃ a C dx fs v, x = .ref a ∧ H1 a = some (.ins C dx fs) ∧ Cls K C ∧ NoAttr K C f ∧ fs.lookup f = some v ∧ Q v H1
/-- e.f = value -/
def sFld (K : PySem.W.Frag) (ta tv : TE) (f : Str) : TS := fun D σ H => tv σ H fun y H1 => ta σ H1 fun x H2 => ∃ a C dx fs, x = .ref a ∧ H2 a = some (.ins C dx fs) ∧ Cls K C ∧ NoAttr K C f ∧ fs.length < 1000 ∧
  D.nx σ (upd H2 a (.ins C dx (putF f y fs)))

section
variable {X : Cx} {o e value : Expr} {f : Str} {pos pos' tpos : Pos} {ta tv : TE}
theorem pe_fld (he : PE X e ta) (hb : attributeBase e f X.env (eval e X.env) = eval e X.env) : PE X (.Attribute e f pos) (tFld X.K ta f) := by
  intro pins s σ H Q I h
  refine attr_of hb (thn (he pins s σ H _ I h) fun u s1 ⟨x, H1, I1, rx, a, C, dx, fs, v, ex, ea, c, n, l, q⟩ => ?_)
  subst ex
  obtain rfl : u = Value.ref a := rx
  exact getattr_ok I1 ea c n l fun u' s2 I2 ru => ⟨v, H1, I2, ru, q⟩
theorem ps_fld (ha : PE X o ta) (hv : PE X value tv) (hs : swapsWith value (some (.Attribute o f pos')) pos.line X.env = pure false) : PS X (.Assign [.Attribute o f pos'] value pos) (sFld X.K ta tv f) := by
  intro pins s σ H D I h
  refine plainObj_wpAny_Assign_Attribute (thn (hv pins s σ H _ I h) fun u s1 ⟨y, H1, I1, ry, q⟩ => thn (ha pins s1 σ H1 _ I1 q) fun ov s2 ⟨x, H2, I2, rx, a, C, dx, fs, ex, ea, c, n, l, q2⟩ => ?_) hs
  subst ex
  obtain rfl : ov = Value.ref a := rx
  exact setattr_ok I2 ea c n l ry fun s3 I3 => ⟨σ, _, I3, q2⟩

end

/-! ### isinstance -/
section
variable {X : Cx} {pins : List (Addr × Obj)} {σ : St} {H : Hp} {s : Shared} {A : Around} {E : Value → Shared → Prop} {Q : Value → Shared → Prop} {c : Value} {b : Bool}
end
end L2

namespace L2
open PySem PySem.Spec PyProof.Rows

/-! ### room -/
structure Room (k : Nat) (A : Around) : Prop where
  hd : A.handled = none
  dp : A.depth + 3 * k + 5 < recursionLimit
  un : A.units + 16 * k + 200 < cLine
theorem Room.mono {j k : Nat} {A : Around} (r : Room k A) (h : j ≤ k) : Room j A := ⟨r.hd, by have := r.dp; omega, by have := r.un; omega⟩
theorem Room.deeper {k : Nat} {A : Around} (r : Room (k + 1) A) (env : Env) : Room k (A.deeper env) :=
  ⟨r.hd, by have := r.dp; show A.depth + 1 + 3 * k + 5 < _; omega, by have := r.un; show A.units + 3 + 16 * k + 200 < _; omega⟩
theorem make_depth {A : Around} {C : Addr} {us : List Value} {kw : List (Str × Value)} : (A.under (.builtin "type.__call__" ⟨.ref C :: us, kw⟩)).depth = A.depth + 1 := by
  first | rfl | simp [Around.under, Code.weight, Code.isCreation, Code.isGuard, Code.isCaller, Code.frames, Code.isFrame, guardIds]
theorem make_units {A : Around} {C : Addr} {us : List Value} {kw : List (Str × Value)} : (A.under (.builtin "type.__call__" ⟨.ref C :: us, kw⟩)).units = A.units + 1 := by
  first | rfl | simp [Around.under, Code.cUnits, Code.frames, Code.isFrame]
theorem Room.make {k : Nat} {A : Around} (r : Room (k + 1) A) (C : Addr) (us : List Value) (kw : List (Str × Value)) : Room k (A.under (.builtin "type.__call__" ⟨.ref C :: us, kw⟩)) :=
  ⟨r.hd, by have := r.dp; rw [make_depth]; omega, by have := r.un; rw [make_units]; omega⟩
theorem Room.depth {k : Nat} {A : Around} (r : Room k A) : A.depth < recursionLimit := by have := r.dp; omega

/-! ### argument lists and displays -/
def tNil : TA := fun _ H Q => Q [] H
def tCons (ta : TE) (tr : TA) : TA := fun σ H Q => ta σ H fun x H1 => tr σ H1 fun xs H2 => Q (x :: xs) H2
section
variable {X : Cx} {e : Expr} {es : List Expr} {te : TE} {t : TA} {pos : Pos}
theorem pa_nil : PA X [] tNil := fun _ _ _ _ H Q I h => Calls.spliced_nil ⟨[], H, I, .nil, h⟩
theorem pa_cons (ha : PE X e te) (hr : PA X es t) (hs : starEach (e :: es) X.env = (false, eval e X.env) :: starEach es X.env := by rfl) : PA X (e :: es) (tCons te t) := by
  intro pos pins s σ H Q I h
  rw [hs]
  show wpAny _ _ (spliced ((false, eval e X.env) :: backTo pos (starEach es X.env))) _ _ s
  refine Calls.spliced_cons (thn (ha pins s σ H _ I h) fun u s1 ⟨x, H1, I1, r1, q1⟩ => ?_)
  exact thn (hr pos pins s1 σ H1 _ I1 q1) fun us s2 ⟨xs, H2, I2, r2, q2⟩ => ⟨x :: xs, H2, I2, .cons r1 r2, q2⟩

/-- a tuple, a list of written items -/
def tTup (t : TA) : TE := fun σ H Q => t σ H fun xs H1 => xs.length ≤ sizeLine ∧ ∀ p, H1 p = none → Q (.ref p) (upd H1 p (.tup xs))
def tLst (t : TA) : TE := fun σ H Q => t σ H fun xs H1 => xs.length ≤ sizeLine ∧ ∀ p, H1 p = none → Q (.ref p) (upd H1 p (.lst xs))
theorem pe_tup {x1} (h : PA X es t) : PE X (.Tuple es x1 pos) (tTup t) := by
  intro pins s σ H Q I hq
  refine wpAny_Tuple_spliced (thn (h pos pins s σ H _ I hq) fun us s1 ⟨xs, H1, I1, r, z, q⟩ => ⟨by rw [← r.length]; exact z, ?_⟩)
  have hf : H1 s1.heap.objs.size = none := I1.hok.fresh (Nat.le_refl _)
  refine ⟨.ref s1.heap.objs.size, upd H1 s1.heap.objs.size (.tup xs), I1.laid (t' := s1.toks) (fun b u e => Heap.get?_push_of_some _ e) (Nat.le_refl _) ?_, rfl, q _ hf⟩
  exact ⟨z, us, r, ⟨_, Heap.get?_push_size _ rfl, rfl, _, rfl⟩⟩
theorem pe_lst (h : PA X es t) : PE X (.List es pos) (tLst t) := by
  intro pins s σ H Q I hq
  refine wpAny_List_spliced (thn (h pos pins s σ H _ I hq) fun us s1 ⟨xs, H1, I1, r, z, q⟩ => ⟨by rw [← r.length]; exact z, ?_⟩)
  have hf : H1 s1.heap.objs.size = none := I1.hok.fresh (Nat.le_refl _)
  refine ⟨.ref s1.heap.objs.size, upd H1 s1.heap.objs.size (.lst xs), I1.laid (t' := s1.toks) (fun b u e => Heap.get?_push_of_some _ e) (Nat.le_refl _) ?_, rfl, q _ hf⟩
  exact ⟨z, us, 0, r, Heap.get?_push_size _ rfl⟩
end

/-! ### what a def promises -/
/-- a def's promise: the bound arguments in the parameters' order, the heap, the wanted end, the wanted exception -/
abbrev Sp := List V → Hp → VK → XK → Prop
/-- how an exception lies behind a call (file 08 gives it): the callers' frames, abstract heap and state ahead of the call, the wish, the exception, the state -/
abbrev CXT := List Env → Hp → Shared → XK → Value → Shared → Prop

/-- the state at a call -/
structure Env0 (P : Program) (w : World) (K : PySem.W.Frag) (mg : Str → Option Value) (base : Heap) (A : Around) (outer : List Env) (s : Shared) (H : Hp) : Prop where
  frames : A.frames = some outer
  mod : Mod K mg base
  bs : ∀ b o, base.get? b = some o → s.heap.get? b = some o ∧ H b = none
  bsz : base.objs.size ≤ s.heap.objs.size
  funs : s.heap.FunFrames base outer
  frf : ∀ b ∈ frs outer, H b = none
  hok : HOk P w H s.heap
  bare : AllBare s.gens
/-- a call's end -/
def CE (outer : List Env) (P : Program) (w : World) (H : Hp) (s : Shared) (Q : VK) (u : Value) (s' : Shared) : Prop :=
  ∃ v H', s'.os = s.os ∧ AllBare s'.gens ∧ Un (frs outer) [] H H' s.heap s'.heap ∧ HOk P w H' s'.heap ∧ RelV v u ∧ Q v H'
def CR (CX : CXT) (outer : List Env) (P : Program) (w : World) (H : Hp) (s : Shared) (Q : VK) (E : XK) (r : Result) (s' : Shared) : Prop :=
  match r with
  | .ok (.ret u) => CE outer P w H s Q u s'
  | .ok _ => False
  | .error e => CX outer H s E e s'
structure FnOk (P : Program) (w : World) (K : PySem.W.Frag) (mg : Str → Option Value) (base : Heap) (CX : CXT) (k : Nat) (f : Addr) (fd : FuncData) (ps : List Str) (sp : Sp) : Prop where
  len : ∀ vs H Q E, sp vs H Q E → vs.length = ps.length
  run : ∀ (A : Around) (outer : List Env) (s : Shared) (H : Hp) (args : Args) (us : List Value) (vs : List V) (Q : VK) (E : XK), Room k A → Env0 P w K mg base A outer s H → BindsTo s fd args (ps.zip us) → Vals vs us → sp vs H Q E →
    codeAny (model P w) A (.call (.ref f) args) (CR CX outer P w H s Q E) s

theorem Env0.make {P : Program} {w : World} {K : PySem.W.Frag} {mg : Str → Option Value} {base : Heap} {A : Around} {outer : List Env} {s : Shared} {H : Hp} (e : Env0 P w K mg base A outer s H) (C : Addr) (us : List Value) (kw : List (Str × Value)) :
    Env0 P w K mg base (A.under (.builtin "type.__call__" ⟨.ref C :: us, kw⟩)) outer s H := ⟨by first | exact e.frames | (simpa [Around.under, Code.envs, Code.isFrame, pushEnvs] using e.frames), e.mod, e.bs, e.bsz, e.funs, e.frf, e.hok, e.bare⟩

section
variable {X : Cx} {pins : List (Addr × Obj)} {σ : St} {H : Hp} {s s' : Shared}
/-- from a body: what a callee wants -/
theorem Inv.env0 (I : Inv X pins σ H s) : Env0 X.prog X.w X.K X.mg X.base X.A X.stack s H :=
  ⟨I.ok.frames, I.ok.mod, I.bs, Nat.le_trans I.ok.bsz I.sz, I.stack, I.stkFree, I.hok, I.bare⟩
/-- behind a call -/
theorem Inv.after {Q : VK} {u : Value} (I : Inv X pins σ H s) (h : CE X.stack X.prog X.w H s Q u s') : EP X pins σ Q u s' := by
  obtain ⟨v, H', os, bare, un, hok, r, q⟩ := h
  obtain ⟨hh, g, d, t, os'⟩ := s'
  obtain rfl : os' = s.os := os
  exact ⟨v, H', I.call (h' := hh) (g' := g) (d' := d) (t' := t) (ch := []) un hok bare (fun b z => absurd z (by simp)), r, q⟩
end

/-! ### calls -/
/-- f(..): the written arguments, then the defaults dvs; E: what is wanted of an exception -/
def tCall (sp : Sp) (dvs : List V) (E : XK) (t : TA) : TE := fun σ H Q => t σ H fun vs H1 => sp (vs ++ dvs) H1 Q E
/-- C(..): a new instance and its dict, then __init__ -/
def tMake (C : Addr) (sp : Sp) (dvs : List V) (E : XK) (t : TA) : TE := fun σ H Q => t σ H fun vs H1 => ∀ x dx, H1 x = none → H1 dx = none → dx ≠ x →
  sp (.ref x :: (vs ++ dvs)) (upd (upd H1 dx (.own x)) x (.ins C dx [])) (fun v H2 => v = .non ∧ Q (.ref x) H2) E

/-- how the parameters are bound: us the positional arguments, kw the keywords' values by name, ds the defaults that fill up -/
def Binds (K : PySem.W.Frag) (fd : FuncData) (ps : List Str) (ds : List Value) : Prop :=
  ∀ (s : Shared) (us : List Value), K.In s.heap → (us ++ ds).length = ps.length → BindsTo s fd ⟨us, []⟩ (ps.zip (us ++ ds))
/-- every parameter is given -/
theorem Binds.all {K : PySem.W.Frag} {fd : FuncData} {ps : List Str} (h : ∀ us : List Value, us.length = ps.length → bindArgs fd ⟨us, []⟩ = pure (ps.zip us)) : Binds K fd ps [] := fun s us _ hl => by
  rw [List.append_nil] at hl ⊢
  exact .of_eq (h us hl)

/-- an exception of a callee reaches what this body wants of exceptions -/
def Passes (CX : CXT) (X : Cx) (E : XK) : Prop := ∀ (pins : List (Addr × Obj)) (σ : St) (H : Hp) (s : Shared) (e : Value) (s' : Shared), Inv X pins σ H s → CX X.stack H s E e s' → X.xe e s'

section
variable {X : Cx} {CX : CXT} {k : Nat} {f C : Addr} {fd : FuncData} {ps : List Str} {sp : Sp} {dvs : List V} {ds : List Value} {E : XK} {x m : Str} {p pos apos : Pos} {e o : Expr} {es : List Expr} {ta : TE} {t : TA}

/-- the callee runs -/
theorem run_fn {pins : List (Addr × Obj)} {σ : St} {H : Hp} {s : Shared} {Q : VK} {us : List Value} {vs : List V} (F : FnOk X.prog X.w X.K X.mg X.base CX k f fd ps sp) (hr : Room k X.A) (hb : Binds X.K fd ps ds) (hd : Vals dvs ds) (hx : Passes CX X E)
    (I : Inv X pins σ H s) (r : Vals vs us) (h : sp (vs ++ dvs) H Q E) : wpAny (model X.prog X.w) X.A (call (.ref f) us) (EP X pins σ Q) X.xe s := by
  have r2 : Vals (vs ++ dvs) (us ++ ds) := r.append hd
  have hl : (us ++ ds).length = ps.length := by rw [← r2.length]; exact F.len _ _ _ _ h
  refine wpAny_call (codeAny_mono (F.run X.A X.stack s H ⟨us, []⟩ (us ++ ds) (vs ++ dvs) Q E hr I.env0 (hb s us I.kIn hl) r2 h) fun r s' hq => ?_)
  cases r with
  | error e => exact hx pins σ H s e s' I hq
  | ok fl =>
    cases fl with
    | ret u => exact I.after hq
    | next => exact False.elim hq
    | brk => exact False.elim hq
    | cont => exact False.elim hq

theorem pe_call (F : FnOk X.prog X.w X.K X.mg X.base CX k f fd ps sp) (hr : Room k X.A) (hg : Gl X x) (hm : X.mg x = some (.ref f)) (hk : PySem.W.keepIn X.K (.ref f) = true) (hb : Binds X.K fd ps ds) (hd : Vals dvs ds) (hx : Passes CX X E)
    (ha : PA X (e :: es) t) (hdb : (x == ("__debug__" : Str)) = false := by decide) (he : starEach (e :: es) X.env = (false, eval e X.env) :: starEach es X.env := by rfl) (hpl : (backTo pos (starEach es X.env)).any (·.1) = false := by rfl) :
    PE X (.Call (.Name x p) (e :: es) [] pos) (tCall sp dvs E t) := by
  intro pins s σ H Q I h
  refine wpAny_Call_Name_kw (ld_glob I hg hm ?_ hdb)
  refine PySem.W.callWith_K (h₀ := X.base) I.ok.mod.kin hk (thn (ha pos pins s σ H _ I h) fun us s1 ⟨vs, H1, I1, r, q⟩ => ⟨I1.kIn, ?_⟩) he hpl
  exact run_fn F hr hb hd hx I1 r q


/-- what a class must have to be made -/
structure Mk (K : PySem.W.Frag) (C f : Addr) : Prop where
  makes : PySem.W.makesIn K C = true
  init : PySem.W.findIn K (.ref C) "__init__" = some (some (.ref f))
  fn : PySem.W.isFn K (.ref f) = true
  kp : PySem.W.keepIn K (.ref C) = true

theorem run_make {pins : List (Addr × Obj)} {σ : St} {H : Hp} {s : Shared} {Q : VK} {us : List Value} {vs : List V} (M : Mk X.K C f) (F : FnOk X.prog X.w X.K X.mg X.base CX k f fd ps sp) (hr : Room (k + 1) X.A) (hb : Binds X.K fd ps ds) (hd : Vals dvs ds)
    (hx : Passes CX X E) (I : Inv X pins σ H s) (r : Vals vs us)
    (h : ∀ x dx, H x = none → H dx = none → dx ≠ x → sp (.ref x :: (vs ++ dvs)) (upd (upd H dx (.own x)) x (.ins C dx [])) (fun v H2 => v = .non ∧ Q (.ref x) H2) E) :
    wpAny (model X.prog X.w) X.A (call (.ref C) us) (EP X pins σ Q) X.xe s := by
  have hq := h (s.heap.objs.size + 1) s.heap.objs.size (I.hok.fresh (Nat.le_succ _)) (I.hok.fresh (Nat.le_refl _)) (Nat.ne_of_lt (Nat.lt_succ_self _))
  have I2 := Inv.made (C := C) I
  have r2 : Vals (V.ref (s.heap.objs.size + 1) :: (vs ++ dvs)) (Value.ref (s.heap.objs.size + 1) :: (us ++ ds)) := .cons rfl (r.append hd)
  have hl : (Value.ref (s.heap.objs.size + 1) :: us ++ ds).length = ps.length := by
    have e := r2.length
    rw [F.len _ _ _ _ hq] at e
    exact e.symm
  refine wpAny_call (make_map (f := f) I.kIn M.makes M.init (beq_iff_eq.mp M.fn) (codeAny_mono (F.run _ X.stack _ _ ⟨Value.ref (s.heap.objs.size + 1) :: us, []⟩ (Value.ref (s.heap.objs.size + 1) :: (us ++ ds)) _ _ E (hr.make C us [])
    (I2.env0.make C us []) (hb _ (Value.ref (s.heap.objs.size + 1) :: us) I2.kIn hl) r2 hq) fun r s' hq' => ?_))
  cases r with
  | error e => exact hx pins σ _ _ e s' I2 hq'
  | ok fl =>
    cases fl with
    | ret u =>
      obtain ⟨v, H', I3, rv, ev, q3⟩ := I2.after hq'
      subst ev
      exact ⟨rv, ⟨V.ref (s.heap.objs.size + 1), H', I3, rfl, q3⟩⟩
    | next => exact False.elim hq'
    | brk => exact False.elim hq'
    | cont => exact False.elim hq'
theorem pe_make0 (M : Mk X.K C f) (F : FnOk X.prog X.w X.K X.mg X.base CX k f fd ps sp) (hr : Room (k + 1) X.A) (hg : Gl X x) (hm : X.mg x = some (.ref C)) (hb : Binds X.K fd ps ds) (hd : Vals dvs ds) (hx : Passes CX X E)
    (hdb : (x == ("__debug__" : Str)) = false := by decide) : PE X (.Call (.Name x p) [] [] pos) (tMake C sp dvs E tNil) := by
  intro pins s σ H Q I h
  refine wpAny_Call_Name_kw (ld_glob I hg hm ?_ hdb)
  exact PySem.W.callWith_K0 I.kIn M.kp (run_make (us := []) M F hr hb hd hx I .nil h)
end

/-! ### keywords -/
section
variable {X : Cx} {CX : CXT} {k : Nat} {f C : Addr} {fd : FuncData} {ps ks : List Str} {sp : Sp} {E : XK} {x m : Str} {p pos apos kpos : Pos} {e o : Expr} {es : List Expr} {kws : List Keyword} {te ta : TE} {t tk : TA} {nm : Option Str}

variable {g : List Value → List Value → List Value} {gV : List V → List V → List V}
end

/-! ### a def's body keeps its promise -/
/-- names: the parameters first -/
structure FnScope (N P : List Str) (sc : Scope) : Prop where
  kind : sc.kind = .function
  co : sc.isCoroutine = false
  gen : sc.isGenerator = false
  nd : N.Nodup
  pre : N.take P.length = P
  par : ∀ x ∈ P, sc.names.lookup x = some .local ∨ sc.names.lookup x = some .cell
  nofree : ∀ y ∈ sc.names, y.2 ≠ .free

theorem bindL_out {kindOf : Str → Option NameKind} {x : Str} : ∀ {binds : List (Str × Value)} {m : Str → Option Value}, (∀ v, (x, v) ∉ binds) → bindL kindOf binds m x = m x
  | [], _, _ => rfl
  | (n, v) :: r, m, h => by
    unfold bindL
    rw [bindL_out fun w hw => h w (List.mem_cons_of_mem _ hw)]
    split
    · have : x ≠ n := by rintro rfl; exact h v List.mem_cons_self
      simp [this]
    · rfl
theorem bindC_out {kindOf : Str → Option NameKind} {x : Str} : ∀ {binds : List (Str × Value)} {m : Str → Option Value}, (∀ v, (x, v) ∉ binds) → bindC kindOf binds m x = m x
  | [], _, _ => rfl
  | (n, v) :: r, m, h => by
    unfold bindC
    rw [bindC_out fun w hw => h w (List.mem_cons_of_mem _ hw)]
    split
    · rfl
    · have : x ≠ n := by rintro rfl; exact h v List.mem_cons_self
      simp [this]
theorem bindL_get {kindOf : Str → Option NameKind} {x : Str} {v : Value} : ∀ {P : List Str} {vs : List Value} {i : Nat} {m : Str → Option Value}, P.Nodup → P[i]? = some x → vs[i]? = some v → kindOf x = some .local →
    bindL kindOf (P.zip vs) m x = some v
  | [], _, _, _, _, h, _, _ => by simp at h
  | _ :: _, [], _, _, _, _, h, _ => by simp at h
  | p :: P, w :: vs, 0, m, nd, h1, h2, hk => by
    simp at h1 h2; subst h1; subst h2
    show bindL kindOf ((p, w) :: P.zip vs) m p = _
    unfold bindL
    rw [bindL_out fun v hv => (List.nodup_cons.mp nd).1 (List.of_mem_zip hv).1, if_pos hk]
    simp
  | p :: P, w :: vs, i + 1, m, nd, h1, h2, hk => by
    show bindL kindOf ((p, w) :: P.zip vs) m x = _
    unfold bindL
    exact bindL_get (i := i) (List.nodup_cons.mp nd).2 (by simpa using h1) (by simpa using h2) hk
theorem bindC_get {kindOf : Str → Option NameKind} {x : Str} {v : Value} : ∀ {P : List Str} {vs : List Value} {i : Nat} {m : Str → Option Value}, P.Nodup → P[i]? = some x → vs[i]? = some v → kindOf x ≠ some .local →
    bindC kindOf (P.zip vs) m x = some v
  | [], _, _, _, _, h, _, _ => by simp at h
  | _ :: _, [], _, _, _, _, h, _ => by simp at h
  | p :: P, w :: vs, 0, m, nd, h1, h2, hk => by
    simp at h1 h2; subst h1; subst h2
    show bindC kindOf ((p, w) :: P.zip vs) m p = _
    unfold bindC
    rw [bindC_out fun v hv => (List.nodup_cons.mp nd).1 (List.of_mem_zip hv).1, if_neg hk]
    simp
  | p :: P, w :: vs, i + 1, m, nd, h1, h2, hk => by
    show bindC kindOf ((p, w) :: P.zip vs) m x = _
    unfold bindC
    exact bindC_get (i := i) (List.nodup_cons.mp nd).2 (by simpa using h1) (by simpa using h2) hk

/-- the names' values at the entry -/
def start (N : List Str) (vs : List V) : St := vs.map some ++ List.replicate (N.length - vs.length) none

/-- the context of a def's body, at its entry; an exception leaves the frame, then lies as CX says -/
def cxOf (CX : CXT) (P : Program) (w : World) (K : PySem.W.Frag) (mg : Str → Option Value) (base : Heap) (N : List Str) (qual : Str) (scope : Scope) (f : Addr) (cd : Value) (A : Around) (outer : List Env) (s : Shared) (H : Hp) (E : XK) : Cx where
  prog := P
  w := w
  K := K
  mg := mg
  base := base
  A := A.deeper (envOfC qual scope s.heap.objs.size f cd)
  N := N
  s_0 := s
  H_0 := H
  env := envOfC qual scope s.heap.objs.size f cd
  outer := outer
  stack := envOfC qual scope s.heap.objs.size f cd :: outer
  ex := []
  calm := true
  fn := fun _ => true
  pn := []
  xe := fun e s' => wpAny (model P w) (A.deeper (envOfC qual scope s.heap.objs.size f cd)) (leaving (envOfC qual scope s.heap.objs.size f cd) e) (fun _ s'' => CX outer H s E e s'') (fun e' s'' => CX outer H s E e' s'') s'

theorem cell_has {sc : Scope} {n : Nat} {x : Str} (h : sc.names.lookup x = some .cell) : ∃ c, (cellsFrom n sc.names []).lookup x = some c := by
  have q := PySem.W.cellsFrom_some sc.names n [] (.inl h)
  exact Option.isSome_iff_exists.mp q

theorem inv_start {CX : CXT} {P : Program} {w : World} {K : PySem.W.Frag} {mg : Str → Option Value} {base : Heap} {N ps : List Str} {qual : Str} {scope : Scope} {f : Addr} {cd : Value} {A : Around} {outer : List Env} {s s1 : Shared} {H : Hp} {E : XK} {us : List Value} {vs : List V}
    (S : FnScope N ps scope) (hd : A.handled = none) (e0 : Env0 P w K mg base A outer s H) (hl : vs.length = ps.length) (r : Vals vs us)
    (x : InCallC s s.heap.objs.size (bindL (envOfC qual scope s.heap.objs.size f cd).kindOf (ps.zip us) fun _ => none) (cellsFrom (s.heap.objs.size + 1) scope.names []) (bindC (envOfC qual scope s.heap.objs.size f cd).kindOf (ps.zip us) fun _ => none) s1) :
    Inv (cxOf CX P w K mg base N qual scope f cd A outer s H E) [] (start N vs) H s1 := by
  have hpl : ps.length ≤ N.length := by have := congrArg List.length S.pre; rw [List.length_take] at this; omega
  obtain ⟨h1, tk, rfl, hk⟩ := x.done
  have noA : ∀ b : Addr, b ∉ (cxOf CX P w K mg base N qual scope f cd A outer s H E).ex := fun b z => absurd (show b ∈ ([] : List Addr) from z) (by simp)
  refine ⟨⟨e0.mod, S.kind, rfl, rfl, Nat.le_refl _, fun y z c h1 h2 => ?_, fun y hy => ?_, fun y c _ h => ?_, fun _ => hd, Around.frames_deeper e0.frames, .inr ⟨rfl, rfl⟩, fun b z => absurd z (noA b), e0.bs, e0.bsz, fun b _ _ => noA b, fun b z => absurd z (noA b), e0.funs, e0.frf⟩,
    rfl, e0.bare, Un.kept hk, ⟨_, x.toInCall.ns, fun i y v h1 h2 h3 => ?_⟩, fun y c h => ⟨_, x.cell y c h⟩, e0.hok.fresh (Nat.le_refl _), fun y c h => ?_, fun p hp => absurd (show p ∈ ([] : List (Addr × Obj)) from hp) (by simp), e0.hok.kept hk, ?_⟩
  · exact name_of_addr x.apart (PySem.mem_of_lookup h1) (PySem.mem_of_lookup h2)
  · have hy : scope.names.lookup y = some .cell ∨ scope.names.lookup y = some .free := hy
    rcases hy with hy | hy
    · exact cell_has hy
    · exact absurd rfl (S.nofree _ (PySem.mem_of_lookup hy))
  · exact Nat.le_of_lt (x.above y c (PySem.mem_of_lookup h))
  · have hi : i < vs.length := by
      unfold start at h2
      by_cases hi : i < vs.length
      · exact hi
      · rw [List.getElem?_append_right (by simpa using hi)] at h2
        rw [List.getElem?_replicate] at h2
        split at h2 <;> cases h2
    have ha : vs[i]? = some v := by
      unfold start at h2
      rw [List.getElem?_append_left (by simpa using hi), List.getElem?_map] at h2
      cases e : vs[i]? with
      | none => rw [e] at h2; cases h2
      | some a => rw [e] at h2; cases h2; rfl
    obtain ⟨u, hu, rv⟩ := r.get ha
    have hp : ps[i]? = some y := by
      rw [← S.pre, List.getElem?_take_of_lt (by omega)]; exact h1
    have ndP : ps.Nodup := by rw [← S.pre]; exact S.nd.sublist (List.take_sublist _ _)
    refine ⟨u, rv, ?_⟩
    rcases S.par y (List.mem_of_getElem? hp) with k | k
    · exact .inl ⟨k, bindL_get ndP hp hu k⟩
    · obtain ⟨c, e⟩ := cell_has (n := s.heap.objs.size + 1) k
      refine .inr ⟨.inl k, c, e, ?_⟩
      have q := x.cell y c e
      rw [bindC_get ndP hp hu (by show scope.names.lookup y ≠ _; rw [k]; decide)] at q
      exact q
  · exact e0.hok.fresh (Nat.le_of_lt (x.above y c (PySem.mem_of_lookup h)))
  · unfold start
    show _ = N.length
    rw [List.length_append, List.length_map, List.length_replicate]
    omega

/-- THE RULE: a def (or a method) of the text, by its body. The body's reading t is chosen for each entry; it is run at the parameters' values -/
theorem fn_of {CX : CXT} {P : Program} {w : World} {K : PySem.W.Frag} {mg : Str → Option Value} {base : Heap} {k : Nat} {f : Addr} {name qual : Str} {params : Arguments} {body : List Stmt} {scope : Scope} {dV kV doc pm cdv ct oc : Value} {an od : Option Addr}
    {osl : Array (Option Value)} {N ps : List Str} {sp : Sp} (lk : K.lookup f = some ⟨oc, od, .func (PySem.W.fnOf name qual params body scope dV kV doc pm an cdv ct), osl⟩) (hcd : PySem.W.codeIn K cdv qual = true) (S : FnScope N ps scope)
    (len : ∀ vs H Q E, sp vs H Q E → vs.length = ps.length)
    (hbody : ∀ (A : Around) (outer : List Env) (s : Shared) (H : Hp) (vs : List V) (Q : VK) (E : XK), Room k (A.deeper (envOfC qual scope s.heap.objs.size f cdv)) → sp vs H Q E →
      ∃ t, PSs (cxOf CX P w K mg base N qual scope f cdv A outer s H E) body t ∧ t { nx := fun _ H' => Q .non H', rt := Q } (start N vs) H) :
    FnOk P w K mg base CX (k + 1) f (PySem.W.fnOf name qual params body scope dV kV doc pm an cdv ct) ps sp := by
  refine ⟨len, fun A outer s H args us vs Q E hr e0 hb r hsp => ?_⟩
  have hl := len _ _ _ _ hsp
  have KX : K.In s.heap := e0.mod.kin.keeps fun b o e => (e0.bs b o e).1
  have lim : s.heap.NoLimit := e0.mod.nolimit.keeps fun b o e => (e0.bs b o e).1
  have hkind : ∀ y ∈ ps.zip us, scope.names.lookup y.1 = some .local ∨ (scope.names.lookup y.1 = some .cell ∧ ((cellsFrom (s.heap.objs.size + 1) scope.names []).lookup y.1).isSome = true) := fun ⟨n, v⟩ hy => by
    rcases S.par n (List.of_mem_zip hy).1 with q | q
    · exact .inl q
    · exact .inr ⟨q, PySem.W.cellsFrom_some _ _ _ (.inl q)⟩
  refine codeAny_call_function hr.depth (KX _ _ lk) rfl S.co S.gen rfl (PySem.W.codeRec_of KX hcd) (hb _ _ _ _ ?_)
  refine wpAny_newFunctionEnv_cells S.kind hkind fun env he s1 x => ?_
  subst he
  refine ⟨lim.keeps x.toInCall.keep, codeAny_func ?_⟩
  obtain ⟨t, ht, hq⟩ := hbody A outer s H vs Q E (hr.deeper _) hsp
  have I : Inv (cxOf CX P w K mg base N qual scope f cdv A outer s H E) [] (start N vs) H s1 := inv_start S hr.hd e0 hl r x
  refine wpAny_mono (ht [] s1 (start N vs) H _ I hq) (fun fl s' hs => ?_) fun e s' hs => hs
  have fin : ∀ {σ' : St} {H' : Hp} {v : V} {u : Value}, Inv (cxOf CX P w K mg base N qual scope f cdv A outer s H E) [] σ' H' s' → RelV v u → Q v H' → CE outer P w H s Q u s' :=
    fun {σ' H' v u} J rv q => ⟨v, H', J.os, J.bare, J.base, J.hok, rv, q⟩
  cases fl with
  | ret u =>
    obtain ⟨v, σ', H', J, rv, q⟩ := hs
    exact fin J rv q
  | next =>
    obtain ⟨σ', H', J, q⟩ := hs
    exact fin (v := V.non) (u := Value.none) J rfl q
  | brk =>
    obtain ⟨_, _, _, q⟩ := hs
    exact False.elim q
  | cont =>
    obtain ⟨_, _, _, q⟩ := hs
    exact False.elim q
end L2

namespace L2
open PySem PySem.Spec PyProof.Rows
section
variable {X : Cx} {x : Str} {p pos : Pos} {e : Expr} {es : List Expr} {t : TA} {id T : String} {r : List V → Hp → VK → Prop}

def tCB (r : List V → Hp → VK → Prop) (t : TA) : TE := fun σ H Q => t σ H fun vs H1 => r vs H1 Q
/-- f(e, ..), f a built-in function -/
theorem pe_callB (hc : CallR X (.builtin id) r) (hg : Gl X x) (hm : X.mg x = none) (hv : bootBuiltins x = some (.builtin id)) (ha : PA X (e :: es) t) (hn : x ≠ "__name__" := by decide) (hdb : (x == ("__debug__" : Str)) = false := by decide)
    (he : starEach (e :: es) X.env = (false, eval e X.env) :: starEach es X.env := by rfl) (hpl : (backTo pos (starEach es X.env)).any (·.1) = false := by rfl) : PE X (.Call (.Name x p) (e :: es) [] pos) (tCB r t) := by
  intro pins s σ H Q I h
  refine wpAny_Call_Name_kw (ld_blt I hg hm hv ?_ hn hdb)
  exact PyProof.Rows.callWith_builtin1 (thn (ha pos pins s σ H _ I h) fun us s1 ⟨vs, H1, I1, r1, q1⟩ => hc pins s1 σ H1 vs us Q I1 r1 q1) he hpl
end
end L2

namespace HT
open PySem PyProof.Rows



section
open PySem.SeqAt
open PySem.AutoSeq1 (wpAny_loadPart')
open PySem.MeetsSeq PySem.MeetsSeq2 PySem.MeetsSeq3

end

section
variable {prog : Program} {w : World} {A : Around} {E : Value → Shared → Prop} {s : Shared}



/-! ### t[a:b], not the whole -/
/-- a slice's bound as a place among n (d where it is left out) -/
def sIx (n d : Nat) : Option Int → Nat
  | none => d
  | some v => if v < 0 then (v + (n : Int)).toNat else min v.toNat n
theorem sIx_nat (n d k : Nat) : sIx n d (some (k : Int)) = min k n := by
  show (if (k : Int) < 0 then ((k : Int) + (n : Int)).toNat else min (k : Int).toNat n) = min k n
  rw [if_neg (by omega), Int.toNat_natCast]

end
end HT

namespace L2
open PySem PySem.Spec PyProof.Rows

/-! ### the parts of a slice -/
abbrev TO := St → Hp → (Option Int → Hp → Prop) → Prop
/-- a slice's part (left out, or an int) -/
def PO (X : Cx) (e : Option Expr) (t : TO) : Prop :=
  ∀ (pins : List (Addr × Obj)) (s : Shared) (σ : St) (H : Hp) (Q : Option Int → Hp → Prop), Inv X pins σ H s → t σ H Q →
    wpAny (model X.prog X.w) X.A (evalPart e X.env) (fun u s' => ∃ o H', Inv X pins σ H' s' ∧ IsPart u o ∧ Q o H') X.xe s
def tPart (t : TE) : TO := fun σ H Q => t σ H fun x H1 => ∃ i, x = .int i ∧ Q (some i) H1


section
variable {X : Cx} {e : Expr} {te : TE} {lo hi : Option Expr} {tl th : TO} {pos p2 : Pos}

theorem po_some (h : PE X e te) : PO X (some e) (tPart te) := by
  intro pins s σ H Q I hw
  rw [evalPart_some]
  refine thn (h pins s σ H _ I hw) fun u s1 ⟨x, H1, I1, r1, q1⟩ => ?_
  obtain ⟨i, rfl, q⟩ := q1
  obtain ⟨t, rfl⟩ := r1
  exact ⟨some i, H1, I1, .int i t, q⟩

/-- what a slice of a value is, by values: the slice object stands at sl -/
def SlR (X : Cx) (r : V → Option Int → Option Int → Hp → VK → Prop) : Prop :=
  ∀ (pins : List (Addr × Obj)) (s : Shared) (σ : St) (H : Hp) (x : V) (v vl vu : Value) (lo hi : Option Int) (sl : Addr) (Q : VK), Inv X pins σ H s → RelV x v → s.heap.IsSliceOf sl vl vu .none → IsPart vl lo → IsPart vu hi → r x lo hi H Q →
    ∃ T id, typeLookup (.type T) "__getitem__" = pure (some (.builtin id)) ∧ s.TypeIs v T ∧ wpAny (model X.prog X.w) X.A (getItem v (.ref sl)) (EP X pins σ Q) X.xe s
def tSl (r : V → Option Int → Option Int → Hp → VK → Prop) (te : TE) (tl th : TO) : TE := fun σ H Q => te σ H fun x H1 => tl σ H1 fun l H2 => th σ H2 fun u H3 => r x l u H3 Q
/-- a[lo:hi], any a -/
theorem pe_slice {r : V → Option Int → Option Int → Hp → VK → Prop} (hr : SlR X r) (he : PE X e te) (hl : PO X lo tl) (hu : PO X hi th) : PE X (.Subscript e (.Slice lo hi none p2) pos) (tSl r te tl th) := by
  intro pins s σ H Q I h
  refine Subscript_ (thn (he pins s σ H _ I h) fun v s1 ⟨x, H1, I1, r1, q1⟩ => ?_)
  refine wpAny_Slice (thn (hl pins s1 σ H1 _ I1 q1) fun vl s2 ⟨l, H2, I2, pl, q2⟩ => thn (hu pins s2 σ H2 _ I2 q2) fun vu s3 ⟨u, H3, I3, pu, q3⟩ => ?_)
  rw [evalPart_none]
  refine wpAny_pure ?_
  have I4 : Inv X pins σ H3 { s3 with heap := s3.heap.push { cls := .type "slice", data := .fields #[vl, vu, .none] } } := I3.kept (t' := s3.toks) fun b ob q => Heap.get?_push_of_some _ q
  obtain ⟨T, id, hT, ht, hg⟩ := hr pins { s3 with heap := s3.heap.push { cls := .type "slice", data := .fields #[vl, vu, .none] } } σ H3 x v vl vu l u s3.heap.objs.size Q I4 r1 (Heap.IsSliceOf.new ..) pl pu q3
  show wpAny (model X.prog X.w) X.A (subscriptTail e (.Slice lo hi none p2) v (.ref s3.heap.objs.size)) (EP X pins σ Q) X.xe { s3 with heap := s3.heap.push { cls := .type "slice", data := .fields #[vl, vu, .none] } }
  exact tail_any (ops := [.ref s3.heap.objs.size, v]) ht hT hg (by with_unfolding_all rfl)

/-- the items of xs[lo:hi] -/
def cutV (xs : List V) (lo hi : Option Int) : List V := (xs.drop (HT.sIx xs.length 0 lo)).take (HT.sIx xs.length xs.length hi - HT.sIx xs.length 0 lo)
theorem cutV_length (xs : List V) (lo hi : Option Int) : (cutV xs lo hi).length ≤ xs.length := by
  unfold cutV
  rw [List.length_take, List.length_drop]
  omega

/-! ### t < u, t + u -/
end
end L2

namespace L2
open PySem PySem.Spec PyProof.Rows

/-! ### places -/
/-- the place that an index of any sign means -/
def ixN (n : Nat) (i : Int) : Option Nat := if 0 ≤ i then (if i < n then some i.toNat else none) else if -(n : Int) ≤ i then some (i + n).toNat else none
def atI {α : Type} (xs : List α) (i : Int) : Option α := (ixN xs.length i).bind fun j => xs[j]?
theorem ixN_seq {n : Nat} {i : Int} {j : Nat} (h : ixN n i = some j) : seqIndex? i n = some j ∧ j < n ∧ -(n : Int) ≤ i ∧ i < n := by
  unfold ixN at h
  by_cases h0 : 0 ≤ i
  · rw [if_pos h0] at h
    by_cases h1 : i < n
    · rw [if_pos h1] at h
      have e : i.toNat = j := Option.some.inj h
      exact ⟨by rw [seqIndex_of h0 h1, e], by omega, by omega, h1⟩
    · rw [if_neg h1] at h; cases h
  · rw [if_neg h0] at h
    by_cases h1 : -(n : Int) ≤ i
    · rw [if_pos h1] at h
      have e : (i + n).toNat = j := Option.some.inj h
      exact ⟨by rw [seqIndex_neg (by omega) h1, e], by omega, h1, by omega⟩
    · rw [if_neg h1] at h; cases h
theorem atI_get {α : Type} {xs : List α} {i : Int} {v : α} (h : atI xs i = some v) : ∃ j, seqIndex? i xs.length = some j ∧ xs[j]? = some v ∧ j < xs.length ∧ -(xs.length : Int) ≤ i ∧ i < xs.length := by
  unfold atI at h
  cases e : ixN xs.length i with
  | none => rw [e] at h; cases h
  | some j =>
    rw [e] at h
    obtain ⟨h1, h2, h3, h4⟩ := ixN_seq e
    exact ⟨j, h1, h, h2, h3, h4⟩
theorem atI_nat {α : Type} {xs : List α} {j : Nat} {v : α} (h : xs[j]? = some v) : atI xs (j : Int) = some v := by
  have hj : j < xs.length := (List.getElem?_eq_some_iff.mp h).1
  have e : ixN xs.length (j : Int) = some j := by
    unfold ixN
    rw [if_pos (by omega), if_pos (by omega)]; simp
  unfold atI; rw [e]; exact h

/-! ### what may be subscripted -/
/-- what stands as an index of a plain subscript -/
def PlainIx (b : Expr) : Prop := ∀ o i, subscripted b false o i = operate [o, i] (getItem o i)
/-- a subscript by values -/
def IxR (X : Cx) (r : R2) : Prop :=
  ∀ (value slice : Expr) (pins : List (Addr × Obj)) (s : Shared) (σ : St) (H : Hp) (x y : V) (v u : Value) (Q : VK), Inv X pins σ H s → RelV x v → RelV y u → r x y H Q →
    subscripted slice false v u = operate [v, u] (getItem v u) → wpAny (model X.prog X.w) X.A (subscriptTail value slice v u) (EP X pins σ Q) X.xe s
/-- a call of a builtin's method by values: the receiver, the arguments -/
def MtR (X : Cx) (id : String) (r : V → List V → Hp → VK → Prop) : Prop :=
  ∀ (pins : List (Addr × Obj)) (s : Shared) (σ : St) (H : Hp) (x : V) (xs : List V) (v : Value) (us : List Value) (Q : VK), Inv X pins σ H s → RelV x v → Vals xs us → r x xs H Q →
    wpAny (model X.prog X.w) X.A (call (.builtin id) (v :: us)) (EP X pins σ Q) X.xe s
section
variable {X : Cx} {a b : Expr} {ta tb : TE} {pos : Pos}
/-- a[b] -/
theorem pe_ix {r : R2} (hr : IxR X r) (ha : PE X a ta) (hb : PE X b tb) (hs : PlainIx b) : PE X (.Subscript a b pos) (tOp r ta tb) := by
  intro pins s σ H Q I h
  exact Subscript_ (binT ha hb I h fun v u s2 x y H2 I2 rx ry q => hr a b pins s2 σ H2 x y v u Q I2 rx ry q (hs _ _))

def rIxL (K : PySem.W.Frag) : R2 := fun x y H Q => ∃ p xs i v, x = .ref p ∧ y = .int i ∧ SqL K H p xs ∧ atI xs i = some v ∧ Q v H
def rIxT (K : PySem.W.Frag) : R2 := fun x y H Q => ∃ p xs i v, x = .ref p ∧ y = .int i ∧ SqT K H p xs ∧ atI xs i = some v ∧ Q v H
theorem ix_list : IxR X (rIxL X.K) := by
  intro value slice pins s σ H x y v u Q I rx ry h hs
  obtain ⟨p, xs, i, z, rfl, rfl, hq, he, q⟩ := h
  cases rx
  obtain ⟨t, rfl⟩ := ry
  obtain ⟨its, r, pl, hz⟩ := I.list hq
  obtain ⟨j, h1, h2, h3, h4, h5⟩ := atI_get he
  obtain ⟨w, ew, rw'⟩ := r.get h2
  have hl := r.length
  have hn := line63
  have fin : EP X pins σ Q w s := ⟨z, H, I, rw', q⟩
  by_cases h0 : 0 ≤ i
  · have hj : i.toNat = j := by
      rw [seqIndex_of h0 h5] at h1
      exact Option.some.inj h1
    exact item_listR pl.isList h0 (by omega) (by rw [hj]; simpa using ew) fin hs
  · have hj : (i + (its.toArray.size : Int)).toNat = j := by
      rw [seqIndex_neg (by omega) h4] at h1
      rw [List.size_toArray, ← hl]
      exact Option.some.inj h1
    exact subscriptTail_builtinR (x := w) pl.isList.typeIs slot_list_getitem.lookup
      (wpAny_getItem_list_neg (Q := fun r s' => r = w ∧ EP X pins σ Q r s') pl.isList (by omega) (by rw [List.size_toArray] <;> omega) (by omega) (by rw [hj]; simpa using ew) ⟨rfl, fin⟩) hs
theorem ix_tup : IxR X (rIxT X.K) := by
  intro value slice pins s σ H x y v u Q I rx ry h hs
  obtain ⟨p, xs, i, z, rfl, rfl, hq, he, q⟩ := h
  cases rx
  obtain ⟨t, rfl⟩ := ry
  obtain ⟨its, r, pl, hz⟩ := I.tuple hq
  obtain ⟨j, h1, h2, h3, h4, h5⟩ := atI_get he
  obtain ⟨w, ew, rw'⟩ := r.get h2
  have hl := r.length
  have hn := line63
  have fin : EP X pins σ Q w s := ⟨z, H, I, rw', q⟩
  exact subscriptTail_builtinR (x := w) pl.typeIs slot_tuple_getitem.lookup
    (getItem_tuple (j := j) (Q := fun r s' => r = w ∧ EP X pins σ Q r s') pl (by omega) (by omega) (by rw [List.size_toArray, ← hl]; exact h1) (by simpa using ew) ⟨rfl, fin⟩) hs

/-! ### xs[i] = v, any sign -/

/-! ### slices -/
theorem slice_bounds (lo hi : Option Int) (n : Nat) : (sliceBounds lo hi none n).1 = ((HT.sIx n 0 lo : Nat) : Int) ∧ (sliceBounds lo hi none n).2.1 = ((HT.sIx n n hi : Nat) : Int) ∧ (sliceBounds lo hi none n).2.2 = 1 := by
  refine ⟨?_, ?_, rfl⟩
  · cases lo with
    | none => simp [sliceBounds, HT.sIx]
    | some i =>
      simp only [sliceBounds, HT.sIx, Option.getD_none, show (1 : Int) > 0 by decide, if_true]
      by_cases h : i < 0
      · simp only [h, if_true] <;> omega
      · simp only [h, if_false] <;> omega
  · cases hi with
    | none => simp [sliceBounds, HT.sIx]
    | some i =>
      simp only [sliceBounds, HT.sIx, Option.getD_none, show (1 : Int) > 0 by decide, if_true]
      by_cases h : i < 0
      · simp only [h, if_true] <;> omega
      · simp only [h, if_false] <;> omega
theorem slicePick_cut (its : List Value) (lo hi : Option Int) : slicePick its.toArray lo hi none = ((its.drop (HT.sIx its.length 0 lo)).take (HT.sIx its.length its.length hi - HT.sIx its.length 0 lo)).toArray := by
  obtain ⟨h1, h2, h3⟩ := slice_bounds lo hi its.toArray.size
  unfold slicePick
  rw [h1, h2, h3]
  simp only [sliceRange_one, pick_run, List.size_toArray] <;> rfl
/-- xs[lo:hi] of a list: a new list -/
def rSlL (K : PySem.W.Frag) : V → Option Int → Option Int → Hp → VK → Prop := fun x lo hi H Q => ∃ a xs, x = .ref a ∧ SqL K H a xs ∧ ∀ p, H p = none → Q (.ref p) (upd H p (.lst (cutV xs lo hi)))
theorem sl_list : SlR X (rSlL X.K) := by
  intro pins s σ H x v vl vu lo hi sl Q I rx hs pl pu h
  obtain ⟨a, xs, rfl, hx, q⟩ := h
  cases rx
  obtain ⟨its, r, ht, hz⟩ := I.list hx
  have hlen := r.length
  refine ⟨"list", _, slot_list_getitem.lookup, ht.isList.typeIs, ?_⟩
  refine wpAny_getItem_list_slice ht.isList hs pl pu .none (by simp) ?_ (by rw [List.size_toArray] <;> omega)
  rw [slicePick_cut, ← hlen]
  refine ⟨.ref s.heap.objs.size, _, I.laid (t' := s.toks) (o := .lst (cutV xs lo hi)) (fun b ob q => Heap.get?_push_of_some _ q) (Nat.le_refl _) ?_, rfl, q _ (I.hok.fresh (Nat.le_refl _))⟩
  exact ⟨Nat.le_trans (cutV_length xs lo hi) hz, _, 0, (r.drop (HT.sIx xs.length 0 lo)).take (HT.sIx xs.length xs.length hi - HT.sIx xs.length 0 lo), Heap.get?_push_size _ rfl⟩

/-! ### in, not in: flat items -/

/-! ### len, list(x), tuple(x) of any list or tuple that is read -/
theorem call_len_seq : CallR X (.builtin "len") (fun xs H Q => ∃ p ys, xs = [.ref p] ∧ (SqL X.K H p ys ∨ SqT X.K H p ys) ∧ Q (.int ys.length) H) := by
  intro pins s σ H xs us Q I r h
  obtain ⟨p, ys, rfl, hq, q⟩ := h
  obtain ⟨u, rfl, rx⟩ := vals1 r
  cases rx
  have hn := line63
  rcases hq with hq | hq
  · obtain ⟨its, r', pl, hz⟩ := I.list hq
    have hlen := r'.length
    exact Calls.call_len_list pl.isList (by simp only [List.size_toArray] <;> omega) ⟨.int ys.length, H, I.tok _, ⟨s.toks + 1, by rw [List.size_toArray, hlen]⟩, q⟩
  · obtain ⟨its, r', pl, hz⟩ := I.tuple hq
    have hlen := r'.length
    exact len_tuple pl (by simp only [List.size_toArray] <;> omega) ⟨.int ys.length, H, I.tok _, ⟨s.toks + 1, by rw [List.size_toArray, hlen]⟩, q⟩

/-! ### the call of a builtin's method: o.m(..) -/
/-- the value is of that builtin type -/
def tyV (K : PySem.W.Frag) (T : String) (x : V) (H : Hp) : Prop := match x with
  | .str _ => T = "str"
  | .int _ => T = "int"
  | .ref p => (T = "list" ∧ ∃ xs, SqL K H p xs) ∨ (T = "tuple" ∧ ∃ o, K.lookup p = some o ∧ o.cls = .type "tuple" ∧ o.dict = none) ∨
      (T = "dict" ∧ ((∃ kvs, H p = some (.dK kvs)) ∨ ∃ kvs, H p = some (.dT kvs))) ∨ (T = "set" ∧ ∃ S n, H p = some (.set S n))
  | _ => False
theorem tyV_is {pins : List (Addr × Obj)} {σ : St} {H : Hp} {s : Shared} {T : String} {x : V} {v : Value} (I : Inv X pins σ H s) (r : RelV x v) (ty : tyV X.K T x H) :
    s.TypeIs v T ∧ ∀ a, v = .ref a → ∃ ob, s.heap.get? a = some ob ∧ ob.dict = none := by
  cases x with
  | str z =>
    obtain ⟨t, rfl⟩ := r
    cases (show T = "str" from ty)
    exact ⟨typeIs_str s z t, fun _ e => nomatch e⟩
  | int i =>
    obtain ⟨t, rfl⟩ := r
    cases (show T = "int" from ty)
    exact ⟨typeIs_int s i t, fun _ e => nomatch e⟩
  | ref p =>
    cases r
    rcases ty with ⟨rfl, xs, hq⟩ | ⟨rfl, o, hk, hc, hd⟩ | ⟨rfl, hk⟩ | ⟨rfl, S, n, hk⟩
    · obtain ⟨its, _, pl, _⟩ := I.list hq
      refine ⟨pl.isList.typeIs, fun a e => ?_⟩
      cases e
      obtain ⟨o, n, e, c, hd, _⟩ := pl
      exact ⟨o, e, hd⟩
    · refine ⟨⟨o, I.kIn p o hk, hc⟩, fun a e => ?_⟩
      cases e
      exact ⟨o, I.kIn _ o hk, hd⟩
    · have z : ∃ o, s.heap.get? p = some o ∧ o.ExactDict := by
        rcases hk with ⟨kvs, hk⟩ | ⟨kvs, hk⟩
        · obtain ⟨_, _, _, _, o, _, _, e, ex, _⟩ := I.hok p _ hk
          exact ⟨o, e, ex⟩
        · obtain ⟨_, _, _, _, o, _, _, e, ex, _⟩ := I.hok p _ hk
          exact ⟨o, e, ex⟩
      obtain ⟨o, e, ex⟩ := z
      refine ⟨⟨o, e, ex.1⟩, fun a e2 => ?_⟩
      cases e2
      exact ⟨o, e, ex.2.1⟩
    · obtain ⟨o, _, _, _, e, ex, _⟩ := I.hok p _ hk
      refine ⟨⟨o, e, ex.1⟩, fun a e2 => ?_⟩
      cases e2
      exact ⟨o, e, ex.2.1⟩
  | _ => exact False.elim ty
def tBM (K : PySem.W.Frag) (T : String) (r : V → List V → Hp → VK → Prop) (to : TE) (t : TA) : TE := fun σ H Q => to σ H fun x H1 => tyV K T x H1 ∧ t σ H1 fun xs H2 => r x xs H2 Q
variable {o e : Expr} {es : List Expr} {to : TE} {t : TA} {name : Str} {apos cpos : Pos} {T id : String} {r : V → List V → Hp → VK → Prop}
theorem pe_bm (pa : PlainAttrs T) (slot : Slot T name id) (hty : typeOf (.builtin id) = pure (.type "method_descriptor")) (hm : MtR X id r) (ho : PE X o to) (ha : PA X (e :: es) t)
    (hbase : attributeBase o name X.env (eval o X.env) = eval o X.env := by rfl)
    (hfew : ((backTo cpos (starEach (e :: es) X.env)).all (fun x => !x.1) && (backToKw cpos (keywordEach [] X.env)).all (fun x => x.1.isSome)
      && decide ((e :: es).length + ([] : List Keyword).length + (if ([] : List Keyword).isEmpty then 0 else 1) < 30)) = true := by rfl)
    (hline : (apos.endLine == cpos.line) = true := by rfl) (hs : starEach (e :: es) X.env = (false, eval e X.env) :: starEach es X.env := by rfl) (hplain : (backTo cpos (starEach es X.env)).any (·.1) = false := by rfl) :
    PE X (.Call (.Attribute o name apos) (e :: es) [] cpos) (tBM X.K T r to t) := by
  intro pins s σ H Q I h
  refine wpAny_Call_method_late hbase hfew hline rfl (thn (ho pins s σ H _ I h) fun v s1 ⟨x, H1, I1, r1, ty, q1⟩ => ?_)
  obtain ⟨h1, h2⟩ := tyV_is I1 r1 ty
  refine ⟨T, id, pa, slot, hty, h1, h2, ?_⟩
  have hA := ha cpos pins s1 σ H1 _ I1 q1
  rw [hs] at hA ⊢
  refine Calls.callWith_builtin (by show (false || (backTo cpos (starEach es X.env)).any (·.1)) = false; rw [hplain] <;> rfl) (Calls.evalArgs_plain ?_)
  exact thn hA fun us s2 ⟨vs, H2, I2, r2, q2⟩ => hm pins s2 σ H2 x vs v us Q I2 r1 r2 q2
/- xs.append(e), list.index on a module's tuple .. are MtR facts of 06m -/
end
end L2

namespace L2
open PySem PySem.Spec PyProof.Rows

def MtM (X : Cx) (id : String) (r : V → List V → Hp → VK → Prop) : Prop :=
  ∀ (pins : List (Addr × Obj)) (s : Shared) (σ : St) (H : Hp) (x : V) (xs : List V) (v : Value) (us : List Value) (Q : VK), Inv X pins σ H s → RelV x v → Vals xs us → r x xs H Q →
    wpAny (model X.prog X.w) X.A (call (.builtin id) (v :: us)) (EP X pins σ Q) X.xe s

/-! ### lists of values -/
theorem Vals.one : ∀ {x : V} {us : List Value}, Vals [x] us → ∃ u, us = [u] ∧ RelV x u
  | _, _, .cons r .nil => ⟨_, rfl, r⟩

section
variable {X : Cx} {pins : List (Addr × Obj)} {σ : St} {H : Hp} {s : Shared} {l b : Addr} {xs ys zs : List V}

/-! ### the two steps: a tracked list is rewritten, a new list is laid -/
theorem Inv.lset {its its' : List Value} {n : Nat} {f : Array Value → Array Value} {t' : Nat} (I : Inv X pins σ H s) (hH : H l = some (.lst xs))
    (e : s.heap.get? l = some { cls := .type "list", data := .seq its.toArray n }) (hf : f its.toArray = its'.toArray) (hv : Vals ys its') (hz : ys.length ≤ sizeLine) :
    Inv X pins σ (upd H l (.lst ys)) { s with heap := s.heap.update l (Obj.mapSeq f), toks := t' } := by
  have q := PySem.IsL.update e f
  rw [hf] at q
  refine I.write (x := l) (e := l) (by rw [hH]; exact trivial) (.inl rfl) (fun b' u hb hu => (Heap.get?_update_other s.heap (Obj.mapSeq f) (Ne.symm hb)).trans hu) ⟨_, q⟩ ?_
  exact ⟨hz, its', _, hv, q⟩
theorem Inv.lnew {its : List Value} {t' : Nat} (I : Inv X pins σ H s) (hv : Vals ys its) (hz : ys.length ≤ sizeLine) :
    Inv X pins σ (upd H s.heap.objs.size (.lst ys)) { s with heap := s.heap.push { cls := .type "list", data := .seq its.toArray }, toks := t' } :=
  I.laid (fun _ _ q => Heap.get?_push_of_some _ q) (Nat.le_refl _) ⟨hz, its, 0, hv, Heap.get?_push_size _ rfl⟩
theorem Inv.fresh (I : Inv X pins σ H s) : H s.heap.objs.size = none := I.hok.fresh (Nat.le_refl _)
theorem Inv.lstM (I : Inv X pins σ H s) (hH : H l = some (.lst xs)) : xs.length ≤ sizeLine ∧ ∃ (its : List Value) (n : Nat), Vals xs its ∧ xs.length = its.length ∧ s.heap.get? l = some { cls := .type "list", data := .seq its.toArray n } := by
  obtain ⟨z, its, n, r, e⟩ := I.hok l _ hH
  exact ⟨z, its, n, r, r.length, e⟩

theorem notLongL {n : Nat} (h : n ≤ sizeLine) : Builtin.List.listTooLong n = false := by
  unfold Builtin.List.listTooLong
  exact decide_eq_false (by omega)
end

section
variable {X : Cx}

/-! ### methods -/
def rAppend : V → List V → Hp → VK → Prop := fun x vs H Q => ∃ l xs y, x = .ref l ∧ vs = [y] ∧ H l = some (.lst xs) ∧ xs.length < sizeLine ∧ Q .non (upd H l (.lst (xs ++ [y])))
theorem mt_append : MtM X "list.append" rAppend := by
  intro pins s σ H x vs v us Q I rx rv h
  obtain ⟨l, xs, y, rfl, rfl, hH, hz, q⟩ := h
  cases rx
  obtain ⟨u, rfl, ru⟩ := rv.one
  obtain ⟨z, its, n, r, hl, e⟩ := I.lstM hH
  refine call_meets F.slot_list_append ⟨_, e, rfl⟩ F.entry_list_append (F.args_list_append_2 _ _) (PySem.list_append l its.toArray n u (by rw [List.size_toArray]; omega)) ⟨e, ?_⟩
  refine ⟨.non, _, I.lset (its' := its ++ [u]) hH e (by simp) (r.append (.cons ru .nil)) ?_, rfl, q⟩
  rw [List.length_append, List.length_singleton]
  omega

def rExtend : V → List V → Hp → VK → Prop := fun x vs H Q => ∃ l b xs zs, x = .ref l ∧ vs = [.ref b] ∧ H l = some (.lst xs) ∧ H b = some (.lst zs) ∧ xs.length + zs.length ≤ sizeLine ∧ Q .non (upd H l (.lst (xs ++ zs)))
theorem mt_extend : MtM X "list.extend" rExtend := by
  intro pins s σ H x vs v us Q I rx rv h
  obtain ⟨l, b, xs, zs, rfl, rfl, hH, hB, hz, q⟩ := h
  cases rx
  obtain ⟨u, rfl, ru⟩ := rv.one
  cases ru
  obtain ⟨z, its, n, r, hl, e⟩ := I.lstM hH
  obtain ⟨z2, its2, n2, r2, hl2, e2⟩ := I.lstM hB
  have hsz : its.toArray.size + its2.toArray.size ≤ sizeLine := by rw [List.size_toArray, List.size_toArray]; omega
  have hlong : ¬ (!its.toArray.isEmpty && Builtin.List.listTooLong (its.toArray.size + its2.toArray.size)) = true := by
    rw [notLongL hsz, Bool.and_false]
    exact Bool.false_ne_true
  refine call_meets F.slot_list_extend ⟨_, e, rfl⟩ F.entry_list_extend (F.args_list_extend_2 _ _)
    (AutoSeq1.list_extend_list_list_0 l its.toArray n b its2.toArray n2 hlong (by rw [List.size_toArray]; omega) (by omega)) ⟨e, e2, ?_⟩
  refine ⟨.non, _, I.lset (its' := its ++ its2) hH e (by simp) (r.append r2) ?_, rfl, q⟩
  rw [List.length_append]
  omega





/-! ### list + list, list += list, list * int -/
def rCat : R2 := fun x y H Q => ∃ l b xs zs, x = .ref l ∧ y = .ref b ∧ H l = some (.lst xs) ∧ H b = some (.lst zs) ∧ xs.length + zs.length ≤ sizeLine ∧ ∀ p, H p = none → Q (.ref p) (upd H p (.lst (xs ++ zs)))
theorem op_cat : OpR X (binaryOp .Add) rCat := by
  intro pins s σ H x y v u Q I rx ry h
  obtain ⟨l, b, xs, zs, rfl, rfl, hH, hB, hz, q⟩ := h
  cases rx
  cases ry
  obtain ⟨z, its, n, r, hl, e⟩ := I.lstM hH
  obtain ⟨z2, its2, n2, r2, hl2, e2⟩ := I.lstM hB
  refine PySem.P.add_list e e2 ?_ (by rw [List.size_toArray, List.size_toArray]; omega)
  have ea : its.toArray ++ its2.toArray = (its ++ its2).toArray := by simp
  rw [ea]
  exact ⟨.ref _, _, I.lnew (t' := s.toks) (r.append r2) (by rw [List.length_append]; omega), rfl, q _ I.fresh⟩

/-! ### del xs[i] -/
end

/-! ### xs[a:b] = ys -/
section
variable {prog : Program} {w : World} {A : Around} {E : Value → Shared → Prop} {s : Shared}
end

section
variable {X : Cx}
end
end L2

namespace L2
open PySem PySem.Spec PyProof.Rows

theorem Vals.ints : ∀ {ns : List Int} {us : List Value}, Vals (ns.map V.int) us → IntsAre us ns
  | [], us, h => by
    rw [List.map_nil] at h
    cases h
    exact IntsAre.nil
  | n :: ns, us, h => by
    rw [List.map_cons] at h
    cases h with
    | cons r t =>
      obtain ⟨k, rfl⟩ := r
      exact IntsAre.cons n k (Vals.ints t)
theorem Vals.ref1 {a : Addr} {us : List Value} (r : Vals [V.ref a] us) : us = [Value.ref a] := by
  cases r with
  | cons r t =>
    cases t
    cases r
    rfl

/-! ### the library's walks over a list of ints, kept objects alone -/
section
variable {prog : Program} {w : World} {A : Around} {E : Value → Shared → Prop} {s : Shared} {l : Addr} {its : List Value} {ns : List Int} {Q : Value → Shared → Prop}
theorem sum_raw (hh : A.handled = none) (hl : s.heap.IsList l its.toArray) (hi : IntsAre its ns)
    (h : ∀ h' tk t', (∀ b o, s.heap.get? b = some o → h'.get? b = some o) → Q (.int ns.sum t') { s with heap := h', toks := tk }) : wpAny (model prog w) A (call (.builtin "sum") [.ref l]) Q E s := by
  obtain ⟨xs, e⟩ := hi.allInts.items
  have hn : numsOf (intItems xs).toList = ns := by rw [← e]; exact hi.numsOf
  rw [nums_intItems] at hn
  rw [e] at hl
  refine PySem.sum_intListG hh hl fun h' tk t' hk => ?_
  have := h h' tk t' hk
  rw [preSum_eq, List.take_of_length_le (by simp), hn]; exact this
end

/-! ### the calls, by values (CallR of 03t; MtR of 06l) -/
section
variable {X : Cx}
/-- sum(xs) of a list of ints -/
def rSum (K : PySem.W.Frag) : List V → Hp → VK → Prop := fun vs H Q => ∃ (a : Addr) (ns : List Int), vs = [V.ref a] ∧ SqL K H a (ns.map V.int) ∧ Q (.int ns.sum) H
theorem cr_sum (hc : X.calm = true) : CallR X (.builtin "sum") (rSum X.K) := by
  intro pins s σ H vs us Q I r h
  obtain ⟨a, ns, rfl, hs, q⟩ := h
  obtain ⟨its, rv, hl, _⟩ := I.list hs
  rw [Vals.ref1 r]
  exact sum_raw (I.ok.hd hc) hl.isList rv.ints fun h' tk t' hk => ⟨.int _, H, I.kept hk, ⟨_, rfl⟩, q⟩

/-! sorted, sort (fewer than 64 items: the library's own bound) -/
end

/-! ### list.index, flat items -/
section
variable {X : Cx}
end

/-! ### type(x) of an own instance; is, is not of a module's class -/
section
variable {X : Cx}
end

/-! ### any(xs), all(xs) of a list of bools -/
section
variable {X : Cx}
end

/-! ### == and != of data at any depth: none, bools, ints, texts, lists, tuples -/
section
variable {X : Cx} {pins : List (Addr × Obj)} {σ : St} {H : Hp} {s : Shared}
end
section
variable {X : Cx}
end
end L2

namespace L2
open PySem PySem.Spec PyProof.Rows
abbrev CellAt (h : Heap) (c : Addr) (v : Option Value) : Prop := h.IsCell c v
def relS (scope sc : Scope) : Scope :=
  { scope with names := scope.names.map fun (n, k) => if (k == .free && sc.kind == .function && sc.names.lookup n == some .cell) then (n, .cell) else (n, k) }

def cloFrom (cells : List (Str × Addr)) : List (Str × NameKind) → List (Str × Addr) → List (Str × Addr)
  | [], acc => acc
  | (n, k) :: r, acc => if k == .free then cloFrom cells r ((n, (cells.lookup n).getD 0) :: acc) else cloFrom cells r acc

theorem closure_loop (env : Env) (f : Str × NameKind → List (Str × Addr) → Sem (ForInStep (List (Str × Addr))))
    (hf : ∀ n k c, f (n, k) c = if k == .free then (do let a ← cellOf env n; pure (.yield ((n, a) :: c))) else pure (.yield c)) :
    ∀ (names : List (Str × NameKind)) (acc : List (Str × Addr)), (∀ y ∈ names, y.2 = .free → ∃ c, env.cells.lookup y.1 = some c) → forIn names acc f = pure (cloFrom env.cells names acc)
  | [], acc, _ => by rw [List.forIn_nil]; rfl
  | (n, k) :: r, acc, h => by
    rw [List.forIn_cons, hf]
    have ih := fun acc => closure_loop env f hf r acc fun y hy => h y (List.mem_cons_of_mem _ hy)
    unfold cloFrom
    by_cases hk : (k == NameKind.free) = true
    · rw [if_pos hk, if_pos hk]
      obtain ⟨c, hc⟩ := h (n, k) List.mem_cons_self (by simpa using hk)
      have e : cellOf env n = pure c := by unfold cellOf; rw [hc]
      rw [e]
      have e2 : (env.cells.lookup n).getD 0 = c := by rw [hc]; rfl
      rw [e2]
      exact ih _
    · rw [if_neg hk, if_neg hk]
      exact ih _
theorem closure_ok {scope : Scope} {env : Env} (h : ∀ y ∈ scope.names, y.2 = .free → ∃ c, env.cells.lookup y.1 = some c) : closureFor scope env = pure (cloFrom env.cells scope.names []) := by
  simp only [closureFor]
  rw [closure_loop env _ (fun n k c => rfl) scope.names [] h]
  rfl

theorem mem_lookup {α : Type} : ∀ {l : List (Str × α)} {n : Str} {c : α}, (n, c) ∈ l → ∃ c', l.lookup n = some c'
  | (k, v) :: r, n, c, h => by
    rw [List.lookup_cons]
    cases hb : n == k with
    | true => exact ⟨_, rfl⟩
    | false =>
      rcases List.mem_cons.mp h with e | h
      · cases e; simp at hb
      · exact mem_lookup h

theorem cloFrom_mem {cells : List (Str × Addr)} : ∀ {names : List (Str × NameKind)} {acc : List (Str × Addr)} {n : Str} {c : Addr}, (n, c) ∈ cloFrom cells names acc → (n, c) ∈ acc ∨ ((n, .free) ∈ names ∧ c = (cells.lookup n).getD 0)
  | [], _, _, _, h => .inl h
  | (m, k) :: r, acc, n, c, h => by
    unfold cloFrom at h
    split at h
    · rename_i hk
      have hk : k = .free := by simpa using hk
      rcases cloFrom_mem h with h | ⟨h1, h2⟩
      · rcases List.mem_cons.mp h with e | h
        · cases e; exact .inr ⟨hk ▸ List.mem_cons_self, rfl⟩
        · exact .inl h
      · exact .inr ⟨List.mem_cons_of_mem _ h1, h2⟩
    · rcases cloFrom_mem h with h | ⟨h1, h2⟩
      · exact .inl h
      · exact .inr ⟨List.mem_cons_of_mem _ h1, h2⟩
theorem cloFrom_acc {cells : List (Str × Addr)} : ∀ {names : List (Str × NameKind)} {acc : List (Str × Addr)} {p : Str × Addr}, p ∈ acc → p ∈ cloFrom cells names acc
  | [], _, _, h => h
  | (m, k) :: r, acc, p, h => by
    unfold cloFrom
    split
    · exact cloFrom_acc (List.mem_cons_of_mem _ h)
    · exact cloFrom_acc h
theorem cloFrom_has {cells : List (Str × Addr)} : ∀ {names : List (Str × NameKind)} {acc : List (Str × Addr)} {n : Str}, (n, .free) ∈ names → (n, (cells.lookup n).getD 0) ∈ cloFrom cells names acc
  | (m, k) :: r, acc, n, h => by
    unfold cloFrom
    rcases List.mem_cons.mp h with e | h
    · cases e
      exact cloFrom_acc List.mem_cons_self
    · split
      · exact cloFrom_has h
      · exact cloFrom_has h

theorem cells_mem : ∀ {names : List (Str × NameKind)} {h : Heap} {acc : List (Str × Addr)} {x : Str} {c : Addr}, (x, c) ∈ cellsFrom h.objs.size names acc →
    (x, c) ∈ acc ∨ ((x, .cell) ∈ names ∧ h.objs.size ≤ c ∧ CellAt (pushCells h names) c none)
  | [], _, _, _, _, h => .inl h
  | (n, k) :: r, h, acc, x, c, hm => by
    unfold cellsFrom at hm
    unfold pushCells
    split at hm
    · rename_i hk
      rw [if_pos hk]
      have hk : k = .cell := by simpa using hk
      rw [← Heap.size_push h { cls := .type "cell", data := .cell none }] at hm
      rcases cells_mem hm with hm | ⟨h1, h2, h3⟩
      · rcases List.mem_cons.mp hm with e | hm
        · cases e
          exact .inr ⟨hk ▸ List.mem_cons_self, Nat.le_refl _, _, pushCells_keeps r _ _ _ (Heap.get?_push_size _ rfl), rfl⟩
        · exact .inl hm
      · rw [Heap.size_push] at h2
        exact .inr ⟨List.mem_cons_of_mem _ h1, Nat.le_of_succ_le h2, h3⟩
    · rename_i hk
      rw [if_neg hk]
      rcases cells_mem hm with hm | ⟨h1, h2, h3⟩
      · exact .inl hm
      · exact .inr ⟨List.mem_cons_of_mem _ h1, h2, h3⟩
theorem cells_acc : ∀ {names : List (Str × NameKind)} {n : Nat} {acc : List (Str × Addr)} {p : Str × Addr}, p ∈ acc → p ∈ cellsFrom n names acc
  | [], _, _, _, h => h
  | (m, k) :: r, n, acc, p, h => by
    unfold cellsFrom
    split
    · exact cells_acc (List.mem_cons_of_mem _ h)
    · exact cells_acc h
theorem cells_has : ∀ {names : List (Str × NameKind)} {n : Nat} {acc : List (Str × Addr)} {x : Str}, (x, .cell) ∈ names → ∃ c, (x, c) ∈ cellsFrom n names acc
  | (m, k) :: r, n, acc, x, h => by
    unfold cellsFrom
    rcases List.mem_cons.mp h with e | h
    · cases e
      exact ⟨n, cells_acc List.mem_cons_self⟩
    · split
      · exact cells_has h
      · exact cells_has h
theorem cells_inj : ∀ {names : List (Str × NameKind)} {h : Heap} {acc : List (Str × Addr)} {x y : Str} {c : Addr}, (∀ p ∈ acc, p.2 < h.objs.size) → (∀ x y c, (x, c) ∈ acc → (y, c) ∈ acc → x = y) →
    (x, c) ∈ cellsFrom h.objs.size names acc → (y, c) ∈ cellsFrom h.objs.size names acc → x = y
  | [], _, _, _, _, _, _, hi, h1, h2 => hi _ _ _ h1 h2
  | (n, k) :: r, h, acc, x, y, c, hl, hi, h1, h2 => by
    unfold cellsFrom at h1 h2
    split at h1
    · rename_i hk
      rw [if_pos hk] at h2
      rw [← Heap.size_push h { cls := .type "cell", data := .cell none }] at h1 h2
      refine cells_inj (h := h.push _) (fun p hp => ?_) (fun x y c a b => ?_) h1 h2
      · rw [Heap.size_push]
        rcases List.mem_cons.mp hp with rfl | hp
        · exact Nat.lt_succ_self _
        · exact Nat.lt_succ_of_lt (hl p hp)
      · rcases List.mem_cons.mp a with e | a <;> rcases List.mem_cons.mp b with e' | b
        · cases e; cases e'; rfl
        · cases e; exact absurd (hl _ b) (Nat.lt_irrefl _)
        · cases e'; exact absurd (hl _ a) (Nat.lt_irrefl _)
        · exact hi _ _ _ a b
    · rename_i hk
      rw [if_neg hk] at h2
      exact cells_inj hl hi h1 h2

theorem newEnv_comp {M : Model} {A : Around} {E : Value → Shared → Prop} {s : Shared} {scope : Scope} {globals : Addr} {closure : List (Str × Addr)} {qual : Str} {func : Option Addr} {code : Value} {around : Env} {builtins : Addr} {Q : Env → Shared → Prop}
    (h : Q (newEnv scope s.heap.objs.size globals (cellsFrom (s.heap.objs.size + 1) scope.names closure) qual func code (some around) builtins)
      { s with heap := pushCells (s.heap.push { cls := .type "dict", data := .dict #[] }) scope.names }) :
    wpAny M A (newFunctionEnv scope globals closure [] qual func code (some around) builtins) Q E s := by
  simp only [newFunctionEnv, Option.isSome_some, if_true]
  refine wpAny_bind (wpAny_alloc ?_)
  refine wpAny_bind (wpAny_layCells _ (fun n k c => rfl) scope.names closure _ _ ?_)
  rw [show ({ s with heap := s.heap.push { cls := .type "dict", data := .dict #[] } } : Shared).heap.objs.size = s.heap.objs.size + 1 from Heap.size_push ..]
  rw [List.forIn_nil]
  exact wpAny_bind (wpAny_pure (wpAny_pure h))

/-- every name of the written scope, in the scope that runs -/
theorem lookup_relS {sc : Scope} : ∀ {names : List (Str × NameKind)} {x : Str} {k : NameKind},
    (names.map fun (n, k) => if (k == NameKind.free && sc.kind == .function && sc.names.lookup n == some .cell) then (n, NameKind.cell) else (n, k)).lookup x = some k →
    ∃ k', names.lookup x = some k' ∧ (k = k' ∨ (k' = .free ∧ k = .cell))
  | [], _, _, h => by simp at h
  | (n, k₀) :: r, x, k, h => by
    have ih := @lookup_relS sc r x k
    have h' : List.lookup x ((if (k₀ == NameKind.free && sc.kind == .function && sc.names.lookup n == some .cell) = true then (n, NameKind.cell) else (n, k₀)) :: (r.map _)) = some k := h
    cases hx : x == n with
    | true =>
      simp only [List.lookup_cons, hx]
      by_cases hc : (k₀ == NameKind.free && sc.kind == .function && sc.names.lookup n == some .cell) = true
      · rw [if_pos hc] at h'
        simp only [List.lookup_cons, hx] at h'
        cases h'
        simp only [Bool.and_eq_true, beq_iff_eq] at hc
        exact ⟨k₀, rfl, .inr ⟨hc.1.1, rfl⟩⟩
      · rw [if_neg hc] at h'
        simp only [List.lookup_cons, hx] at h'
        cases h'
        exact ⟨_, rfl, .inl rfl⟩
    | false =>
      simp only [List.lookup_cons, hx]
      by_cases hc : (k₀ == NameKind.free && sc.kind == .function && sc.names.lookup n == some .cell) = true
      · rw [if_pos hc] at h'
        simp only [List.lookup_cons, hx] at h'
        exact ih h'
      · rw [if_neg hc] at h'
        simp only [List.lookup_cons, hx] at h'
        exact ih h'



/-- the names of a comprehension's block: its own (with their places in N), or captured -/
structure BlkOk (N : List Str) (sc scope : Scope) (own : List (Str × Nat)) : Prop where
  kind : scope.kind = .function
  uniq : ∀ y ∈ scope.names, scope.names.lookup y.1 = some y.2
  ix : ∀ p ∈ own, N[p.2]? = some p.1
  free : ∀ y ∈ scope.names, y.2 = .free → sc.names.lookup y.1 = some .cell ∨ sc.names.lookup y.1 = some .free
  own : ∀ y ∈ scope.names, y.2 = .local ∨ y.2 = .cell → y.1 ∈ own.map (·.1) ∨ y.1 ∉ N
/-- the slots of the block's own names forgotten -/
def wipe (σ : St) : List Nat → St
  | [] => σ
  | v :: vs => (wipe σ vs).set v none
theorem wipe_length (σ : St) : ∀ vs : List Nat, (wipe σ vs).length = σ.length
  | [] => rfl
  | v :: vs => by unfold wipe; rw [List.length_set, wipe_length σ vs]
theorem wipe_some {σ : St} {i : Nat} {x : V} : ∀ {vs : List Nat}, (wipe σ vs)[i]? = some (some x) → σ[i]? = some (some x) ∧ i ∉ vs
  | [], h => ⟨h, by simp⟩
  | v :: vs, h => by
    unfold wipe at h
    by_cases hi : v = i
    · subst hi
      by_cases hv : v < (wipe σ vs).length
      · rw [List.getElem?_set_self hv] at h; cases h
      · rw [List.getElem?_eq_none (by simpa using hv)] at h; cases h
    · rw [List.getElem?_set_ne hi] at h
      obtain ⟨h1, h2⟩ := wipe_some h
      exact ⟨h1, by simp only [List.mem_cons, not_or]; exact ⟨fun e => hi e.symm, h2⟩⟩

/-- the context of a block that starts at s, its iterator's objects at fp -/
abbrev Cx.blk (X : Cx) (s : Shared) (H : Hp) (scope : Scope) (cenv : Env) (fp : List Addr) : Cx := { X with s_0 := s, H_0 := H, env := cenv, outer := X.stack, ex := fp, fn := fun x => scope.names.lookup x == some .cell, pn := [], xe := fun _ _ => False }
section
variable {X : Cx} {pins : List (Addr × Obj)} {σ : St} {H : Hp} {s : Shared}
theorem block_start {scope : Scope} {own : List (Str × Nat)} {fp : List Addr} (I : Inv X pins σ H s) (ok : BlkOk X.N X.env.scope scope own) (hN : X.N.Nodup) (hfp : ∀ b ∈ fp, FpOk X pins H b ∧ b < s.heap.objs.size) :
    Inv (X.blk s H scope (compEnvC scope (cellsFrom (s.heap.objs.size + 1) scope.names (cloFrom X.env.cells scope.names [])) s.heap.objs.size X.env) fp) [] (wipe σ (own.map (·.2))) H { s with heap := pushCells (s.heap.push { cls := .type "dict", data := .dict #[] }) scope.names } := by
  have hfree : ∀ y ∈ scope.names, y.2 = .free → ∃ c, X.env.cells.lookup y.1 = some c := fun y hy e => by
    rcases ok.free y hy e with k | k
    · exact I.ok.has _ (.inl k)
    · exact I.ok.has _ (.inr k)
  generalize hcenv : compEnvC scope (cellsFrom (s.heap.objs.size + 1) scope.names (cloFrom X.env.cells scope.names [])) s.heap.objs.size X.env = cenv
  have kp : ∀ b o, s.heap.get? b = some o → (pushCells (s.heap.push { cls := .type "dict", data := .dict #[] }) scope.names).get? b = some o := fun b o e => pushCells_keeps _ _ _ _ (Heap.get?_push_of_some _ e)
  have hL : cenv.locals = s.heap.objs.size := by rw [← hcenv]; rfl
  have hcl : cenv.cells = cellsFrom (s.heap.objs.size + 1) scope.names (cloFrom X.env.cells scope.names []) := by rw [← hcenv]; rfl
  have hsc : cenv.scope = relS scope X.env.scope := by rw [← hcenv]; rfl
  rw [← Heap.size_push s.heap { cls := .type "dict", data := .dict #[] }] at hcl
  have cm : ∀ {y c}, (y, c) ∈ cloFrom X.env.cells scope.names [] → X.env.cells.lookup y = some c ∧ c < s.heap.objs.size := fun {y c} hm => by
    rcases cloFrom_mem hm with hm | ⟨h1, rfl⟩
    · cases hm
    · obtain ⟨c, hc⟩ := hfree _ h1 rfl
      rw [hc]
      obtain ⟨w, z⟩ := I.cell _ _ hc
      exact ⟨rfl, z.lt⟩
  have mem : ∀ {y c}, cenv.cells.lookup y = some c → (X.env.cells.lookup y = some c ∧ c < s.heap.objs.size) ∨ (s.heap.objs.size + 1 ≤ c ∧ CellAt (pushCells (s.heap.push { cls := .type "dict", data := .dict #[] }) scope.names) c none) := fun {y c} e => by
    rw [hcl] at e
    rcases cells_mem (PySem.mem_of_lookup e) with hm | ⟨_, h2, h3⟩
    · exact .inl (cm hm)
    · rw [Heap.size_push] at h2; exact .inr ⟨h2, h3⟩
  have look : ∀ {y}, scope.names.lookup y = some .free → ∃ c, cenv.cells.lookup y = some c ∧ X.env.cells.lookup y = some c := fun {y} hl => by
    have hy : (y, NameKind.free) ∈ scope.names := PySem.mem_of_lookup hl
    obtain ⟨c', e'⟩ := mem_lookup (cells_acc (names := scope.names) (n := (s.heap.push { cls := .type "dict", data := .dict #[] }).objs.size) (cloFrom_has (cells := X.env.cells) (acc := []) hy))
    rw [← hcl] at e'
    refine ⟨c', e', ?_⟩
    rw [hcl] at e'
    rcases cells_mem (PySem.mem_of_lookup e') with hm | ⟨h1, _, _⟩
    · exact (cm hm).1
    · have := ok.uniq _ h1
      rw [hl] at this; cases this
  have okB : (X.blk s H scope cenv fp).Ok := by
    refine ⟨I.ok.mod, by show cenv.scope.kind = _; rw [hsc]; exact ok.kind, by show cenv.globals = _; rw [← hcenv]; exact I.ok.glob, by show cenv.builtins = _; rw [← hcenv]; exact I.ok.blt, by show s.heap.objs.size ≤ cenv.locals; rw [hL]; exact Nat.le_refl _,
      fun y z c e1 e2 => ?_, fun y hy => ?_, fun y c z e => ?_, I.ok.hd, I.ok.frames, .inl rfl, fun b hb => ⟨?_, fun y c e z => ?_⟩, I.bs, Nat.le_trans I.ok.bsz I.sz, fun b o e hb => ?_, fun b hb z => ?_, I.stack, I.stkFree⟩
    · have e1 : cenv.cells.lookup y = some c := e1
      have e2 : cenv.cells.lookup z = some c := e2
      rw [hcl] at e1 e2
      refine cells_inj (fun p hp => ?_) (fun y z c a b => I.ok.inj y z c (cm a).1 (cm b).1) (PySem.mem_of_lookup e1) (PySem.mem_of_lookup e2)
      rw [Heap.size_push]
      exact Nat.lt_succ_of_lt (cm (y := p.1) (c := p.2) hp).2
    · show ∃ c, cenv.cells.lookup y = some c
      have key : ∀ k, cenv.kindOf y = some k → (k = .cell ∨ k = .free) → ∃ c, cenv.cells.lookup y = some c := fun k hk hk' => by
        unfold Env.kindOf at hk
        rw [hsc] at hk
        obtain ⟨k', e, r⟩ := lookup_relS hk
        have : k' = .cell ∨ k' = .free := by
          rcases r with rfl | ⟨rfl, _⟩
          · exact hk'
          · exact .inr rfl
        rcases this with rfl | rfl
        · obtain ⟨c, hm⟩ := cells_has (n := (s.heap.push { cls := .type "dict", data := .dict #[] }).objs.size) (acc := cloFrom X.env.cells scope.names []) (PySem.mem_of_lookup e)
          obtain ⟨c', e'⟩ := mem_lookup hm
          exact ⟨c', by rw [hcl]; exact e'⟩
        · obtain ⟨c, h1, _⟩ := look e
          exact ⟨c, h1⟩
      rcases hy with hy | hy
      · exact key _ hy (.inl rfl)
      · exact key _ hy (.inr rfl)
    · have z : (scope.names.lookup y == some NameKind.cell) = true := z
      have z : scope.names.lookup y = some .cell := by simpa using z
      have e : cenv.cells.lookup y = some c := e
      rw [hcl] at e
      rcases cells_mem (PySem.mem_of_lookup e) with hm | ⟨_, h2, _⟩
      · rcases cloFrom_mem hm with hm | ⟨h1, _⟩
        · cases hm
        · have q := ok.uniq _ h1
          rw [z] at q; cases q
      · rw [Heap.size_push] at h2
        exact Nat.le_of_succ_le h2
    · show b ≠ cenv.locals
      rw [hL]; exact Nat.ne_of_lt (hfp b hb).2
    · have e : cenv.cells.lookup y = some c := e
      rcases mem e with ⟨h1, _⟩ | ⟨h1, _⟩
      · exact (hfp b hb).1.2.2.2.2.1 y c h1 z
      · have h2 : s.heap.objs.size + 1 ≤ b := by rw [← z]; exact h1
        exact absurd (Nat.lt_of_lt_of_le (hfp b hb).2 (Nat.le_of_succ_le h2)) (Nat.lt_irrefl _)
    · rcases (hfp b hb).1.2.2.2.1 with z | z
      · exact I.ok.noex b o e z
      · exact absurd (Nat.lt_of_lt_of_le (Heap.lt_size e) (Nat.le_trans I.ok.bsz z)) (Nat.lt_irrefl _)
    · rcases List.mem_cons.mp (I.stkSub b z) with z | z
      · exact (hfp b hb).1.2.1 z
      · exact (hfp b hb).1.2.2.1 z
  refine ⟨okB, rfl, I.bare, Un.kept kp, ⟨fun _ => none, ?_, fun i y av e1 e2 e3 => ?_⟩, fun y c e => ?_, ?_, fun y c e => ?_, fun p hp => ?_, I.hok.kept kp, by rw [wipe_length]; exact I.len⟩
  · show Heap.Ns _ cenv.locals _
    rw [hL]
    exact Heap.Ns.keeps (Heap.Ns.new ..) fun b o e => pushCells_keeps _ _ _ _ e
  · obtain ⟨e2, hne⟩ := wipe_some e2
    have hfr : scope.names.lookup y = some .free ∧ (cenv.kindOf y = some .cell ∨ cenv.kindOf y = some .free) := by
      have key : ∀ k, cenv.scope.names.lookup y = some k → k = .local ∨ k = .cell ∨ k = .free → scope.names.lookup y = some .free ∧ (cenv.kindOf y = some .cell ∨ cenv.kindOf y = some .free) := fun k hk hk' => by
        have hk0 := hk
        rw [hsc] at hk
        obtain ⟨k', e, r⟩ := lookup_relS hk
        have no : ¬ (k' = .local ∨ k' = .cell) := fun hh => by
          rcases ok.own _ (PySem.mem_of_lookup e) hh with e' | e'
          · obtain ⟨p, hp, hpy⟩ := List.mem_map.mp e'
            have e3 := ok.ix p hp
            have : p.1 = y := hpy
            rw [this] at e3
            exact hne (List.mem_map.mpr ⟨p, hp, nodup_ix hN e3 e1⟩)
          · exact e' (List.mem_of_getElem? e1)
        rcases r with rfl | ⟨rfl, rfl⟩
        · rcases hk' with rfl | rfl | rfl
          · exact absurd (.inl rfl) no
          · exact absurd (.inr rfl) no
          · exact ⟨e, .inr hk0⟩
        · exact ⟨e, .inl hk0⟩
      have e3 : Vis cenv.scope y := e3
      rcases e3 with e3 | e3 | e3
      · exact key _ e3 (.inl rfl)
      · exact key _ e3 (.inr (.inl rfl))
      · exact key _ e3 (.inr (.inr rfl))
    obtain ⟨m, hn, hl⟩ := I.loc
    have hvis : Vis X.env.scope y := (ok.free _ (PySem.mem_of_lookup hfr.1) rfl).elim (fun k => .inr (.inl k)) (fun k => .inr (.inr k))
    obtain ⟨w, r, q⟩ := hl i y av e1 e2 hvis
    refine ⟨w, r, .inr ⟨hfr.2, ?_⟩⟩
    obtain ⟨c, h1, h2⟩ := look hfr.1
    rcases q with ⟨k, _⟩ | ⟨_, c', e', z⟩
    · have k : X.env.scope.names.lookup y = some .local := k
      rcases ok.free _ (PySem.mem_of_lookup hfr.1) rfl with k' | k' <;> rw [show X.env.scope.names.lookup y = _ from k'] at k <;> cases k
    · rw [h2] at e'; cases e'
      exact ⟨c, h1, z.keeps kp⟩
  · have e : cenv.cells.lookup y = some c := e
    rcases mem e with ⟨h1, _⟩ | ⟨_, z⟩
    · obtain ⟨w, z⟩ := I.cell y c h1
      exact ⟨w, z.keeps kp⟩
    · exact ⟨_, z⟩
  · show H cenv.locals = none
    rw [hL]; exact I.hok.fresh (Nat.le_refl _)
  · have e : cenv.cells.lookup y = some c := e
    rcases mem e with ⟨h1, _⟩ | ⟨h1, _⟩
    · exact I.freeC y c h1
    · exact I.hok.fresh (Nat.le_of_succ_le h1)
  · exact absurd (show p ∈ ([] : List (Addr × Obj)) ++ [] from hp) (by simp)

/-- an item appended to a tracked list -/
theorem app_ok {E : Value → Shared → Prop} {D : Addr} {xs : List V} {y : V} {v : Value} {Q : Value → Shared → Prop} (I : Inv X pins σ H s) (hD : H D = some (.lst xs)) (hz : xs.length < sizeLine) (r : RelV y v)
    (h : ∀ s', Inv X pins σ (upd H D (.lst (xs ++ [y]))) s' → Q .none s') : wpAny (model X.prog X.w) X.A (call (.builtin "list.append") [.ref D, v]) Q E s := by
  obtain ⟨hz', its, n, ri, e⟩ := I.hok D _ hD
  have hl := ri.length
  refine append_at (hsz := by rw [List.size_toArray]; omega) e fun h' sb ho' => ?_
  refine h { s with heap := h' } (I.write (t' := s.toks) (by rw [hD]; trivial) (.inl rfl) (fun b u hb q => (sb.2 b hb).trans q) ⟨_, ho'⟩ ⟨by rw [List.length_append]; exact hz, its ++ [v], n + 1, ri.append (.cons r .nil), ?_⟩)
  rw [ho']
  simp

/-- a clause's tests -/
def PTs (X : Cx) (ifs : List Expr) (t : TT) : Prop :=
  ∀ (pins : List (Addr × Obj)) (s : Shared) (σ : St) (H : Hp) (Q : Bool → Hp → Prop), Inv X pins σ H s → t σ H Q →
    wpAny (model X.prog X.w) X.A (forIn ifs true fun c r => if r = true then do let ok ← isTrue c X.env (eval c X.env); pure (ForInStep.yield ok) else pure (ForInStep.yield r)) (TP X pins σ Q) X.xe s
def tYes : TT := fun _ H Q => Q true H
theorem pts_nil : PTs X [] tYes := fun _ _ _ H _ I h => wpAny_tests_nil ⟨H, I, h⟩
theorem pts_one {c : Expr} {t : TT} (h : PT X c t) : PTs X [c] t := fun pins s σ H Q I hw => wpAny_tests_one (h pins s σ H Q I hw)
end

theorem thnF {α : Type} {t : Sem α} {Q Q' : α → Shared → Prop} {M : Model} {A : Around} {E : Value → Shared → Prop} {s : Shared} (h : wpAny M A t Q (fun _ _ => False) s) (hQ : ∀ a s, Q a s → Q' a s) : wpAny M A t Q' E s := wpAny_mono h hQ fun _ _ z => False.elim z

/-- the loop of a list comprehension's block, the target of any form (codeAny_compLoop_tests asks a target that no tuple goes to; statement and proof follow it, PyProof/CompMap.lean:41-61, with the step letOwnedTupleGo kept) -/
theorem compLoop_any {prog : Program} {w : World} {A : Around} {R : Result → Shared → Prop} {s : Shared} {elt target iter : Expr} {ifs : List Expr} {scope : Scope} {pos : Pos} {it acc : Value} {env : Env} (I : Nat → Shared → Prop)
    (turn : ∀ n s, I n s → wpAny (model prog w) A (pyNext it) (fun r s₁ => match r with
      | none => R (.ok .next) s₁
      | some v => wpAny (model prog w) A (letOwnedTupleGo target it v) (fun _ s₁' => wpAny (model prog w) A (assign target env v) (fun _ s₂ =>
          wpAny (model prog w) A (forIn ifs true fun c r => if r = true then do let ok ← isTrue c env (eval c env); pure (ForInStep.yield ok) else pure (ForInStep.yield r)) (fun ok s₃ =>
            if ok = true then wpAny (model prog w) A (eval elt env) (fun x s₄ =>
              wpAny (model prog w) A (call (.builtin "list.append") [acc, x]) (fun _ s₅ => ∃ m, m < n ∧ I m s₅) (notedBy (model prog w) A env fun e s' => R (.error e) s') s₄) (notedBy (model prog w) A env fun e s' => R (.error e) s') s₃
            else ∃ m, m < n ∧ I m s₃) (notedBy (model prog w) A env fun e s' => R (.error e) s') s₂) (notedBy (model prog w) A env fun e s' => R (.error e) s') s₁') (notedBy (model prog w) A env fun e s' => R (.error e) s') s₁) (notedBy (model prog w) A env fun e s' => R (.error e) s') s)
    (n : Nat) (h : I n s) :
    codeAny (model prog w) A (.compLoop (.ListComp elt [⟨target, iter, ifs, 0⟩] scope pos) 0 it acc env) R s := by
  refine codeAny_loop rfl I (fun n s hI => ?_) n h
  show wpAny _ A ((compTurn (.ListComp elt [⟨target, iter, ifs, 0⟩] scope pos) 0 it acc env).onRaise (fun x => do noteFrame x env; theTreesLotGoes x)) _ _ s
  refine wpAny_noted ?_
  rw [compTurn_list]
  refine wpAny_bind (wpAny_standAt (wpAny_bind (wpAny_mono (turn n s hI) (fun r s₁ h₁ => ?_) fun _ _ h' => h')))
  cases r with
  | none => exact wpAny_pure h₁
  | some v =>
    refine wpAny_bind (wpAny_mono h₁ (fun _ s₁' h₁' => ?_) fun _ _ h' => h')
    refine wpAny_bind (wpAny_mono h₁' (fun _ s₂ h₂ => wpAny_bind (wpAny_mono h₂ (fun ok s₃ h₃ => ?_) fun _ _ h' => h')) fun _ _ h' => h')
    cases ok with
    | false => exact wpAny_pure ⟨rfl, h₃⟩
    | true =>
      exact wpAny_bind (wpAny_bind (wpAny_mono h₃ (fun x s₄ h₄ => wpAny_bind (wpAny_mono h₄ (fun _ s₅ h₅ => wpAny_pure (wpAny_pure ⟨rfl, h₅⟩)) fun _ _ h' => h')) fun _ _ h' => h'))

section
variable {X : Cx}
/-- [elt for target in iter if ..]: D the new list; W by the turn and a measure, Nx what a turn is to reach -/
def tLc (wi : TI) (g : TG) (tt : TT) (te : TE) (vs : List Nat) : TE := fun σ H Q => wi σ H fun J H1 => ∀ D, H1 D = none → ∃ W : Nat → Nat → Hp → Prop, (∃ m, W 0 m (upd H1 D (.lst []))) ∧ ∀ i m H, W i m H →
  (J.stop i H ∧ Q (.ref D) H) ∨ (J.go i H ∧ ∃ Nx : Hp → Prop, (∀ H', Nx H' → ∃ m', m' < m ∧ W (i + 1) m' H') ∧ ∀ x H', J.yld i H x H' → g x (wipe σ vs) H' fun σ2 H2 => wipe σ2 vs = wipe σ vs ∧ tt σ2 H2 fun b H3 =>
    if b = true then te σ2 H3 fun y H4 => ∃ acc, H4 D = some (.lst acc) ∧ acc.length < sizeLine ∧ Nx (upd H4 D (.lst (acc ++ [y]))) else Nx H3)
theorem lc_core {pins : List (Addr × Obj)} {s : Shared} {σ : St} {H : Hp} {Q : VK} {elt tg iter : Expr} {ifs : List Expr} {scope : Scope} {own : List (Str × Nat)} {pos pos' : Pos} {wi : TI} {g : TG} {tt : TT} {te : TE} {use : Option (Value → Sem Unit)} {Qf : Value → Shared → Prop}
    (hc : X.calm = true) (hN : X.N.Nodup) (I : Inv X pins σ H s) (hi : PI X tg iter wi) (ok : BlkOk X.N X.env.scope scope own)
    (hg : ∀ (s : Shared) (H : Hp) (C : Addr) (cl : List (Str × Addr)) (fp : List Addr), PG (X.blk s H scope (compEnvC scope cl C X.env) fp) tg g) (ht : ∀ (s : Shared) (H : Hp) (C : Addr) (cl : List (Str × Addr)) (fp : List Addr), PTs (X.blk s H scope (compEnvC scope cl C X.env) fp) ifs tt)
    (he : ∀ (s : Shared) (H : Hp) (C : Addr) (cl : List (Str × Addr)) (fp : List Addr), PE (X.blk s H scope (compEnvC scope cl C X.env) fp) elt te) (hs : ∀ x, foldedSetIterable iter X.env x = pure x)
    (h : tLc wi g tt te (own.map (·.2)) σ H Q)
    (hRR : ∀ D C s' m H', Inv X pins σ H' s' → Q (.ref D) H' → s'.heap.Ns C m → FpOk X pins H' C → compPost (model X.prog X.w) X.A X.xe use Qf (.ref D) C (.ok .next) s') :
    wpAny (model X.prog X.w) X.A (comprehension (.ListComp elt [⟨tg, iter, ifs, 0⟩] scope pos) scope X.env pos' (newList []) false (eval iter X.env) use) Qf X.xe s := by
  have hfree : ∀ y ∈ scope.names, y.2 = .free → ∃ c, X.env.cells.lookup y.1 = some c := fun y hy e => by
    rcases ok.free y hy e with k | k
    · exact I.ok.has _ (.inl k)
    · exact I.ok.has _ (.inr k)
  refine wpAny_comprehension_free (use := use) rfl hs (closure_ok hfree) ok.kind (fun y hy e => by rw [ok.uniq y hy, e])
    (thn (hi pins s σ H _ I h) fun xv s1 hx => thn hx fun itv s2 h2 => ?_)
  obtain ⟨it, fp, tn, J, H2, e, I2, T, st2, f2, q⟩ := h2
  subst e
  refine wpAny_newObj_type (newEnv_comp ?_) (by show 0 ≤ sizeLine; decide)
  generalize hD : s2.heap.objs.size = D
  have hDn : H2 D = none := I2.hok.fresh (Nat.le_of_eq hD)
  obtain ⟨W, ⟨m0, w0⟩, turn⟩ := q D hDn
  -- the new list
  generalize hs3 : ({ s2 with heap := s2.heap.push { cls := .type "list", data := .seq ([] : List Value).toArray } } : Shared) = s3
  have I3 : Inv X pins σ (upd H2 D (.lst [])) s3 := by
    rw [← hs3]
    refine I2.laid (t' := s2.toks) (fun b o e => Heap.get?_push_of_some _ e) (Nat.le_of_eq hD) ⟨Nat.zero_le _, [], 0, .nil, ?_⟩
    rw [← hD]
    exact Heap.get?_push_size _ rfl
  have h3 : s3.heap = s2.heap.push { cls := .type "list", data := .seq ([] : List Value).toArray } := by rw [← hs3]
  have sz : ∀ b ∈ fp, b < s2.heap.objs.size := fun b hb => by
    obtain ⟨o, e, _⟩ := T.obj _ _ st2 b hb
    exact Heap.lt_size e
  have f3 : ∀ b ∈ fp, FpOk X pins (upd H2 D (.lst [])) b ∧ b < s3.heap.objs.size := fun b hb => by
    have hlt := sz b hb
    refine ⟨⟨?_, (f2 b hb).2⟩, by rw [h3, Heap.size_push]; exact Nat.lt_succ_of_lt hlt⟩
    rw [upd_ne (by rw [← hD]; exact Nat.ne_of_lt hlt)]
    exact (f2 b hb).1
  have st3 : tn 0 s3.heap := T.keep _ _ _ st2 fun b _ o e => by rw [h3]; exact Heap.get?_push_of_some _ e
  have I4 := block_start I3 ok hN f3
  have pg := hg s3 (upd H2 D (.lst [])) s3.heap.objs.size (cellsFrom (s3.heap.objs.size + 1) scope.names (cloFrom X.env.cells scope.names [])) fp
  have pt := ht s3 (upd H2 D (.lst [])) s3.heap.objs.size (cellsFrom (s3.heap.objs.size + 1) scope.names (cloFrom X.env.cells scope.names [])) fp
  have pe := he s3 (upd H2 D (.lst [])) s3.heap.objs.size (cellsFrom (s3.heap.objs.size + 1) scope.names (cloFrom X.env.cells scope.names [])) fp
  show codeAny _ _ (.compStart (.ListComp elt [⟨tg, iter, ifs, 0⟩] scope pos) 0 (.ref it) (.ref D) (compEnvC scope (cellsFrom (s3.heap.objs.size + 1) scope.names (cloFrom X.env.cells scope.names [])) s3.heap.objs.size X.env)) (compPost (model X.prog X.w) X.A X.xe use Qf (.ref D) s3.heap.objs.size) { s3 with heap := pushCells (s3.heap.push { cls := .type "dict", data := .dict #[] }) scope.names }
  have nfp : ∀ b ∈ fp, (upd H2 D (.lst [])) b = none := fun b hb => (f3 b hb).1.1
  generalize hce : compEnvC scope (cellsFrom (s3.heap.objs.size + 1) scope.names (cloFrom X.env.cells scope.names [])) s3.heap.objs.size X.env = ce at I4 pg pt pe ⊢
  have cL : ce.locals = s3.heap.objs.size := by subst hce; rfl
  generalize hH3 : upd H2 D (.lst []) = H3 at I3 I4 pg pt pe w0 nfp f3
  generalize hs4 : ({ s3 with heap := pushCells (s3.heap.push { cls := .type "dict", data := .dict #[] }) scope.names } : Shared) = s4 at I4 ⊢
  have st4 : tn 0 s4.heap := T.keep _ _ _ st3 fun b _ o e => by rw [← hs4]; exact pushCells_keeps _ _ _ _ (Heap.get?_push_of_some _ e)
  have stat : ∀ {σ' : St} {H' : Hp} {s' : Shared}, Inv (X.blk s3 H3 scope ce fp) [] σ' H' s' → (∀ b ∈ fp, H' b = none) → ∀ b ∈ fp, FpOk (X.blk s3 H3 scope ce fp) [] H' b := fun {σ' H' s'} I' hn b hb =>
    ⟨hn b hb, (I'.ok.exf b hb).1, I'.ok.exfs b hb, .inl hb, fun x c e => (I'.ok.exf b hb).2 x c e, fun p hp => absurd (show p ∈ ([] : List (Addr × Obj)) ++ [] from hp) (by simp)⟩
  have loop : codeAny (model X.prog X.w) X.A (.compLoop (.ListComp elt [⟨tg, iter, ifs, 0⟩] scope pos) 0 (.ref it) (.ref D) ce) (compPost (model X.prog X.w) X.A X.xe use Qf (.ref D) s3.heap.objs.size) s4 := by
    refine compLoop_any (fun n s' => ∃ i H', Inv (X.blk s3 H3 scope ce fp) [] (wipe σ (own.map (·.2))) H' s' ∧ tn i s'.heap ∧ (∀ b ∈ fp, H' b = none) ∧ W i n H') ?_ m0 ⟨0, H3, I4, st4, nfp, w0⟩
    rintro n s5 ⟨i, H5, I5, st5, n5, w5⟩
    rcases turn i n H5 w5 with ⟨stop, qq⟩ | ⟨go, Nx, hNx, step⟩
    · have td := T.done (X.blk s3 H3 scope ce fp) rfl rfl rfl hc i [] s5 _ H5 (fun _ _ => False) I5 (stat I5 n5) st5 stop
      refine thnF td fun r s6 ⟨hr, I6⟩ => ?_
      subst hr
      -- back in the def's context
      have I7 : Inv X pins σ H5 s6 := I3.call' (ch := fp) I6.os I6.base I6.hok I6.bare fun b hb => ⟨(f3 b hb).1.2.2.2.1, (f3 b hb).1.2.1, (f3 b hb).1.2.2.2.2.1, (f3 b hb).1.2.2.2.2.2⟩
      have nC : H5 s3.heap.objs.size = none := by
        have z : H5 ce.locals = none := I6.free
        rw [cL] at z
        exact z
      obtain ⟨m, hn, _⟩ := I6.loc
      have hn : s6.heap.Ns ce.locals m := hn
      rw [cL] at hn
      exact hRR D s3.heap.objs.size s6 m H5 I7 qq hn (I3.fpOk (Nat.le_refl _) nC)
    · have ti := T.item (X.blk s3 H3 scope ce fp) rfl rfl rfl hc i [] s5 _ H5 (fun _ _ => False) I5 (stat I5 n5) st5 go
      refine thnF ti fun r s6 ⟨u, hr, h6⟩ => ?_
      subst hr
      refine thnF h6 fun _ s7 ⟨x, H7, I7, r7, y7, st7, n7⟩ => ?_
      have I7' := I7.pinned (stat I7 n7) (T.obj _ _ st7)
      refine thnF (pg _ s7 _ H7 x u _ I7' r7 (step x H7 y7)) fun _ s8 ⟨σ8, H8, I8, hw8, q8⟩ => ?_
      refine thnF (pt _ s8 σ8 H8 _ I8 q8) fun b s9 ⟨H9, I9, q9⟩ => ?_
      -- the turn's end
      have fin : ∀ {s' : Shared} {H' : Hp}, Inv (X.blk s3 H3 scope ce fp) ([] ++ pinsAt fp s7.heap) σ8 H' s' → Nx H' → ∃ m, m < n ∧ ∃ i H', Inv (X.blk s3 H3 scope ce fp) [] (wipe σ (own.map (·.2))) H' s' ∧ tn i s'.heap ∧ (∀ b ∈ fp, H' b = none) ∧ W i m H' := fun {s' H'} I' nx => by
        obtain ⟨m', hm, w'⟩ := hNx H' nx
        have pin' : ∀ b ∈ fp, ∀ o, s7.heap.get? b = some o → s'.heap.get? b = some o ∧ H' b = none := fun b hb o e =>
          let z := I'.pin (b, o) (List.mem_append_right _ (List.mem_append_right _ (mem_pinsAt hb e)))
          ⟨z.1, z.2.1⟩
        have hl : (wipe σ (own.map (·.2))).length = σ8.length := by rw [← hw8, wipe_length]
        refine ⟨m', hm, i + 1, H', (I'.unpinned (pins := [])).weak hl (fun j v e => ?_), T.keep _ _ _ st7 fun b hb o e => (pin' b hb o e).1, fun b hb => ?_, w'⟩
        · rw [← hw8] at e
          exact (wipe_some e).1
        · obtain ⟨o, e, _⟩ := T.obj _ _ st7 b hb
          exact (pin' b hb o e).2
      cases b with
      | false =>
        simp only [Bool.false_eq_true, if_false] at q9 ⊢
        exact fin I9 q9
      | true =>
        simp only [if_true] at q9 ⊢
        refine thnF (pe _ s9 σ8 H9 _ I9 q9) fun z s10 ⟨yv, H10, I10, r10, acc, hD10, hz10, nx⟩ => ?_
        exact app_ok (X := X.blk s3 H3 scope ce fp) I10 hD10 hz10 r10 fun s11 I11 => fin I11 nx
  exact codeAny_compStart_list loop (T.self X.A 0 _ _ _ st4 loop)
/-- as a value -/
theorem pe_lc {elt tg iter : Expr} {ifs : List Expr} {scope : Scope} {own : List (Str × Nat)} {pos : Pos} {wi : TI} {g : TG} {tt : TT} {te : TE} (hc : X.calm = true) (hN : X.N.Nodup) (hi : PI X tg iter wi) (ok : BlkOk X.N X.env.scope scope own)
    (hg : ∀ (s : Shared) (H : Hp) (C : Addr) (cl : List (Str × Addr)) (fp : List Addr), PG (X.blk s H scope (compEnvC scope cl C X.env) fp) tg g) (ht : ∀ (s : Shared) (H : Hp) (C : Addr) (cl : List (Str × Addr)) (fp : List Addr), PTs (X.blk s H scope (compEnvC scope cl C X.env) fp) ifs tt)
    (he : ∀ (s : Shared) (H : Hp) (C : Addr) (cl : List (Str × Addr)) (fp : List Addr), PE (X.blk s H scope (compEnvC scope cl C X.env) fp) elt te) (hs : ∀ x, foldedSetIterable iter X.env x = pure x := by intro _; rfl) :
    PE X (.ListComp elt [⟨tg, iter, ifs, 0⟩] scope pos) (tLc wi g tt te (own.map (·.2))) := by
  intro pins s σ H Q I h
  rw [eval_ListComp]
  refine lc_core hc hN I hi ok hg ht he hs h fun D C s' m H' I' q hn f => ⟨m, hn, fun h'' sb => ?_⟩
  obtain ⟨f0, f1, f2, f3, f4, f5⟩ := f
  exact ⟨.ref D, H', I'.turned (t' := s'.toks) (fun b o hb e => (sb.2 b hb).trans e) f0 f1 f3 f4 f5, rfl, q⟩
/-- name = [..] on one line, the name a local -/
theorem ps_setLc {i : Nat} {y : Str} {py : Pos} {elt tg iter : Expr} {ifs : List Expr} {scope : Scope} {own : List (Str × Nat)} {pos spos : Pos} {wi : TI} {g : TG} {tt : TT} {te : TE} (hc : X.calm = true) (hN : X.N.Nodup) (hy : X.N[i]? = some y) (hyl : X.env.scope.names.lookup y = some .local)
    (hsw : swapsWith (.ListComp elt [⟨tg, iter, ifs, 0⟩] scope pos) (some (.Name y py)) spos.line X.env = pure true) (hi : PI X tg iter wi) (ok : BlkOk X.N X.env.scope scope own)
    (hg : ∀ (s : Shared) (H : Hp) (C : Addr) (cl : List (Str × Addr)) (fp : List Addr), PG (X.blk s H scope (compEnvC scope cl C X.env) fp) tg g) (ht : ∀ (s : Shared) (H : Hp) (C : Addr) (cl : List (Str × Addr)) (fp : List Addr), PTs (X.blk s H scope (compEnvC scope cl C X.env) fp) ifs tt)
    (he : ∀ (s : Shared) (H : Hp) (C : Addr) (cl : List (Str × Addr)) (fp : List Addr), PE (X.blk s H scope (compEnvC scope cl C X.env) fp) elt te) (hs : ∀ x, foldedSetIterable iter X.env x = pure x := by intro _; rfl) :
    PS X (.Assign [.Name y py] (.ListComp elt [⟨tg, iter, ifs, 0⟩] scope pos) spos) (tAsg (tLc wi g tt te (own.map (·.2))) (gName i)) := by
  intro pins s σ H D I h
  rw [exec_Assign_Name_used _ _ _ _ hsw]
  refine wpAny_bind (wpAny_standAt (wpAny_bind ?_))
  show wpAny _ X.A (do let _ ← comprehension (.ListComp elt [⟨tg, iter, ifs, 0⟩] scope pos) scope X.env (firstIterPos [⟨tg, iter, ifs, 0⟩] pos) (newList []) false (eval iter X.env) (some (assign (.Name y py) X.env))) _ _ s
  have h : tLc wi g tt te (own.map (·.2)) σ H (fun x H1 => gName i x σ H1 D.nx) := h
  refine wpAny_bind (thn (lc_core (Qf := fun _ s' => SP X pins D .next s') hc hN I hi ok hg ht he hs h fun L C s' m H' I' q hn f => ?_) fun _ s' hq => wpAny_pure (wpAny_pure hq))
  show wpAny _ _ (assign (.Name y py) X.env (.ref L)) _ _ _
  refine wpAny_assign_Name (store_ok2 (v := V.ref L) I' hN hy (.inl hyl) rfl (fun s2 I2 ⟨a, sb, ha⟩ => ?_) (.inr hyl))
  obtain ⟨f0, f1, f2, f3, f4, f5⟩ := f
  have haC : C ≠ a := by
    rcases ha with z | z
    · rw [z]; exact f1
    · exact fun e => f4 y a z e.symm
  refine ⟨m, hn.sameBut sb haC, fun h3 sb3 => ?_⟩
  exact ⟨_, H', I2.turned (t' := s2.toks) (fun b o hb e => (sb3.2 b hb).trans e) f0 f1 f3 f4 f5, q⟩
end

/-! ### the forms one uses -/
end L2

namespace L2
open PySem PySem.Spec PyProof.Rows


section
variable {prog : Program} {w : World} {A : Around} {R : Result → Shared → Prop} {s : Shared} {elt t0 i0 t1 i1 : Expr} {ifs0 ifs1 : List Expr} {scope : Scope} {pos : Pos} {it acc : Value} {env : Env}
end

section
variable {X : Cx}
end
end L2

namespace L2
open PySem PySem.Spec PyProof.Rows

/-! ### lists of pairs as tables -/
section
variable {κ : Type} [DecidableEq κ]



end


/-! ### a tracked dict, its keys ints and texts or tuples of these -/


section
variable {P : Program} {w : World} {H : Hp} {h : Heap} {a : Addr}
end



section
variable {X : Cx} {pins : List (Addr × Obj)} {σ : St} {H : Hp} {s : Shared} {a : Addr} {y v : V} {u r : Value} {o : Option V} {A : Around} {E : Value → Shared → Prop}


end

section
variable {X : Cx} {pins : List (Addr × Obj)} {σ : St} {H : Hp} {s : Shared} {a : Addr} {kvs : List (Key × V)} {k : Key} {u : Value} {A : Around} {E : Value → Shared → Prop}
end


/-! ### readings and rules -/



section
variable {X : Cx} {o i e value : Expr} {pos pos' tpos : Pos} {td ty tv : TE}
end


/-! ### displays -/
section
variable {X : Cx} {pos : Pos}
end




/-! ### methods -/


section
variable {X : Cx} {pins : List (Addr × Obj)} {σ : St} {H : Hp} {s : Shared} {a : Addr} {y d : V} {u r : Value} {o : Option V} {A : Around} {E : Value → Shared → Prop}
end

section
variable {X : Cx} {o e f : Expr} {apos cpos : Pos} {td ty tx : TE}
end

/-! ### dict(d): a copy -/
section
variable {X : Cx} {pins : List (Addr × Obj)} {σ : St} {H : Hp} {s : Shared} {a : Addr} {kvs : List (Key × V)} {A : Around} {E : Value → Shared → Prop}
end


section
variable {X : Cx} {pins : List (Addr × Obj)} {σ : St} {H : Hp} {s : Shared} {a : Addr} {y : V} {u : Value} {A : Around} {E : Value → Shared → Prop}
end
end L2

namespace L2
open PySem PySem.Spec PyProof.Rows


section
variable {prog : Program} {w : World} {A : Around} {E : Value → Shared → Prop}


end

section
variable {X : Cx}
end
end L2

namespace L2
open PySem PySem.Spec PyProof.Rows


section
variable {X : Cx} {pins : List (Addr × Obj)} {σ : St} {H : Hp} {s : Shared} {h' : Heap}

/-! ### locking a thing while a statement runs -/
end
section
variable {X : Cx}

/-! ### one iterator just laid -/
end

/-! ### range with a step -/
section
variable {X : Cx} {tg : Expr}
end

/-! ### reversed(list) -/
section
variable {X : Cx} {tg : Expr}
end

/-! ### a str -/

/-! ### a dict's keys: any dict's entries -/
section
variable {prog : Program} {w : World} {A : Around} {E : Value → Shared → Prop} {s : Shared}
end

/-! ### a locked dict -/
section
variable {X : Cx} {pins : List (Addr × Obj)} {σ : St} {H : Hp} {s : Shared} {d : Addr} {o : Obj}
end

section
variable {P : Program} {w : World} {K : PySem.W.Frag} {tg : Expr} {d : Addr} {o : Obj} {es : Array DictEntry} {ep : Nat}
end

/-! ### for k in d, d.keys(), d.values(), d.items() -/
section
variable {X : Cx} {tg e : Expr} {td : TE} {apos cpos : Pos}
end

/-! ### enumerate(list) -/
/-! ### zip(list, list) -/
end L2

section 
namespace Bits
open PySem PyProof.Rows








end Bits
end 

section 
namespace TL
open PySem PySem.Builtin PySem.Builtin.Str PySem.StrLaws


/-! ### the list functions -/




/-! ### the model's split and partition are these -/




/-! ### computing spl and par -/


/-! ### digits -/

/-! ### words: x.split() -/
end TL
end 

namespace L2
open PySem PySem.Spec PyProof.Rows




section
variable {X : Cx} {pins : List (Addr × Obj)} {σ : St} {H : Hp} {s : Shared} {Q : VK}
end

section
variable {X : Cx}





/-! ### of a text alone -/

/-! ### of a text and a text -/

end

section
variable {X : Cx} {o e : Expr} {to te : TE}

end
end L2

namespace L2
open PySem PySem.Spec PyProof.Rows

section
variable {X : Cx}
end

/-! ### slices of a text -/


end L2

namespace Att
open PySem PySem.W PySem.Calls PyProof.Rows

/-! ### the script -/



/-! ### the attachment: holds_open's last premise (the goal 'hc' behind k_head) from a wpAny of the law's body -/



/-! ### rules over ANY heap (no ledger) from facts about the written part K: the library's own take a ledger (News) for what they write -/
section
variable {prog : Program} {w : World} {A : Around} {E : Value → Shared → Prop} {s : Shared} {K : Frag}





/-! the whole heap as the ledger: makes every rule that writes through a ledger a rule over any heap -/

end
end Att

namespace L2
open PySem PySem.Spec PyProof.Rows



end L2

namespace L2
open PySem PySem.Spec PyProof.Rows


end L2

/- THE LAST THEOREM (shape; LID, My.* are yours):
   My.Adr: a structure of the addresses that your layer names (classes, functions); My.Txt K t: a structure (Prop) of the equations over K;
   My.txt_mk : {K} {implicit addresses ..} (e1 : nsIn K mainGlobals "law" = some (some (.ref f))) (e2 : K.lookup f = some ⟨oc, od, .func (fnOf "law" "law" params body scope dV kV doc pm an cdv ct), sl⟩) (e3 : codeIn K cdv "law" = true) .. : ∃ t, My.Txt K t

set_option maxRecDepth 100000 in
set_option maxHeartbeats 0 in
theorem PySem.Challenge.cw_LID_holds : PySem.Challenge.rw_LID.Holds := by
  w_on; o_law; k_head; (case hw => w_witness2)
  k_fill
  refine L2.walk_of (l := PySem.Challenge.rw_LID) (n := 63) (k := 40) (x := "script") (CX := fun w => ..) (sp := fun _ => My.sp_law) rfl (by decide) rfl ⟨rfl, by decide, by decide⟩ (fun w h Y => PySem.W.kIn_of Y) ?F ?S ?C
  case F =>
    intro w mg fa h KX G hmg
    have T : ∃ t, My.Txt (L2.KOf KX) t := by
      dsimp only [L2.KOf]                          -- K must stand as «<heap const> w.params» for k_is
      refine' My.txt_mk ?e1 ?e2 ?e3 ..
      (case e1 => PySem.W.k_is)                    -- in the order: a name -> its address -> its object -> its parts
      (case e2 => PySem.W.k_is)
      ..
    obtain ⟨t, T⟩ := T
    have e0 := hmg.symm.trans (PySem.W.mg_of KX G T.law)
    cases e0                                       -- fa is the law's own address
    exact ⟨_, fun s u => .of_eq rfl, fun base kb nb => My.law_fn T kb nb⟩     -- if «.of_eq rfl» comes too early: refine' ⟨_, ?b, fun base kb nb => My.law_fn T kb nb⟩; exact fun s u => .of_eq rfl
  case S => exact fun w H a ns hl hO hS => ..
  case C => exact ..
(the tactic k_is has no namespace: write k_is) -/

/-! SHORT WORDS over the layer: a def of the text, its body, what a loop and a test want. -/
namespace L2
open PySem PySem.Spec PyProof.Rows

/-! ### the text by places -/
/-- the j-th statement of a class's body -/
def inClass (s : Stmt) (j : Nat) : Stmt := match s with
  | .ClassDef _ _ _ body _ _ _ _ _ _ _ => body.getD j (.Pass ⟨0, 0, 0, 0⟩)
  | _ => .Pass ⟨0, 0, 0, 0⟩
def defArgs (s : Stmt) : Arguments := match s with
  | .FunctionDef _ a _ _ _ _ _ _ _ _ => a
  | _ => { posonlyargs := [], args := [], vararg := none, kwonlyargs := [], kw_defaults := [], kwarg := none, defaults := [] }
def defBody (s : Stmt) : List Stmt := match s with
  | .FunctionDef _ _ b _ _ _ _ _ _ _ => b
  | _ => []
def defScope (s : Stmt) : Scope := match s with
  | .FunctionDef _ _ _ _ _ _ sc _ _ _ => sc
  | _ => { kind := .function, names := [], isGenerator := false, isCoroutine := false }

/-! ### no exception leaves a def -/
abbrev CX0 : CXT := fun _ _ _ _ _ _ => False
abbrev E0 : XK := fun _ _ _ => False
theorem pass0 {X : Cx} : Passes CX0 X E0 := fun _ _ _ _ _ _ _ h => h.elim

/-! ### a def (or method) of the text as it stands behind the top -/
structure Fun (K : PySem.W.Frag) (x qual : Str) (st : Stmt) (f : Addr) (fd : FuncData) : Prop where
  ex : ∃ (oc : Value) (od : Option Addr) (kV doc pm : Value) (an : Option Addr) (cdv ct : Value) (osl : Array (Option Value)),
    fd = PySem.W.fnOf x qual (defArgs st) (defBody st) (defScope st) .none kV doc pm an cdv ct ∧ K.lookup f = some ⟨oc, od, .func fd, osl⟩ ∧ PySem.W.codeIn K cdv qual = true
  kp : PySem.W.keepIn K (.ref f) = true
section
variable {P : Program} {w : World} {K : PySem.W.Frag} {mg : Str → Option Value} {base : Heap}
/-- THE RULE for a def: its body as a term of rules, and the reading of that term -/
theorem Fun.ok {x qual : Str} {st : Stmt} {f : Addr} {fd : FuncData} {N ps : List Str} {k : Nat} {sp : Sp} (F : Fun K x qual st f fd) (S : FnScope N ps (defScope st)) (len : ∀ vs H Q E, sp vs H Q E → vs.length = ps.length)
    (hbody : ∀ (cdv : Value) (A : Around) (outer : List Env) (s : Shared) (H : Hp) (vs : List V) (Q : VK) (E : XK), Room k (A.deeper (envOfC qual (defScope st) s.heap.objs.size f cdv)) → sp vs H Q E →
      ∃ t, PSs (cxOf CX0 P w K mg base N qual (defScope st) f cdv A outer s H E).nox (defBody st) t ∧ t { nx := fun _ H' => Q .non H', rt := Q } (start N vs) H) : FnOk P w K mg base CX0 (k + 1) f fd ps sp := by
  obtain ⟨oc, od, kV, doc, pm, an, cdv, ct, osl, rfl, lk, hcd⟩ := F.ex
  refine fn_of lk hcd S len fun A outer s H vs Q E hr hsp => ?_
  obtain ⟨t, h, q⟩ := hbody cdv A outer s H vs Q E hr hsp
  exact ⟨t, h.nox, q⟩
/-- how its arguments bind (no defaults): h is «fun _ _ _ _ _ _ us hl => match us, hl with | [_, _], _ => rfl», one _ a parameter -/
theorem Fun.binds {x qual : Str} {st : Stmt} {f : Addr} {fd : FuncData} {ps : List Str} (F : Fun K x qual st f fd)
    (h : ∀ (kV doc pm : Value) (an : Option Addr) (cdv ct : Value) (us : List Value), us.length = ps.length → bindArgs (PySem.W.fnOf x qual (defArgs st) (defBody st) (defScope st) .none kV doc pm an cdv ct) ⟨us, []⟩ = pure (ps.zip us)) : Binds K fd ps [] := by
  obtain ⟨oc, od, kV, doc, pm, an, cdv, ct, osl, rfl, lk, hcd⟩ := F.ex
  exact .all (h kV doc pm an cdv ct)
theorem fun_mk {x qual : Str} {st : Stmt} {f : Addr} {oc : Value} {od an : Option Addr} {osl : Array (Option Value)} {kV doc pm cdv ct : Value} (l : K.lookup f = some ⟨oc, od, .func (PySem.W.fnOf x qual (defArgs st) (defBody st) (defScope st) .none kV doc pm an cdv ct), osl⟩)
    (c : PySem.W.codeIn K cdv qual = true) (k : PySem.W.keepIn K (.ref f) = true) : Fun K x qual st f (PySem.W.fnOf x qual (defArgs st) (defBody st) (defScope st) .none kV doc pm an cdv ct) := ⟨⟨oc, od, kV, doc, pm, an, cdv, ct, osl, rfl, l, c⟩, k⟩
end
theorem small1000 {n : Nat} (h : n ≤ 1000) : n < sizeLine := Nat.lt_of_le_of_lt h (by decide)

/-! ### expressions in short: the name that stands in the i-th slot -/
section
variable {X : Cx}
theorem pv (i : Nat) {x : Str} {pos : Pos} (hN : X.N[i]? = some x := by rfl) (hv : Vis X.env.scope x := by first | exact Or.inl rfl | exact Or.inr (Or.inl rfl) | exact Or.inr (Or.inr rfl)) (hd : (x == ("__debug__" : Str)) = false := by decide)
    (hcd : (x == ("__classdict__" : Str)) = false := by decide) : PE X (.Name x pos) (tVar i) := pe_var hN hv hd hcd
end

/-! ### tests -/
theorem iteF {A B : Prop} (h : B) : if false = true then A else B := by
  rw [if_neg Bool.false_ne_true]
  exact h
theorem iteT {A B : Prop} (h : A) : if true = true then A else B := by
  rw [if_pos rfl]
  exact h
theorem ite2 {c A B : Prop} [Decidable c] (h1 : c → A) (h2 : ¬ c → B) : if c then A else B := by
  by_cases h : c
  · rw [if_pos h]
    exact h1 h
  · rw [if_neg h]
    exact h2 h

/-! ### heaps -/
/-- all that was tracked is as it was -/
def Same (H H' : Hp) : Prop := ∀ b o, H b = some o → H' b = some o
theorem Same.refl (H : Hp) : Same H H := fun _ _ h => h
theorem Same.trans {H H1 H2 : Hp} (a : Same H H1) (b : Same H1 H2) : Same H H2 := fun c o h => b c o (a c o h)
theorem Same.free {H H' : Hp} (e : Same H H') {l : Addr} (h : H' l = Option.none) : H l = Option.none := by
  cases q : H l with
  | none => rfl
  | some o =>
    rw [e l o q] at h
    cases h
theorem Same.seq {K : PySem.W.Frag} {H H' : Hp} {a : Addr} {xs : List V} (e : Same H H') (h : SqL K H a xs) : SqL K H' a xs := by
  rcases h with (h | ⟨o, h⟩) | h
  · exact .inl (.inl (e _ _ h))
  · exact .inl (.inr ⟨o, e _ _ h⟩)
  · exact .inr h

/-! ### a dict's pairs: keys that differ -/
section
variable {κ : Type} [DecidableEq κ]
end
/-! ### lists -/
/-- a new instance and its __init__ leave all that was tracked as it was -/
theorem Same.made {H H1 : Hp} {x dx C : Addr} (nx : H x = Option.none) (nd : H dx = Option.none) (k : ∀ b o, (upd (upd H dx (.own x)) x (.ins C dx [])) b = some o → b ≠ x → H1 b = some o) : Same H H1 := fun b o e =>
  k b o (by rw [upd_ne (ne_of_none e nx), upd_ne (ne_of_none e nd)]; exact e) (ne_of_none e nx)
end L2

end
section
set_option Elab.async false
set_option linter.all false
set_option maxRecDepth 100000
set_option maxHeartbeats 2000000
namespace L2
open PySem PySem.Spec PyProof.Rows
open PySem.W (WData Codec OpenSpec Well WellAll ReadsW ReadsAllW)
/-! ### an answer as data -/
mutual
/-- x stands for the datum d, lists and tuples all the way -/
inductive Dw (K : PySem.W.Frag) (H : Hp) : V → WData → Prop
  | non : Dw K H .non .none
  | bl (b : Bool) : Dw K H (.bl b) (.bool b)
  | int (i : Int) : Dw K H (.int i) (.int i)
  | str (x : Str) : Dw K H (.str x) (.str x)
  | byt (b : Array UInt8) : Dw K H (.byt b) (.bytes b.toList)
  | lst {a : Addr} {xs : List V} {ds : List WData} : SqL K H a xs → DwAll K H xs ds → Dw K H (.ref a) (.list ds)
  | tup {a : Addr} {xs : List V} {ds : List WData} : SqT K H a xs → DwAll K H xs ds → Dw K H (.ref a) (.tuple ds)
inductive DwAll (K : PySem.W.Frag) (H : Hp) : List V → List WData → Prop
  | nil : DwAll K H [] []
  | cons {v : V} {vs : List V} {d : WData} {ds : List WData} : Dw K H v d → DwAll K H vs ds → DwAll K H (v :: vs) (d :: ds)
end
theorem dw_ints {K : PySem.W.Frag} {H : Hp} : ∀ ns : List Int, DwAll K H (ns.map V.int) (ns.map WData.int)
  | [] => .nil
  | n :: r => .cons (.int n) (dw_ints r)
theorem ints_dw {K : PySem.W.Frag} {H : Hp} : ∀ (ns : List Int) (xs : List V), DwAll K H xs (ns.map WData.int) → xs = ns.map V.int
  | [], xs, h => by
    cases h
    rfl
  | n :: r, xs, h => by
    cases h with
    | cons h1 h2 =>
      cases h1
      rw [ints_dw r _ h2] <;> rfl
section
variable {P : Program} {w : World} {K : PySem.W.Frag} {H : Hp} {h : Heap} {R : PySem.W.WRecords} {cl : Str → Option Addr}
theorem sqL_at {a : Addr} {xs : List V} (hok : HOk P w H h) (KX : K.In h) (q : SqL K H a xs) : ∃ (its : List Value) (o : Obj) (n : Nat), Vals xs its ∧ h.get? a = some o ∧ o.cls = .type "list" ∧ o.data = .seq its.toArray n := by
  rcases q with q | ⟨o, its, n, e, hc, _, hd, _, hv⟩
  · obtain ⟨_, its, n, hv, e⟩ := (show ObjOk P w H h a (.lst xs) from q.ok hok)
    exact ⟨its, _, n, hv, e, rfl, rfl⟩
  · exact ⟨its.toList, o, n, hv, KX _ _ e, hc, by simp [hd]⟩
theorem sqT_at {a : Addr} {xs : List V} (hok : HOk P w H h) (KX : K.In h) (q : SqT K H a xs) : ∃ (its : List Value) (o : Obj) (n : Nat), Vals xs its ∧ h.get? a = some o ∧ o.cls = .type "tuple" ∧ o.data = .seq its.toArray n := by
  rcases q with q | ⟨o, its, n, e, hc, hd, _, hv⟩
  · obtain ⟨_, its, hv, o, e, hc, n, hd⟩ := (show ObjOk P w H h a (.tup xs) from q.ok hok)
    exact ⟨its, o, n, hv, e, hc, hd⟩
  · exact ⟨its.toList, o, n, hv, KX _ _ e, hc, by simp [hd]⟩
mutual
theorem Dw.reads (hok : HOk P w H h) (KX : K.In h) : ∀ (d : WData) (v : V) (u : Value), Dw K H v d → RelV v u → ∃ as, ReadsW R cl h u d as
  | .none, _, _, x, r => by
    cases x
    cases r
    exact ⟨_, ReadsW.none⟩
  | .bool b, _, _, x, r => by
    cases x
    cases r
    exact ⟨_, ReadsW.bool b⟩
  | .int i, _, _, x, r => by
    cases x
    obtain ⟨t, rfl⟩ := r
    exact ⟨_, ReadsW.int i t⟩
  | .str s, _, _, x, r => by
    cases x
    obtain ⟨t, rfl⟩ := r
    exact ⟨_, ReadsW.str s t⟩
  | .bytes b, _, _, x, r => by
    cases x
    obtain ⟨t, rfl⟩ := r
    exact ⟨_, ReadsW.bytes _ t⟩
  | .list ds, _, _, x, r => by
    cases x with
    | lst hs ha =>
      cases r
      obtain ⟨its, o, n, rv, ho, hc, hd⟩ := sqL_at hok KX hs
      obtain ⟨as, hr⟩ := Dw.readsAll hok KX ds _ its ha rv
      exact ⟨_, ReadsW.list ho hc hd hr⟩
  | .tuple ds, _, _, x, r => by
    cases x with
    | tup hs ha =>
      cases r
      obtain ⟨its, o, n, rv, ho, hc, hd⟩ := sqT_at hok KX hs
      obtain ⟨as, hr⟩ := Dw.readsAll hok KX ds _ its ha rv
      exact ⟨_, ReadsW.tuple ho hc hd hr⟩
  | .float _, _, _, x, _ => by cases x
  | .dict _, _, _, x, _ => by cases x
  | .bytearray _, _, _, x, _ => by cases x
  | .set _, _, _, x, _ => by cases x
  | .frozenset _, _, _, x, _ => by cases x
  | .obj _ _, _, _, x, _ => by cases x
theorem Dw.readsAll (hok : HOk P w H h) (KX : K.In h) : ∀ (ds : List WData) (vs : List V) (us : List Value), DwAll K H vs ds → Vals vs us → ∃ as, ReadsAllW R cl h us ds as
  | [], _, _, x, r => by
    cases x
    cases r
    exact ⟨_, ReadsAllW.nil⟩
  | d :: ds, _, _, x, r => by
    cases x with
    | cons h1 h2 =>
      cases r with
      | cons r1 r2 =>
        obtain ⟨as, q1⟩ := Dw.reads hok KX d _ _ h1 r1
        obtain ⟨bs, q2⟩ := Dw.readsAll hok KX ds _ _ h2 r2
        exact ⟨_, ReadsAllW.cons q1 q2⟩
end
end
/-! ### the arguments -/
mutual
/-- data that a codec tells -/
def plW : WData → Bool
  | .none => true
  | .bool _ => true
  | .int _ => true
  | .str _ => true
  | .bytes _ => true
  | .list xs => plWs xs
  | .tuple xs => plWs xs
  | _ => false
def plWs : List WData → Bool
  | [] => true
  | x :: r => plW x && plWs r
end
theorem plWs_map {α : Type} {f : α → WData} (h : ∀ a, plW (f a) = true) : ∀ l : List α, plWs (l.map f) = true
  | [] => rfl
  | x :: r => by
    show (plW (f x) && plWs (r.map f)) = true
    rw [h x, plWs_map h r] <;> rfl
theorem pl_enc : ∀ (c : Codec) (a : c.denote), plW (c.enc a) = true
  | .unit, _ => rfl
  | .bool, _ => rfl
  | .int _ _, _ => rfl
  | .nat _ _, _ => rfl
  | .u8, _ => rfl
  | .bytes _ _, _ => rfl
  | .text _ _ _ _, _ => rfl
  | .list _ _ c, a => plWs_map (fun x => pl_enc c x) a
  | .pair c d, a => by
    show (plW (c.enc a.1) && (plW (d.enc a.2) && true)) = true
    rw [pl_enc c a.1, pl_enc d a.2] <;> rfl
  | .triple c d e, a => by
    show (plW (c.enc a.1) && (plW (d.enc a.2.1) && (plW (e.enc a.2.2) && true))) = true
    rw [pl_enc c a.1, pl_enc d a.2.1, pl_enc e a.2.2] <;> rfl
  | .option c, none => rfl
  | .option c, some x => pl_enc c x
theorem pl_encAll : ∀ (cs : List Codec) (a : Codec.denoteAll cs), plWs (Codec.encAll cs a) = true
  | [], _ => rfl
  | c :: cs, a => by
    show (plW (c.enc a.1) && plWs (Codec.encAll cs a.2)) = true
    rw [pl_enc c a.1, pl_encAll cs a.2] <;> rfl
theorem weight_mem : ∀ {xs : List WData} {d : WData}, d ∈ xs → d.weight ≤ WData.weightAll xs
  | [], d, h => absurd h (by simp)
  | x :: r, d, h => by
    show d.weight ≤ x.weight + 1 + WData.weightAll r
    rcases List.mem_cons.mp h with e | m
    · rw [e]
      omega
    · have z := weight_mem m
      omega
def toV : Value → V
  | .none => .non
  | .bool b => .bl b
  | .int i _ => .int i
  | .str x _ => .str x
  | .bytes b _ => .byt b
  | .ref a => .ref a
  | _ => .non
/-- a value of the arguments, its objects among A -/
def OkU (A : List Addr) : Value → Prop
  | .none => True
  | .bool _ => True
  | .int _ _ => True
  | .str _ _ => True
  | .bytes _ _ => True
  | .ref a => a ∈ A
  | _ => False
theorem OkU.mono {A B : List Addr} (h : ∀ a ∈ A, a ∈ B) : ∀ {u : Value}, OkU A u → OkU B u := fun {u} x => by
  cases u with
  | ref a => exact h a x
  | none => trivial
  | bool b => trivial
  | int i t => trivial
  | str s t => trivial
  | bytes b t => trivial
  | _ => exact False.elim x
theorem relV_toV {A : List Addr} {u : Value} (x : OkU A u) : RelV (toV u) u := by
  cases u with
  | ref a => rfl
  | none => rfl
  | bool b => rfl
  | int i t => exact ⟨t, rfl⟩
  | str s t => exact ⟨t, rfl⟩
  | bytes b t => exact ⟨t, rfl⟩
  | _ => exact False.elim x
theorem vals_toV {A : List Addr} : ∀ {vs : List Value}, (∀ u ∈ vs, OkU A u) → Vals (vs.map toV) vs
  | [], _ => .nil
  | u :: r, h => .cons (relV_toV (h u (List.mem_cons_self ..))) (vals_toV fun x hx => h x (List.mem_cons_of_mem _ hx))
/-- an object of the arguments -/
def ArgOb (h : Heap) (A : List Addr) (a : Addr) : Prop := ∃ vs : List Value, vs.length ≤ sizeLine ∧ (∀ u ∈ vs, OkU A u) ∧
  (h.get? a = some { cls := .type "list", data := .seq vs.toArray } ∨ h.get? a = some { cls := .type "tuple", data := .seq vs.toArray })
theorem ArgOb.mono {h : Heap} {A B : List Addr} {a : Addr} (k : ∀ a ∈ A, a ∈ B) (x : ArgOb h A a) : ArgOb h B a := by
  obtain ⟨vs, h1, h2, h3⟩ := x
  exact ⟨vs, h1, fun u hu => (h2 u hu).mono k, h3⟩
theorem wellAll_len {P : Params} {h : Heap} : ∀ {vs : List Value} {ds : List WData}, WellAll P h vs ds → vs.length = ds.length
  | _, _, .nil => rfl
  | _, _, .cons _ b => by
    show _ + 1 = _ + 1
    rw [wellAll_len b]
theorem well_list {P : Params} {h : Heap} {v : Value} {ds : List WData} (x : Well P h v (.list ds)) : ∃ (a : Addr) (vs : List Value), v = .ref a ∧ h.get? a = some { cls := .type "list", data := .seq vs.toArray } ∧ WellAll P h vs ds := by
  cases x with
  | list ho hall => exact ⟨_, _, rfl, ho, hall⟩
theorem well_tuple {P : Params} {h : Heap} {v : Value} {ds : List WData} (x : Well P h v (.tuple ds)) : ∃ (a : Addr) (vs : List Value), v = .ref a ∧ h.get? a = some { cls := .type "tuple", data := .seq vs.toArray } ∧ WellAll P h vs ds := by
  cases x with
  | tuple ho hall => exact ⟨_, _, rfl, ho, hall⟩
theorem well_cons {P : Params} {h : Heap} {us : List Value} {d : WData} {ds : List WData} (x : WellAll P h us (d :: ds)) : ∃ (v : Value) (vs : List Value), us = v :: vs ∧ Well P h v d ∧ WellAll P h vs ds := by
  cases x with
  | cons a b => exact ⟨_, _, rfl, a, b⟩
theorem line_of {n : Nat} (h : n ≤ 1048576) : n ≤ sizeLine := Nat.le_trans h (by decide)
section
variable {P : Params} {h : Heap}
mutual
theorem area_one : ∀ (d : WData) (v : Value), Well P h v d → plW d = true → d.weight ≤ 1048576 → ∃ A : List Addr, OkU A v ∧ ∀ a ∈ A, ArgOb h A a
  | .none, _, x, _, _ => by
    cases x
    exact ⟨[], trivial, fun a m => absurd m (by simp)⟩
  | .bool b, _, x, _, _ => by
    cases x
    exact ⟨[], trivial, fun a m => absurd m (by simp)⟩
  | .int i, _, x, _, _ => by
    cases x
    exact ⟨[], trivial, fun a m => absurd m (by simp)⟩
  | .str s, _, x, _, _ => by
    cases x
    exact ⟨[], trivial, fun a m => absurd m (by simp)⟩
  | .bytes b, _, x, _, _ => by
    cases x
    exact ⟨[], trivial, fun a m => absurd m (by simp)⟩
  | .list ds, _, x, p, z => by
    obtain ⟨a, vs, rfl, ho, hall⟩ := well_list x
    have z2 : WData.weightAll ds ≤ 1048576 := z
    obtain ⟨A, h1, h2⟩ := area_all ds _ hall p fun d hd => Nat.le_trans (weight_mem hd) z2
    have k : ∀ b ∈ A, b ∈ a :: A := fun b hb => List.mem_cons_of_mem _ hb
    refine ⟨a :: A, List.mem_cons_self .., fun b hb => ?_⟩
    rcases List.mem_cons.mp hb with e | m
    · rw [e]
      exact ⟨vs, line_of (by rw [wellAll_len hall]; exact Nat.le_trans (PySem.W.length_le_weightAllW ds) z2), fun u hu => (h1 u hu).mono k, .inl ho⟩
    · exact (h2 b m).mono k
  | .tuple ds, _, x, p, z => by
    obtain ⟨a, vs, rfl, ho, hall⟩ := well_tuple x
    have z2 : WData.weightAll ds ≤ 1048576 := z
    obtain ⟨A, h1, h2⟩ := area_all ds _ hall p fun d hd => Nat.le_trans (weight_mem hd) z2
    have k : ∀ b ∈ A, b ∈ a :: A := fun b hb => List.mem_cons_of_mem _ hb
    refine ⟨a :: A, List.mem_cons_self .., fun b hb => ?_⟩
    rcases List.mem_cons.mp hb with e | m
    · rw [e]
      exact ⟨vs, line_of (by rw [wellAll_len hall]; exact Nat.le_trans (PySem.W.length_le_weightAllW ds) z2), fun u hu => (h1 u hu).mono k, .inr ho⟩
    · exact (h2 b m).mono k
  | .float _, _, _, p, _ => Bool.noConfusion (show false = true from p)
  | .dict _, _, _, p, _ => Bool.noConfusion (show false = true from p)
  | .bytearray _, _, _, p, _ => Bool.noConfusion (show false = true from p)
  | .set _, _, _, p, _ => Bool.noConfusion (show false = true from p)
  | .frozenset _, _, _, p, _ => Bool.noConfusion (show false = true from p)
  | .obj _ _, _, _, p, _ => Bool.noConfusion (show false = true from p)
theorem area_all : ∀ (ds : List WData) (vs : List Value), WellAll P h vs ds → plWs ds = true → (∀ d ∈ ds, d.weight ≤ 1048576) → ∃ A : List Addr, (∀ u ∈ vs, OkU A u) ∧ ∀ a ∈ A, ArgOb h A a
  | [], _, x, _, _ => by
    cases x
    exact ⟨[], fun u m => absurd m (by simp), fun a m => absurd m (by simp)⟩
  | d :: ds, _, x, p, z => by
    obtain ⟨v, vs, rfl, x1, x2⟩ := well_cons x
    have q : plW d = true ∧ plWs ds = true := Bool.and_eq_true_iff.mp p
    obtain ⟨A, a1, a2⟩ := area_one d v x1 q.1 (z d (List.mem_cons_self ..))
    obtain ⟨B, b1, b2⟩ := area_all ds vs x2 q.2 fun e he => z e (List.mem_cons_of_mem _ he)
    have kA : ∀ b ∈ A, b ∈ A ++ B := fun b hb => List.mem_append.mpr (.inl hb)
    have kB : ∀ b ∈ B, b ∈ A ++ B := fun b hb => List.mem_append.mpr (.inr hb)
    refine ⟨A ++ B, fun u hu => ?_, fun b hb => ?_⟩
    · rcases List.mem_cons.mp hu with e | m
      · rw [e]
        exact a1.mono kA
      · exact (b1 u m).mono kB
    · rcases List.mem_append.mp hb with m | m
      · exact (a2 b m).mono kA
      · exact (b2 b m).mono kB
end
end
/-- what is tracked of an argument's object -/
def hoOf (o : Obj) : Option HO := match o.data with
  | .seq vs _ => if (o.cls == Value.type "list") = true then some (.frz o (.lst (vs.toList.map toV))) else some (.frz o (.tup (vs.toList.map toV)))
  | _ => none
def argH (K : PySem.W.Frag) (h : Heap) (A : List Addr) : Hp := fun b => if b ∈ A then (if (K.lookup b).isNone = true then (h.get? b).bind hoOf else none) else none
/-- nothing is tracked but what is known to the object -/
def OnlyF (H : Hp) : Prop := ∀ b, H b = none ∨ ∃ o u, H b = some (.frz o u)
theorem hoOf_lst (vs : List Value) : hoOf { cls := .type "list", data := .seq vs.toArray } = some (.frz { cls := .type "list", data := .seq vs.toArray } (.lst (vs.map toV))) := by
  show (if (Value.type "list" == Value.type "list") = true then some (HO.frz { cls := .type "list", data := .seq vs.toArray } (.lst (vs.toArray.toList.map toV))) else some (HO.frz { cls := .type "list", data := .seq vs.toArray } (.tup (vs.toArray.toList.map toV)))) = _
  rw [if_pos (beq_self_eq_true _)]
theorem hoOf_tup (vs : List Value) : hoOf { cls := .type "tuple", data := .seq vs.toArray } = some (.frz { cls := .type "tuple", data := .seq vs.toArray } (.tup (vs.map toV))) := by
  show (if (Value.type "tuple" == Value.type "list") = true then some (HO.frz { cls := .type "tuple", data := .seq vs.toArray } (.lst (vs.toArray.toList.map toV))) else some (HO.frz { cls := .type "tuple", data := .seq vs.toArray } (.tup (vs.toArray.toList.map toV)))) = _
  rw [if_neg (by decide)]
section
variable {P : Program} {w : World} {K : PySem.W.Frag} {h : Heap} {A : List Addr}
theorem argH_at {b : Addr} {o : Obj} (hb : b ∈ A) (hk : K.lookup b = none) (e : h.get? b = some o) : argH K h A b = hoOf o := by
  unfold argH
  rw [if_pos hb, hk, if_pos (show (none : Option Obj).isNone = true from rfl), e] <;> rfl
theorem of_argH {b : Addr} {u : HO} (q : argH K h A b = some u) : b ∈ A ∧ K.lookup b = none := by
  unfold argH at q
  by_cases hb : b ∈ A
  · rw [if_pos hb] at q
    cases hk : K.lookup b with
    | none => exact ⟨hb, rfl⟩
    | some o =>
      rw [hk, if_neg (by simp)] at q
      cases q
  · rw [if_neg hb] at q
    cases q
/-- what stands tracked -/
theorem argH_is (ar : ∀ a ∈ A, ArgOb h A a) {b : Addr} {u : HO} (q : argH K h A b = some u) : K.lookup b = none ∧ ∃ vs : List Value, vs.length ≤ sizeLine ∧ (∀ u ∈ vs, OkU A u) ∧
    ((h.get? b = some { cls := .type "list", data := .seq vs.toArray } ∧ u = .frz { cls := .type "list", data := .seq vs.toArray } (.lst (vs.map toV))) ∨
     (h.get? b = some { cls := .type "tuple", data := .seq vs.toArray } ∧ u = .frz { cls := .type "tuple", data := .seq vs.toArray } (.tup (vs.map toV)))) := by
  obtain ⟨hb, hk⟩ := of_argH q
  obtain ⟨vs, h1, h2, h3⟩ := ar b hb
  refine ⟨hk, vs, h1, h2, ?_⟩
  rcases h3 with e | e
  · rw [argH_at hb hk e, hoOf_lst] at q
    exact .inl ⟨e, (Option.some.inj q).symm⟩
  · rw [argH_at hb hk e, hoOf_tup] at q
    exact .inr ⟨e, (Option.some.inj q).symm⟩
theorem argH_only (ar : ∀ a ∈ A, ArgOb h A a) : OnlyF (argH K h A) := fun b => by
  cases q : argH K h A b with
  | none => exact .inl rfl
  | some u =>
    obtain ⟨_, vs, _, _, ⟨_, e⟩ | ⟨_, e⟩⟩ := argH_is ar q
    · exact .inr ⟨_, _, by rw [e]⟩
    · exact .inr ⟨_, _, by rw [e]⟩
theorem argH_ok (ar : ∀ a ∈ A, ArgOb h A a) : HOk P w (argH K h A) h := fun b u q => by
  obtain ⟨_, vs, h1, h2, ⟨e, rfl⟩ | ⟨e, rfl⟩⟩ := argH_is ar q
  · exact ⟨e, by rw [List.length_map]; exact h1, vs, _, vals_toV h2, e⟩
  · exact ⟨e, by rw [List.length_map]; exact h1, vs, vals_toV h2, _, e, rfl, _, rfl⟩
theorem seq_inj {c c' : Value} {vs us : List Value} (e : (some { cls := c, data := .seq vs.toArray } : Option Obj) = some { cls := c', data := .seq us.toArray }) : c = c' ∧ vs = us := by
  have e1 := Option.some.inj e
  have e2 : c = c' := congrArg Obj.cls e1
  have e3 : Data.seq vs.toArray = Data.seq us.toArray := congrArg Obj.data e1
  injection e3 with e4
  refine ⟨e2, ?_⟩
  have e5 := congrArg Array.toList e4
  simpa using e5
/-- a list argument -/
theorem argL (KX : K.In h) (ar : ∀ a ∈ A, ArgOb h A a) {a : Addr} {vs : List Value} (ha : a ∈ A) (e : h.get? a = some { cls := .type "list", data := .seq vs.toArray }) : (∀ u ∈ vs, OkU A u) ∧ SqL K (argH K h A) a (vs.map toV) := by
  obtain ⟨us, h1, h2, h3⟩ := ar a ha
  have hu : us = vs := by
    rcases h3 with q | q
    · rw [e] at q
      exact (seq_inj q).2.symm
    · rw [e] at q
      exact absurd (Value.type.inj (seq_inj q).1) (by decide)
  subst hu
  refine ⟨h2, ?_⟩
  cases hk : K.lookup a with
  | none => exact .inl (.inr ⟨_, by rw [argH_at ha hk e, hoOf_lst]⟩)
  | some o =>
    have e2 := KX a o hk
    rw [e] at e2
    obtain rfl := Option.some.inj e2
    exact .inr ⟨_, us.toArray, _, hk, rfl, rfl, rfl, by rw [List.size_toArray]; exact h1, by simpa using vals_toV h2⟩
theorem argT (KX : K.In h) (ar : ∀ a ∈ A, ArgOb h A a) {a : Addr} {vs : List Value} (ha : a ∈ A) (e : h.get? a = some { cls := .type "tuple", data := .seq vs.toArray }) : (∀ u ∈ vs, OkU A u) ∧ SqT K (argH K h A) a (vs.map toV) := by
  obtain ⟨us, h1, h2, h3⟩ := ar a ha
  have hu : us = vs := by
    rcases h3 with q | q
    · rw [e] at q
      exact absurd (Value.type.inj (seq_inj q).1) (by decide)
    · rw [e] at q
      exact (seq_inj q).2.symm
  subst hu
  refine ⟨h2, ?_⟩
  cases hk : K.lookup a with
  | none => exact .inl (.inr ⟨_, by rw [argH_at ha hk e, hoOf_tup]⟩)
  | some o =>
    have e2 := KX a o hk
    rw [e] at e2
    obtain rfl := Option.some.inj e2
    exact .inr ⟨_, us.toArray, _, hk, rfl, rfl, by rw [List.size_toArray]; exact h1, by simpa using vals_toV h2⟩
mutual
theorem dw_one {Pm : Params} (KX : K.In h) (ar : ∀ a ∈ A, ArgOb h A a) : ∀ (d : WData) (v : Value), Well Pm h v d → plW d = true → OkU A v → Dw K (argH K h A) (toV v) d
  | .none, _, x, _, _ => by
    cases x
    exact .non
  | .bool b, _, x, _, _ => by
    cases x
    exact .bl b
  | .int i, _, x, _, _ => by
    cases x
    exact .int i
  | .str s, _, x, _, _ => by
    cases x
    exact .str s
  | .bytes b, _, x, _, _ => by
    cases x
    have z := Dw.byt (K := K) (H := argH K h A) b.toArray
    exact z
  | .list ds, _, x, p, hu => by
    obtain ⟨a, vs, rfl, ho, hall⟩ := well_list x
    obtain ⟨h2, hs⟩ := argL KX ar hu ho
    exact .lst hs (dw_all KX ar ds _ hall p h2)
  | .tuple ds, _, x, p, hu => by
    obtain ⟨a, vs, rfl, ho, hall⟩ := well_tuple x
    obtain ⟨h2, hs⟩ := argT KX ar hu ho
    exact .tup hs (dw_all KX ar ds _ hall p h2)
  | .float _, _, _, p, _ => Bool.noConfusion (show false = true from p)
  | .dict _, _, _, p, _ => Bool.noConfusion (show false = true from p)
  | .bytearray _, _, _, p, _ => Bool.noConfusion (show false = true from p)
  | .set _, _, _, p, _ => Bool.noConfusion (show false = true from p)
  | .frozenset _, _, _, p, _ => Bool.noConfusion (show false = true from p)
  | .obj _ _, _, _, p, _ => Bool.noConfusion (show false = true from p)
theorem dw_all {Pm : Params} (KX : K.In h) (ar : ∀ a ∈ A, ArgOb h A a) : ∀ (ds : List WData) (vs : List Value), WellAll Pm h vs ds → plWs ds = true → (∀ u ∈ vs, OkU A u) → DwAll K (argH K h A) (vs.map toV) ds
  | [], _, x, _, _ => by
    cases x
    exact .nil
  | d :: ds, _, x, p, hu => by
    obtain ⟨v, vs, rfl, x1, x2⟩ := well_cons x
    have q : plW d = true ∧ plWs ds = true := Bool.and_eq_true_iff.mp p
    exact .cons (dw_one KX ar d v x1 q.1 (hu _ (List.mem_cons_self ..))) (dw_all KX ar ds vs x2 q.2 fun u m => hu u (List.mem_cons_of_mem _ m))
end
end
/-! ### the call -/
theorem spec_call {P : Program} {w : World} {K : PySem.W.Frag} {mg mb : Str → Option Value} {CX : CXT} {k : Nat} {fa : Addr} {fd : FuncData} {ps : List Str} {sp : Sp} {s₁ : Shared} {vals : List Value} {ds : List WData} {R : PySem.W.WRecords} {cl : Str → Option Addr} {d0 : WData}
    (KX : K.In s₁.heap) (hns : s₁.heap.Ns mainGlobals mg) (hb : s₁.heap.Ns builtinsNs mb) (hbb : ∀ x : Str, x ≠ "__name__" → mb x = bootBuiltins x) (hlim : s₁.heap.NoLimit) (hg : s₁.gens = #[])
    (hwl : WellAll w.params s₁.heap vals ds) (hpl : plWs ds = true) (hwt : ∀ d ∈ ds, d.weight ≤ 1048576) (hr : Room k callerA)
    (F : ∀ base : Heap, K.In base → base.Ns mainGlobals mg → FnOk P w K mg base CX k fa fd ps sp) (hbind : ∀ (s : Shared) (us : List Value), us.length = ps.length → BindsTo s fd ⟨us, []⟩ (ps.zip us)) (hlen : ds.length = ps.length)
    (hsp : ∀ (H : Hp) (xs : List V), OnlyF H → DwAll K H xs ds → sp xs H (fun v H' => Dw K H' v d0) fun _ _ _ => False)
    (hCX : ∀ H e s', CX [] H s₁ (fun _ _ _ => False) e s' → False) :
    codeAny (model P w) callerA (.call (.ref fa) ⟨vals, []⟩) (fun r s' => ∃ u as, r = .ok (.ret u) ∧ ReadsW R cl s'.heap u d0 as ∧ OldK s₁.heap s'.heap ∧ s'.os = s₁.os ∧ AllBare s'.gens) s₁ := by
  obtain ⟨A, ho, ar⟩ := area_all ds vals hwl hpl hwt
  have hO : OnlyF (argH K s₁.heap A) := argH_only ar
  have hok : HOk P w (argH K s₁.heap A) s₁.heap := argH_ok ar
  have hS := dw_all KX ar ds vals hwl hpl ho
  have hV := vals_toV ho
  have hK : ∀ b u, argH K s₁.heap A b = some u → K.lookup b = none := fun b u q => (argH_is ar q).1
  have noA : ∀ {b : Addr} {o : Obj} {es : Array DictEntry} {ep : Nat}, s₁.heap.get? b = some o → o.data = .dict es ep → argH K s₁.heap A b = none := fun {b o es ep} e d => by
    cases q : argH K s₁.heap A b with
    | none => rfl
    | some u =>
      obtain ⟨_, vs, _, _, ⟨e2, _⟩ | ⟨e2, _⟩⟩ := argH_is ar q
      · rw [e2] at e
        cases e
        have d' : Data.seq vs.toArray _ = Data.dict es ep := d
        cases d'
      · rw [e2] at e
        cases e
        have d' : Data.seq vs.toArray _ = Data.dict es ep := d
        cases d'
  generalize argH K s₁.heap A = H at hO hok hS hK noA
  have base_of : ∀ {b : Addr} {o : Obj}, s₁.heap.get? b = some o → H b = none → (hidT s₁.heap H).get? b = some o := fun e n => hidT_get e n
  have nsK : ∀ {b : Addr} {m : Str → Option Value}, s₁.heap.Ns b m → (hidT s₁.heap H).Ns b m := fun {b m} ⟨o, es, ep, e, d, r⟩ => ⟨o, es, ep, base_of e (noA e d), d, r⟩
  have nK : ∀ b o, K.lookup b = some o → H b = none := fun b o e => by
    cases q : H b with
    | none => rfl
    | some u =>
      rw [hK b u q] at e
      cases e
  have hKb : K.In (hidT s₁.heap H) := fun b o e => base_of (KX b o e) (nK b o e)
  have hM : Mod K mg (hidT s₁.heap H) := ⟨hKb, nsK hns, ⟨mb, nsK hb, hbb⟩, let ⟨mc, h1, h2⟩ := hlim; ⟨mc, nsK h1, h2⟩⟩
  have e0 : Env0 P w K mg (hidT s₁.heap H) callerA [] s₁ H := ⟨rfl, hM, fun b o e => of_hidT e, Nat.le_of_eq (hidT_size _ _), trivial, fun b hb => absurd (show b ∈ ([] : List Addr) from hb) (by simp), hok, .of_eq hg⟩
  have hl : vals.length = ps.length := by rw [wellAll_len hwl]; exact hlen
  refine codeAny_mono ((F _ hKb (nsK hns)).run callerA [] s₁ H ⟨vals, []⟩ vals (vals.map toV) _ _ hr e0 (hbind s₁ vals hl) hV (hsp H _ hO hS)) fun r s' x => ?_
  cases r with
  | error e => exact (hCX H e s' x).elim
  | ok fl =>
    cases fl with
    | next => exact False.elim x
    | brk => exact False.elim x
    | cont => exact False.elim x
    | ret u =>
      obtain ⟨v, H', os, bare, un, hok', r', q⟩ := x
      have kept : ∀ b o, s₁.heap.get? b = some o → s'.heap.get? b = some o := fun b o e => by
        cases q2 : H b with
        | none => exact un.keep b o e q2 (by intro z; exact absurd (show b ∈ ([] : List Addr) from z) (by simp)) (by simp)
        | some u2 =>
          rcases hO b with z | ⟨ob, u3, z⟩
          · rw [q2] at z
            cases z
          · have z2 := un.frzs b ob _ z
            obtain ⟨e1, _⟩ := hok b _ z
            obtain ⟨e2, _⟩ := hok' b _ z2
            rw [e] at e1
            cases e1
            exact e2
      have KX' : K.In s'.heap := fun b o e => kept b o (KX b o e)
      obtain ⟨as, hrd⟩ := Dw.reads (R := R) (cl := cl) hok' KX' d0 v u q r'
      exact ⟨u, as, rfl, hrd, OldK.of_keep kept, os, bare⟩
/-! ### the row -/
theorem layable_weight {ds : List WData} (h : WData.layableAll ds = true) : ∀ d ∈ ds, d.weight ≤ 1048576 := fun d hd =>
  (PySem.W.layableW_iff.mp (List.all_eq_true.mp h d hd)).2.2
theorem encAll_len : ∀ (cs : List Codec) (a : Codec.denoteAll cs), (Codec.encAll cs a).length = cs.length
  | [], _ => rfl
  | c :: cs, a => by
    show (Codec.encAll cs a.2).length + 1 = cs.length + 1
    rw [encAll_len cs a.2]
/-- the goal that k_headS leaves (case hc), from the promise of the row's def: whatever the arguments that the codecs let and the row asks for, the def gives what stands for enc (f ..) -/
theorem walk_spec {r : OpenSpec} {k : Nat} {q : Program} {loose : List Str} {XP : (Str → Option Value) → Heap → Prop} {YP : World → Heap → Prop} {d : DefRec} {K : Params → PySem.W.Frag} {CX : World → CXT} {ps : List Str} {sp : World → Sp}
    (hwell : r.wellSaid = true) (hdf : d.params.defaults = []) (hlen : r.args.length = ps.length) (hr : Room k callerA)
    (hY : ∀ (w : World) (h : Heap), YP w h → (K w.params).In h)
    (F : ∀ (w : World) (mg : Str → Option Value) (fa : Addr) (h : Heap), YP w h → (K w.params).In h → h.Ns mainGlobals mg → mg d.name = some (.ref fa) →
      ∃ fd : FuncData, (∀ (s : Shared) (us : List Value), us.length = ps.length → BindsTo s fd ⟨us, []⟩ (ps.zip us)) ∧
        ∀ base : Heap, (K w.params).In base → base.Ns mainGlobals mg → FnOk r.prog w (K w.params) mg base (CX w) k fa fd ps (sp w))
    (hsp : ∀ (w : World) (H : Hp) (xs : List V) (a : Codec.denoteAll r.args), OnlyF H → Codec.withinAll r.args a = true → Codec.app r.args r.asked a = true → DwAll (K w.params) H xs (Codec.encAll r.args a) →
      sp w xs H (fun v H' => Dw (K w.params) H' v (r.ret.enc (Codec.app r.args r.f a))) fun _ _ _ => False)
    (hCX : ∀ (w : World) (H : Hp) (s : Shared) (e : Value) (s' : Shared), CX w [] H s (fun _ _ _ => False) e s' → False) :
    PySem.W.WalkOS q loose XP YP r d [] (fun f vs => PySem.call f vs) := by
  intro w s_0 s₁ mg mb G Y fa o pm cd doc dV kV ho hd hcd hD hmg hg args vals as hpre hlay hrd hwl hlo
  obtain ⟨a, e1, e2⟩ := PySem.W.os_pre_some hpre
  obtain ⟨e3, hwi⟩ := Codec.encAll_of_decAll r.args args a e1
  subst e3
  have KX := hY w _ Y
  obtain ⟨fd, hb, hF⟩ := F w mg fa _ Y KX G.T.g hmg
  refine PySem.W.enter_call (codeAny_mono (spec_call (R := []) (cl := classAt s_0.heap) (d0 := r.ret.enc (Codec.app r.args r.f a)) KX G.T.g G.T.b G.T.builtins G.T.nolimit hg hwl (pl_encAll _ _) (layable_weight hlay) hr hF hb (by rw [encAll_len]; exact hlen)
    (fun H xs hO hS => hsp w H xs a hO hwi e2 hS) fun H e s' => hCX w H s₁ e s') fun r' s' hq => ?_)
  obtain ⟨u, as', rfl, h1, h2, h3, h4⟩ := hq
  exact ⟨.inl ⟨u, _, as', rfl, fun _ => rfl, h1, (OpenSpec.post_iff hwell hwi _ _).mpr rfl, fun z => Bool.noConfusion (show false = true from z)⟩, h2, h3, h4⟩
/-- the same where the promise hangs on the written part alone -/
theorem walk_specK {r : OpenSpec} {k : Nat} {q : Program} {loose : List Str} {XP : (Str → Option Value) → Heap → Prop} {YP : World → Heap → Prop} {d : DefRec} {K : Params → PySem.W.Frag} {CX : CXT} {ps : List Str} {sp : PySem.W.Frag → Sp}
    (hwell : r.wellSaid = true) (hdf : d.params.defaults = []) (hlen : r.args.length = ps.length) (hr : Room k callerA)
    (hY : ∀ (w : World) (h : Heap), YP w h → (K w.params).In h)
    (F : ∀ (w : World) (mg : Str → Option Value) (fa : Addr) (h : Heap), YP w h → (K w.params).In h → h.Ns mainGlobals mg → mg d.name = some (.ref fa) →
      ∃ fd : FuncData, (∀ (s : Shared) (us : List Value), us.length = ps.length → BindsTo s fd ⟨us, []⟩ (ps.zip us)) ∧
        ∀ base : Heap, (K w.params).In base → base.Ns mainGlobals mg → FnOk r.prog w (K w.params) mg base CX k fa fd ps (sp (K w.params)))
    (hsp : ∀ (K : PySem.W.Frag) (H : Hp) (xs : List V) (a : Codec.denoteAll r.args), OnlyF H → Codec.withinAll r.args a = true → Codec.app r.args r.asked a = true → DwAll K H xs (Codec.encAll r.args a) →
      sp K xs H (fun v H' => Dw K H' v (r.ret.enc (Codec.app r.args r.f a))) fun _ _ _ => False)
    (hCX : ∀ (H : Hp) (s : Shared) (e : Value) (s' : Shared), CX [] H s (fun _ _ _ => False) e s' → False) :
    PySem.W.WalkOS q loose XP YP r d [] (fun f vs => PySem.call f vs) :=
  walk_spec (K := K) (CX := fun _ => CX) (sp := fun w => sp (K w.params)) hwell hdf hlen hr hY F (fun w H xs a h1 h2 h3 h4 => hsp (K w.params) H xs a h1 h2 h3 h4) fun _ H s e s' => hCX H s e s'
end L2
end
section
set_option Elab.async false
set_option maxRecDepth 100000
set_option maxHeartbeats 2000000
namespace Pd
open Su86
/-! ### a call: its number and its numbers -/
def code : Call → Nat
  | .begin_ .. => 0 | .chance .. => 1 | .never .. => 2 | .prices .. => 3 | .gain .. => 4 | .best .. => 5 | .critical .. => 6 | .share => 7
  | .sold .. => 8 | .lost .. => 9 | .upTo .. => 10 | .next .. => 11 | .known .. => 12 | .pool => 13 | .fair .. => 14 | .lend .. => 15
  | .dear .. => 16 | .stronger => 17 | .chances => 18 | .mean .. => 19 | .state => 20
def args : Call → List Nat
  | .begin_ c p b => [c, p, b] | .chance x y n => [x, y, n] | .never x y => [x, y] | .prices c p b => [c, p, b] | .gain w q => [w, q] | .best w => [w]
  | .critical w => [w] | .share => [] | .sold w q => [w, q] | .lost w q => [w, q] | .upTo w q => [w, q] | .next w q => [w, q] | .known w => [w] | .pool => []
  | .fair q r => [q, r] | .lend q r => [q, r] | .dear w c => [w, c] | .stronger => [] | .chances => [] | .mean w => [w] | .state => []
def intsOf (l : List Nat) : List Int := l.map fun (n : Nat) => (n : Int)
def ans (a : Ans) : List Int := a.value :: a.out
/-- what is to come: from a state, over the rest of the list, these answers -/
inductive Line : Option Abs → List Int → List Int → Prop
  | nil (s : Option Abs) : Line s [] []
  | cons {s : Option Abs} (c : Call) {r out : List Int} : Line (step s c).1 r out →
      Line s ((code c : Int) :: (intsOf (args c) ++ r)) (((ans (step s c).2).length : Int) :: (ans (step s c).2 ++ out))

theorem nat_of {x : Int} (h : 0 ≤ x) : ∃ n : Nat, x = (n : Int) := ⟨x.toNat, by omega⟩
/-- a call of the shape is one of the calls -/
theorem call_is {p : Int} {a : List Int} {n k : Nat} (hs : PySu86.shape p = some (n, k)) (hl : a.length = n) (h0 : ∀ x ∈ a, 0 ≤ x) :
    k = 0 ∧ ∃ c : Call, p = (code c : Int) ∧ a = intsOf (args c) ∧ Su86Neutral.callOf (p :: a) = some c ∧ PySu86.whole [p :: a] = [p :: a] := by
  have three : ∀ {a : List Int}, a.length = 3 → (∀ x ∈ a, 0 ≤ x) → ∃ x y z : Nat, a = [(x : Int), (y : Int), (z : Int)] := by
    intro a hl h0
    match a, hl with
    | [x, y, z], _ =>
      obtain ⟨x', rfl⟩ := nat_of (h0 x (by simp))
      obtain ⟨y', rfl⟩ := nat_of (h0 y (by simp))
      obtain ⟨z', rfl⟩ := nat_of (h0 z (by simp))
      exact ⟨x', y', z', rfl⟩
  have two : ∀ {a : List Int}, a.length = 2 → (∀ x ∈ a, 0 ≤ x) → ∃ x y : Nat, a = [(x : Int), (y : Int)] := by
    intro a hl h0
    match a, hl with
    | [x, y], _ =>
      obtain ⟨x', rfl⟩ := nat_of (h0 x (by simp))
      obtain ⟨y', rfl⟩ := nat_of (h0 y (by simp))
      exact ⟨x', y', rfl⟩
  have one : ∀ {a : List Int}, a.length = 1 → (∀ x ∈ a, 0 ≤ x) → ∃ x : Nat, a = [(x : Int)] := by
    intro a hl h0
    match a, hl with
    | [x], _ =>
      obtain ⟨x', rfl⟩ := nat_of (h0 x (by simp))
      exact ⟨x', rfl⟩
  have zero : ∀ {a : List Int}, a.length = 0 → a = [] := fun {a} hl => List.length_eq_zero_iff.mp hl
  unfold PySu86.shape at hs
  by_cases e : p = 0
  · subst e
    rw [if_pos rfl] at hs
    cases hs
    obtain ⟨x, y, z, rfl⟩ := three hl h0
    exact ⟨rfl, .begin_ x y z, rfl, rfl, rfl, rfl⟩
  rw [if_neg e] at hs; clear e
  by_cases e : p = 1
  · subst e
    rw [if_pos rfl] at hs
    cases hs
    obtain ⟨x, y, z, rfl⟩ := three hl h0
    exact ⟨rfl, .chance x y z, rfl, rfl, rfl, rfl⟩
  rw [if_neg e] at hs; clear e
  by_cases e : p = 2
  · subst e
    rw [if_pos rfl] at hs
    cases hs
    obtain ⟨x, y, rfl⟩ := two hl h0
    exact ⟨rfl, .never x y, rfl, rfl, rfl, rfl⟩
  rw [if_neg e] at hs; clear e
  by_cases e : p = 3
  · subst e
    rw [if_pos rfl] at hs
    cases hs
    obtain ⟨x, y, z, rfl⟩ := three hl h0
    exact ⟨rfl, .prices x y z, rfl, rfl, rfl, rfl⟩
  rw [if_neg e] at hs; clear e
  by_cases e : p = 4
  · subst e
    rw [if_pos rfl] at hs
    cases hs
    obtain ⟨x, y, rfl⟩ := two hl h0
    exact ⟨rfl, .gain x y, rfl, rfl, rfl, rfl⟩
  rw [if_neg e] at hs; clear e
  by_cases e : p = 5
  · subst e
    rw [if_pos rfl] at hs
    cases hs
    obtain ⟨x, rfl⟩ := one hl h0
    exact ⟨rfl, .best x, rfl, rfl, rfl, rfl⟩
  rw [if_neg e] at hs; clear e
  by_cases e : p = 6
  · subst e
    rw [if_pos rfl] at hs
    cases hs
    obtain ⟨x, rfl⟩ := one hl h0
    exact ⟨rfl, .critical x, rfl, rfl, rfl, rfl⟩
  rw [if_neg e] at hs; clear e
  by_cases e : p = 7
  · subst e
    rw [if_pos rfl] at hs
    cases hs
    obtain rfl := zero hl
    exact ⟨rfl, .share, rfl, rfl, rfl, rfl⟩
  rw [if_neg e] at hs; clear e
  by_cases e : p = 8
  · subst e
    rw [if_pos rfl] at hs
    cases hs
    obtain ⟨x, y, rfl⟩ := two hl h0
    exact ⟨rfl, .sold x y, rfl, rfl, rfl, rfl⟩
  rw [if_neg e] at hs; clear e
  by_cases e : p = 9
  · subst e
    rw [if_pos rfl] at hs
    cases hs
    obtain ⟨x, y, rfl⟩ := two hl h0
    exact ⟨rfl, .lost x y, rfl, rfl, rfl, rfl⟩
  rw [if_neg e] at hs; clear e
  by_cases e : p = 10
  · subst e
    rw [if_pos rfl] at hs
    cases hs
    obtain ⟨x, y, rfl⟩ := two hl h0
    exact ⟨rfl, .upTo x y, rfl, rfl, rfl, rfl⟩
  rw [if_neg e] at hs; clear e
  by_cases e : p = 11
  · subst e
    rw [if_pos rfl] at hs
    cases hs
    obtain ⟨x, y, rfl⟩ := two hl h0
    exact ⟨rfl, .next x y, rfl, rfl, rfl, rfl⟩
  rw [if_neg e] at hs; clear e
  by_cases e : p = 12
  · subst e
    rw [if_pos rfl] at hs
    cases hs
    obtain ⟨x, rfl⟩ := one hl h0
    exact ⟨rfl, .known x, rfl, rfl, rfl, rfl⟩
  rw [if_neg e] at hs; clear e
  by_cases e : p = 13
  · subst e
    rw [if_pos rfl] at hs
    cases hs
    obtain rfl := zero hl
    exact ⟨rfl, .pool, rfl, rfl, rfl, rfl⟩
  rw [if_neg e] at hs; clear e
  by_cases e : p = 14
  · subst e
    rw [if_pos rfl] at hs
    cases hs
    obtain ⟨x, y, rfl⟩ := two hl h0
    exact ⟨rfl, .fair x y, rfl, rfl, rfl, rfl⟩
  rw [if_neg e] at hs; clear e
  by_cases e : p = 15
  · subst e
    rw [if_pos rfl] at hs
    cases hs
    obtain ⟨x, y, rfl⟩ := two hl h0
    exact ⟨rfl, .lend x y, rfl, rfl, rfl, rfl⟩
  rw [if_neg e] at hs; clear e
  by_cases e : p = 16
  · subst e
    rw [if_pos rfl] at hs
    cases hs
    obtain ⟨x, y, rfl⟩ := two hl h0
    exact ⟨rfl, .dear x y, rfl, rfl, rfl, rfl⟩
  rw [if_neg e] at hs; clear e
  by_cases e : p = 17
  · subst e
    rw [if_pos rfl] at hs
    cases hs
    obtain rfl := zero hl
    exact ⟨rfl, .stronger, rfl, rfl, rfl, rfl⟩
  rw [if_neg e] at hs; clear e
  by_cases e : p = 18
  · subst e
    rw [if_pos rfl] at hs
    cases hs
    obtain rfl := zero hl
    exact ⟨rfl, .chances, rfl, rfl, rfl, rfl⟩
  rw [if_neg e] at hs; clear e
  by_cases e : p = 19
  · subst e
    rw [if_pos rfl] at hs
    cases hs
    obtain ⟨x, rfl⟩ := one hl h0
    exact ⟨rfl, .mean x, rfl, rfl, rfl, rfl⟩
  rw [if_neg e] at hs; clear e
  by_cases e : p = 20
  · subst e
    rw [if_pos rfl] at hs
    cases hs
    obtain rfl := zero hl
    exact ⟨rfl, .state, rfl, rfl, rfl, rfl⟩
  rw [if_neg e] at hs
  cases hs

theorem line_of : ∀ (f : Nat) (l : List Int) (raw : List (List (List Int))) (s : Option Abs), PyFlat.calls PySu86.shape f l = some raw → (∀ x ∈ l, 0 ≤ x) →
    Line s l (PyFlat.told (PyFlat.played (fun s c => Su86Neutral.step s (c.headD [])) s (raw.map PySu86.whole)))
  | f, [], raw, s, h, _ => by
    have e : raw = [] := by
      cases f <;> exact (Option.some.inj h).symm
    subst e
    exact .nil s
  | 0, p :: r, raw, s, h, _ => nomatch h
  | f + 1, p :: r, raw, s, h, h0 => by
    unfold PyFlat.calls at h
    unfold PyFlat.call at h
    dsimp only at h
    cases hs : PySu86.shape p with
    | none =>
      rw [hs] at h
      cases h
    | some nk =>
      obtain ⟨n, k⟩ := nk
      rw [hs] at h
      dsimp only at h
      by_cases hn : r.length < n
      · rw [if_pos hn] at h
        cases h
      · rw [if_neg hn] at h
        have ht : ∀ x ∈ r.take n, 0 ≤ x := fun x hx => h0 x (List.mem_cons_of_mem _ (List.mem_of_mem_take hx))
        obtain ⟨hk, c, ep, ea, hc, hw⟩ := call_is hs (a := r.take n) (by rw [List.length_take]; omega) ht
        subst hk
        unfold PyFlat.rows at h
        dsimp only at h
        cases h2 : PyFlat.calls PySu86.shape f (r.drop n) with
        | none =>
          rw [h2] at h
          cases h
        | some cs =>
          rw [h2] at h
          obtain rfl : [p :: r.take n] :: cs = raw := Option.some.inj h
          have ih := line_of f (r.drop n) cs (step s c).1 h2 fun x hx => h0 x (List.mem_cons_of_mem _ (List.mem_of_mem_drop hx))
          have es : Su86Neutral.step s (p :: r.take n) = ((step s c).1, ans (step s c).2) := by
            unfold Su86Neutral.step
            rw [hc]
            rfl
          have e1 : (([p :: r.take n] :: cs).map PySu86.whole) = [p :: r.take n] :: cs.map PySu86.whole := by
            rw [List.map_cons, hw]
          rw [e1]
          have e2 : PyFlat.played (fun s c => Su86Neutral.step s (c.headD [])) s ([p :: r.take n] :: cs.map PySu86.whole) = ans (step s c).2 :: PyFlat.played (fun s c => Su86Neutral.step s (c.headD [])) (step s c).1 (cs.map PySu86.whole) := by
            show (Su86Neutral.step s (p :: r.take n)).2 :: PyFlat.played _ (Su86Neutral.step s (p :: r.take n)).1 _ = _
            rw [es]
          rw [e2]
          have e3 : p :: r = (code c : Int) :: (intsOf (args c) ++ r.drop n) := by
            rw [← ep, ← ea, List.take_append_drop]
          rw [e3]
          have e4 : ∀ (x : List Int) (xs : List (List Int)), PyFlat.told (x :: xs) = (x.length : Int) :: (x ++ PyFlat.told xs) := fun x xs => by
            unfold PyFlat.told
            rw [List.flatMap_cons]
            rfl
          rw [e4]
          exact .cons c ih
/-- what is asked of a list: it is a line -/
theorem line_asked {l : List Int} (h : PySu86.answers_asked l = true) (h0 : ∀ x ∈ l, 0 ≤ x) : Line none l (PySu86.answers l) := by
  unfold PySu86.answers_asked at h
  unfold PySu86.answers PySu86.calls
  cases e : PyFlat.calls PySu86.shape l.length l with
  | none =>
    rw [e] at h
    cases h
  | some raw =>
    exact line_of _ l raw none e h0
end Pd
end
section
set_option Elab.async false
set_option maxRecDepth 100000
set_option maxHeartbeats 2000000
namespace Pd
open Su86
/-! ### sums -/
theorem sum_cast {α : Type} (f : α → Nat) : ∀ l : List α, (l.map fun x => ((f x : Nat) : Int)).sum = (((l.map f).sum : Nat) : Int)
  | [] => rfl
  | a :: l => by
    rw [List.map_cons, List.map_cons, List.sum_cons, List.sum_cons, sum_cast f l]
    omega
/-- what is wanted, as the rows let it be -/
def DOk (d : List (Nat × Nat)) : Prop := d.length ≤ 30 ∧ ∀ x ∈ d, x.1 ≤ 60 ∧ 1 ≤ x.2 ∧ x.2 ≤ 1000
theorem sum_le {α : Type} {f : α → Nat} {m : Nat} : ∀ {l : List α}, (∀ x ∈ l, f x ≤ m) → (l.map f).sum ≤ l.length * m
  | [], _ => Nat.zero_le _
  | a :: l, h => by
    rw [List.map_cons, List.sum_cons, List.length_cons, Nat.add_mul, Nat.one_mul]
    have := h a (by simp)
    have := sum_le (l := l) (f := f) (m := m) fun x hx => h x (List.mem_cons_of_mem _ hx)
    omega
theorem all_le {d : List (Nat × Nat)} (h : DOk d) : all d ≤ 30000 := by
  have h1 : all d ≤ d.length * 1000 := sum_le fun x hx => (h.2 x hx).2.2
  have := h.1
  have h2 : d.length * 1000 ≤ 30 * 1000 := Nat.mul_le_mul_right _ this
  omega
theorem all_pos {d : List (Nat × Nat)} (h : DOk d) (hd : d ≠ []) : 0 < all d := by
  match d, hd with
  | a :: l, _ =>
    have := (h.2 a (by simp)).2.1
    unfold all
    rw [List.map_cons, List.sum_cons]
    omega
theorem sold_left (q : Nat) : ∀ d : List (Nat × Nat), q * all d = sold d q + left d q
  | [] => rfl
  | a :: l => by
    have ih := sold_left q l
    unfold all sold left at ih ⊢
    rw [List.map_cons, List.map_cons, List.map_cons, List.sum_cons, List.sum_cons, List.sum_cons, Nat.mul_add, ih]
    have e : q * a.2 = min a.1 q * a.2 + (q - a.1) * a.2 := by
      rw [← Nat.add_mul]
      congr 1
      omega
    rw [e]
    omega
theorem left_eq (d : List (Nat × Nat)) (q : Nat) : (q : Int) * (all d : Nat) - (sold d q : Nat) = ((left d q : Nat) : Int) := by
  have h := congrArg (fun n : Nat => (n : Int)) (sold_left q d)
  simp only [Int.natCast_mul, Int.natCast_add] at h
  omega
theorem gain_eq (a : Abs) (d : List (Nat × Nat)) (q : Nat) : (a.price : Int) * (sold d q : Nat) + (a.back : Int) * (left d q : Nat) - (a.cost : Int) * (q : Int) * (all d : Nat) = a.gain d q := by
  unfold Abs.gain
  rw [Int.ofNat_eq_natCast, Int.ofNat_eq_natCast, Int.natCast_add, Int.natCast_mul, Int.natCast_mul, Int.natCast_mul, Int.natCast_mul]
theorem upTo_all {d : List (Nat × Nat)} (h : ∀ x ∈ d, x.1 ≤ 60) : upTo d 60 = all d := by
  unfold upTo all
  rw [List.filter_eq_self.mpr fun x hx => decide_eq_true (h x hx)]
/-! ### the best number, turn by turn -/
def bestTo (a : Abs) (d : List (Nat × Nat)) (i : Nat) : Nat := ((List.range (i + 1)).drop 1).foldl (fun b q => if a.gain d b < a.gain d q then q else b) 0
theorem bestTo_succ (a : Abs) (d : List (Nat × Nat)) (i : Nat) : bestTo a d (i + 1) = if a.gain d (bestTo a d i) < a.gain d (i + 1) then i + 1 else bestTo a d i := by
  unfold bestTo
  rw [List.range_succ (n := i + 1), List.drop_append_of_le_length (by rw [List.length_range]; omega), List.foldl_append]
  rfl
theorem bestTo_le (a : Abs) (d : List (Nat × Nat)) : ∀ i, bestTo a d i ≤ i
  | 0 => Nat.le_refl _
  | i + 1 => by
    rw [bestTo_succ]
    have := bestTo_le a d i
    split <;> omega
theorem best_le (a : Abs) (d : List (Nat × Nat)) : a.best d ≤ 60 := bestTo_le a d 60
/-! ### the critical number -/
theorem find_least {p : Nat → Bool} {n m : Nat} (hn : n < m) (hp : p n = true) (hl : ∀ k < n, p k = false) : (List.range m).find? p = some n := by
  rw [List.find?_range_eq_some]
  exact ⟨hp, by simpa using hn, fun k hk => by rw [hl k hk]; rfl⟩
theorem critical_eq {a : Abs} {d : List (Nat × Nat)} {n : Nat} (hn : n ≤ 60) (hp : (a.price - a.cost) * all d ≤ (a.price - a.back) * upTo d n) (hl : ∀ k < n, ¬ (a.price - a.cost) * all d ≤ (a.price - a.back) * upTo d k) : a.critical d = n := by
  unfold Abs.critical
  rw [find_least (n := n) (by show n < 61; omega) (decide_eq_true hp) fun k hk => decide_eq_false (hl k hk)]
  rfl
/-! ### a fraction -/
theorem frac_eq {x : Int} {n : Nat} (hn : 0 < n) : frac x n = [x / ((Nat.gcd x.natAbs n : Nat) : Int), (n : Int) / ((Nat.gcd x.natAbs n : Nat) : Int)] := by
  unfold frac nat
  have : Nat.gcd x.natAbs n ≠ 0 := fun e => by
    have := Nat.eq_zero_of_gcd_eq_zero_right e
    omega
  rw [if_neg this]
  rfl
theorem frac_len {x : Int} {n : Nat} : (frac x n).length = 2 := by
  unfold frac
  split <;> rfl
theorem gcd_ok {x : Int} {n : Nat} (hn : 0 < n) : 0 < Nat.gcd x.natAbs n ∧ Nat.gcd x.natAbs n ≤ n :=
  ⟨Nat.gcd_pos_of_pos_right _ hn, Nat.gcd_le_right _ hn⟩
theorem abs_if (x : Int) : (if x < 0 then -x else x) = (x.natAbs : Int) := by
  split <;> omega
/-! ### rows -/
def ofRows (rs : List (Nat × Nat × Nat)) (w : Nat) : List (Nat × Nat) :=
  if w = 0 then rs.map (fun x => (x.1, x.2.2)) else if w = 1 then rs.map (fun x => (x.2.1, x.2.2)) else rs.map (fun x => (x.1 + x.2.1, x.2.2))
structure AOk (a : Abs) : Prop where
  bc : a.back ≤ a.cost
  cp : a.cost ≤ a.price
  bp : a.back < a.price
  p : a.price ≤ 1000
  len : a.two.length ≤ 30
  rows : ∀ r ∈ a.two, r.1 ≤ 30 ∧ r.2.1 ≤ 30 ∧ 1 ≤ r.2.2 ∧ r.2.2 ≤ 1000
theorem AOk.dok {a : Abs} (h : AOk a) (w : Nat) : DOk (ofRows a.two w) := by
  have hl := h.len
  unfold ofRows
  refine ⟨?_, fun x hx => ?_⟩
  · split
    · rw [List.length_map]; exact hl
    · split <;> rw [List.length_map] <;> exact hl
  · split at hx
    · obtain ⟨r, hr, rfl⟩ := List.mem_map.mp hx
      have := h.rows r hr
      exact ⟨by show r.1 ≤ 60; omega, this.2.2.1, this.2.2.2⟩
    · split at hx
      · obtain ⟨r, hr, rfl⟩ := List.mem_map.mp hx
        have := h.rows r hr
        exact ⟨by show r.2.1 ≤ 60; omega, this.2.2.1, this.2.2.2⟩
      · obtain ⟨r, hr, rfl⟩ := List.mem_map.mp hx
        have := h.rows r hr
        exact ⟨by show r.1 + r.2.1 ≤ 60; omega, this.2.2.1, this.2.2.2⟩
theorem ofRows_ne {rs : List (Nat × Nat × Nat)} (h : rs ≠ []) (w : Nat) : ofRows rs w ≠ [] := by
  intro e
  have e := congrArg List.length e
  unfold ofRows at e
  apply h
  apply List.length_eq_zero_iff.mp
  split at e
  · rw [List.length_map] at e; exact e
  · split at e <;> rw [List.length_map] at e <;> exact e
def rowsAll (rs : List (Nat × Nat × Nat)) : Nat := (rs.map fun x => x.2.2).sum
theorem all_of (rs : List (Nat × Nat × Nat)) (w : Nat) : all (ofRows rs w) = rowsAll rs := by
  unfold all ofRows rowsAll
  split
  · rw [List.map_map]; rfl
  · split <;> rw [List.map_map] <;> rfl
theorem all_both (a : Abs) : all a.both = rowsAll a.two := by
  unfold Abs.both all rowsAll
  rw [List.map_map]; rfl
end Pd
end
section
set_option Elab.async false
set_option linter.all false
set_option maxRecDepth 100000
set_option maxHeartbeats 2000000
namespace Pd
open PySem PySem.Spec PyProof.Rows L2
/-! ### tuples in a list -/
def Tups {α : Type} (f : α → List V) (H : Hp) (vs : List V) (rs : List α) : Prop := Paired (fun v r => ∃ p, v = V.ref p ∧ H p = some (.tup (f r))) vs rs
section
variable {α : Type} {f : α → List V} {H H' : Hp} {vs : List V} {rs : List α}
theorem Tups.same (s : Same H H') (t : Tups f H vs rs) : Tups f H' vs rs := Paired.mapP t fun _ _ ⟨p, e, h⟩ => ⟨p, e, s _ _ h⟩
theorem Tups.len (t : Tups f H vs rs) : vs.length = rs.length := Paired.length t
theorem Tups.get : ∀ {vs : List V} {rs : List α} {i : Nat} {x : V}, Tups f H vs rs → vs[i]? = some x → ∃ r p, rs[i]? = some r ∧ x = V.ref p ∧ H p = some (.tup (f r))
  | _, _, _, _, .nil, e => by simp at e
  | _, _, 0, _, .cons (b := b) ⟨p, e1, h⟩ _, e => by
    simp at e
    subst e
    exact ⟨b, p, rfl, e1, h⟩
  | _, _, i + 1, x, .cons _ t, e => by
    obtain ⟨r, p, h1, h2, h3⟩ := Tups.get (i := i) (x := x) t (by simpa using e)
    exact ⟨r, p, by simpa using h1, h2, h3⟩
theorem Tups.snoc : ∀ {vs : List V} {rs : List α} {p : Addr} {r : α}, Tups f H vs rs → H p = some (.tup (f r)) → Tups f H (vs ++ [V.ref p]) (rs ++ [r])
  | _, _, p, r, .nil, h => .cons ⟨p, rfl, h⟩ .nil
  | _, _, p, r, .cons q t, h => .cons q (Tups.snoc t h)
/-- an object that is no tuple is changed, or one is new -/
theorem Tups.upd_lst {D : Addr} {o : HO} {acc : List V} (hD : H D = some (.lst acc)) (t : Tups f H vs rs) : Tups f (upd H D o) vs rs :=
  Paired.mapP t fun _ _ ⟨p, e, h⟩ => ⟨p, e, by rw [upd_ne (ne_of h hD (by intro z; cases z))]; exact h⟩
end
/-- a list of such tuples stands at l -/
def LstT {α : Type} (f : α → List V) (H : Hp) (l : Addr) (rs : List α) : Prop := ∃ vs, H l = some (.lst vs) ∧ Tups f H vs rs
theorem LstT.same {α : Type} {f : α → List V} {H H' : Hp} {l : Addr} {rs : List α} (s : Same H H') (t : LstT f H l rs) : LstT f H' l rs := by
  obtain ⟨vs, h, t⟩ := t
  exact ⟨vs, s _ _ h, t.same s⟩
def v2 (x : Nat × Nat) : List V := [.int x.1, .int x.2]
def v3 (x : Nat × Nat × Nat) : List V := [.int x.1, .int x.2.1, .int x.2.2]
abbrev Dem := LstT v2
abbrev Rows3 := LstT v3
/-! ### heaps -/
theorem Same.upd_new {H H' : Hp} {D : Addr} {o : HO} (s : Same H H') (hD : H D = none) : Same H (upd H' D o) := fun b u e => by
  rw [upd_ne (ne_of_none e hD)]
  exact s _ _ e
theorem Same.new {H : Hp} {D : Addr} {o : HO} (hD : H D = none) : Same H (upd H D o) := Same.upd_new (Same.refl H) hD
theorem take_snoc {α : Type} : ∀ {l : List α} {i : Nat} {x : α}, l[i]? = some x → l.take (i + 1) = l.take i ++ [x]
  | [], i, x, h => by simp at h
  | a :: l, 0, x, h => by
    have e : a = x := Option.some.inj h
    subst e
    rfl
  | a :: l, i + 1, x, h => by
    have ih := take_snoc (l := l) (i := i) (x := x) h
    show a :: l.take (i + 1) = a :: l.take i ++ [x]
    rw [ih]
    rfl
/-! ### a comprehension over a list -/
theorem yesT {σ : L2.St} {H : Hp} {A B : Hp → Prop} (h : A H) : tYes σ H fun b H3 => if b = true then A H3 else B H3 := by
  show if true = true then A H else B H
  exact iteT h
def LcAt (H : Hp) (Pv : Addr → Nat → List V → Hp → Prop) (D : Addr) (i : Nat) (H' : Hp) : Prop := Same H H' ∧ ∃ acc, H' D = some (.lst acc) ∧ acc.length ≤ i ∧ Pv D i acc H'
theorem LcAt.snoc {H H4 : Hp} {Pv : Addr → Nat → List V → Hp → Prop} {D : Addr} {i : Nat} {acc : List V} {y : V} (hD : H D = none) (hi : i ≤ 1000) (s : Same H H4) (h : H4 D = some (.lst acc)) (hl : acc.length ≤ i)
    (p : Pv D (i + 1) (acc ++ [y]) (upd H4 D (.lst (acc ++ [y])))) : ∃ acc, H4 D = some (.lst acc) ∧ acc.length < sizeLine ∧ LcAt H Pv D (i + 1) (upd H4 D (.lst (acc ++ [y]))) :=
  ⟨acc, h, Nat.lt_of_le_of_lt (Nat.le_trans hl hi) (by decide), Same.upd_new s hD, _, upd_same, by rw [List.length_append, List.length_singleton]; omega, p⟩
theorem lc_seq {K : PySem.W.Frag} {a : Addr} {xs : List V} {H : Hp} {g : TG} {tt : TT} {te : TE} {vs : List Nat} {σ : L2.St} {Q : Addr → Hp → Prop} (hS : SqL K H a xs) (hlen : xs.length ≤ 1000)
    (Pv : Addr → Nat → List V → Hp → Prop) (h0 : ∀ D, H D = none → Pv D 0 [] (upd H D (.lst [])))
    (hs : ∀ D i x acc H', H D = none → i ≤ 1000 → xs[i]? = some x → Same H H' → H' D = some (.lst acc) → acc.length ≤ i → Pv D i acc H' →
      g x (wipe σ vs) H' fun σ2 H2 => wipe σ2 vs = wipe σ vs ∧ tt σ2 H2 fun b H3 =>
        if b = true then te σ2 H3 fun y H4 => ∃ acc, H4 D = some (.lst acc) ∧ acc.length < sizeLine ∧ LcAt H Pv D (i + 1) (upd H4 D (.lst (acc ++ [y]))) else LcAt H Pv D (i + 1) H3)
    (hd : ∀ D acc H', H D = none → Same H H' → H' D = some (.lst acc) → acc.length ≤ xs.length → Pv D xs.length acc H' → Q D H') :
    ∀ D, H D = none → ∃ W : Nat → Nat → Hp → Prop, (∃ m, W 0 m (upd H D (.lst []))) ∧ ∀ i m H, W i m H →
      ((Itl K a).stop i H ∧ Q D H) ∨ ((Itl K a).go i H ∧ ∃ Nx : Hp → Prop, (∀ H', Nx H' → ∃ m', m' < m ∧ W (i + 1) m' H') ∧ ∀ x H', (Itl K a).yld i H x H' → g x (wipe σ vs) H' fun σ2 H2 => wipe σ2 vs = wipe σ vs ∧ tt σ2 H2 fun b H3 =>
        if b = true then te σ2 H3 fun y H4 => ∃ acc, H4 D = some (.lst acc) ∧ acc.length < sizeLine ∧ Nx (upd H4 D (.lst (acc ++ [y]))) else Nx H3) := by
  intro D hD
  refine ⟨fun i m H' => m = xs.length - i ∧ i ≤ xs.length ∧ LcAt H Pv D i H', ⟨xs.length, by simp, Nat.zero_le _, Same.new hD, [], upd_same, Nat.le_refl _, h0 D hD⟩, ?_⟩
  rintro i m H' ⟨rfl, hi, sm, acc, hacc, hl, p⟩
  have q : SqL K H' a xs := sm.seq hS
  by_cases hlt : i < xs.length
  · refine .inr ⟨⟨xs, xs[i], q, by simp [hlt]⟩, LcAt H Pv D (i + 1), fun H2 p' => ⟨xs.length - (i + 1), by omega, rfl, hlt, p'⟩, fun x H2 y => ?_⟩
    obtain ⟨e, y⟩ := y
    subst e
    exact hs D i x acc _ hD (by omega) (y xs q) sm hacc hl p
  · have e : i = xs.length := by omega
    subst e
    exact .inl ⟨⟨xs, q, Nat.le_refl _⟩, hd D acc H' hD sm hacc hl p⟩
/-! ### a call of a function that a name of the frame holds -/
def tCallV (X : Cx) (k i : Nat) (t : TA) : TE := fun σ H Q => ∃ (f : Addr) (fd : FuncData) (ps : List Str) (sp : Sp), σ[i]? = some (some (.ref f)) ∧ FnOk X.prog X.w X.K X.mg X.base CX0 k f fd ps sp ∧
  PySem.W.keepIn X.K (.ref f) = true ∧ Binds X.K fd ps [] ∧ t σ H fun vs H1 => sp vs H1 Q E0
theorem pe_callV {X : Cx} {k i : Nat} {x : Str} {p pos : Pos} {e : Expr} {es : List Expr} {t : TA} (hr : Room k X.A) (ha : PA X (e :: es) t) (hN : X.N[i]? = some x := by rfl) (hv : Vis X.env.scope x := by first | exact Or.inl rfl | exact Or.inr (Or.inl rfl) | exact Or.inr (Or.inr rfl))
    (hd : (x == ("__debug__" : Str)) = false := by decide) (hcd : (x == ("__classdict__" : Str)) = false := by decide)
    (he : starEach (e :: es) X.env = (false, eval e X.env) :: starEach es X.env := by rfl) (hpl : (backTo pos (starEach es X.env)).any (·.1) = false := by rfl) :
    PE X (.Call (.Name x p) (e :: es) [] pos) (tCallV X k i t) := by
  rintro pins s σ H Q I ⟨f, fd, ps, sp, ef, F, hk, hb, h⟩
  have pvx : PE X (.Name x p) (tVar i) := pe_var hN hv hd hcd
  refine wpAny_Call_Name_kw (thn (pvx pins s σ H (fun v H' => v = .ref f ∧ H' = H) I ⟨_, ef, rfl, rfl⟩) fun u s1 ⟨v, H1, I1, r1, e1, e2⟩ => ?_)
  subst e1 e2
  obtain rfl : u = Value.ref f := r1
  refine PySem.W.callWith_K (h₀ := X.base) I1.ok.mod.kin hk (thn (ha pos pins s1 σ _ _ I1 h) fun us s2 ⟨vs, H2, I2, r, q⟩ => ⟨I2.kIn, ?_⟩) he hpl
  exact run_fn (dvs := []) F hr hb .nil pass0 I2 r (by rw [List.append_nil]; exact q)
/-! ### a module's tuple -/
theorem sqT_K {K : PySem.W.Frag} {H : Hp} {a : Addr} {o : Obj} {its : Array Value} {n : Nat} {xs : List V} (h : K.lookup a = some o) (hc : o.cls = .type "tuple") (hd : o.data = .seq its n) (hz : its.size ≤ sizeLine) (hv : Vals xs its.toList) : SqT K H a xs :=
  .inr ⟨o, its, n, h, hc, hd, hz, hv⟩
/-! ### the targets of a comprehension over tuples -/
section
variable {X : Cx} {K : PySem.W.Frag} {kk : Nat} {pos px py pz : Pos} {x y z : Str}
theorem pg2 {i j : Nat} (hK : X.K = K) (hc : X.calm = true) (hN : X.N.Nodup) (hx : X.N[i]? = some x) (hy : X.N[j]? = some y) (lx : X.env.scope.names.lookup x = some .local) (ly : X.env.scope.names.lookup y = some .local) :
    PG X (.Tuple [.Name x px, .Name y py] kk pos) (gTup K 2 (gCons (gName i) (gCons (gName j) gNil))) := by
  subst hK
  exact pg_tup hc (pgs_cons (pg_name hN hx (.inl lx) (.inr lx)) (pgs_cons (pg_name hN hy (.inl ly) (.inr ly)) pgs_nil))
theorem pg3 {i j k : Nat} (hK : X.K = K) (hc : X.calm = true) (hN : X.N.Nodup) (hx : X.N[i]? = some x) (hy : X.N[j]? = some y) (hz : X.N[k]? = some z) (lx : X.env.scope.names.lookup x = some .local) (ly : X.env.scope.names.lookup y = some .local) (lz : X.env.scope.names.lookup z = some .local) :
    PG X (.Tuple [.Name x px, .Name y py, .Name z pz] kk pos) (gTup K 3 (gCons (gName i) (gCons (gName j) (gCons (gName k) gNil)))) := by
  subst hK
  exact pg_tup hc (pgs_cons (pg_name hN hx (.inl lx) (.inr lx)) (pgs_cons (pg_name hN hy (.inl ly) (.inr ly)) (pgs_cons (pg_name hN hz (.inl lz) (.inr lz)) pgs_nil)))
theorem pg1 {i : Nat} (hN : X.N.Nodup) (hx : X.N[i]? = some x) (lx : X.env.scope.names.lookup x = some .local) : PG X (.Name x px) (gName i) := pg_name hN hx (.inl lx) (.inr lx)
theorem pe_ixT {a b : Expr} {ta tb : TE} (hK : X.K = K) (ha : PE X a ta) (hb : PE X b tb) (hs : PlainIx b) : PE X (.Subscript a b pos) (tOp (rIxT K) ta tb) := by
  subst hK
  exact pe_ix ix_tup ha hb hs
end
end Pd
end
section
set_option Elab.async false
set_option linter.all false
set_option maxRecDepth 100000
set_option maxHeartbeats 2000000
namespace Pd
open PySem PySem.Spec PyProof.Rows L2
def top (i : Nat) : Stmt := PySem.Challenge.pw_perishingday_s01_answers.main.body.getD i (.Pass ⟨0, 0, 0, 0⟩)
/-- a def of the text -/
def Def (K : PySem.W.Frag) (mg : Str → Option Value) (name : Str) (st : Stmt) (f : Addr) : Prop := ∃ fd, Fun K name name st f fd ∧ mg name = some (.ref f)
/-- a def that keeps its promise -/
def Has (P : Program) (w : World) (K : PySem.W.Frag) (mg : Str → Option Value) (base : Heap) (k : Nat) (name : Str) (f : Addr) (ps : List Str) (sp : Sp) : Prop :=
  ∃ fd, FnOk P w K mg base CX0 k f fd ps sp ∧ mg name = some (.ref f) ∧ PySem.W.keepIn K (.ref f) = true ∧ Binds K fd ps []
theorem has_of {P : Program} {w : World} {K : PySem.W.Frag} {mg : Str → Option Value} {base : Heap} {name : Str} {st : Stmt} {f : Addr} {N ps : List Str} {k : Nat} {sp : Sp} (D : Def K mg name st f) (S : FnScope N ps (defScope st))
    (hb : ∀ (kV doc pm : Value) (an : Option Addr) (cdv ct : Value) (us : List Value), us.length = ps.length → bindArgs (PySem.W.fnOf name name (defArgs st) (defBody st) (defScope st) .none kV doc pm an cdv ct) ⟨us, []⟩ = pure (ps.zip us))
    (len : ∀ vs H Q E, sp vs H Q E → vs.length = ps.length)
    (hbody : ∀ (cdv : Value) (A : Around) (outer : List Env) (s : Shared) (H : Hp) (vs : List V) (Q : VK) (E : XK), Room k (A.deeper (envOfC name (defScope st) s.heap.objs.size f cdv)) → sp vs H Q E →
      ∃ t, PSs (cxOf CX0 P w K mg base N name (defScope st) f cdv A outer s H E).nox (defBody st) t ∧ t { nx := fun _ H' => Q .non H', rt := Q } (start N vs) H) : Has P w K mg base (k + 1) name f ps sp := by
  obtain ⟨fd, F, hm⟩ := D
  exact ⟨fd, F.ok S len hbody, hm, F.kp, F.binds hb⟩
section
variable {X : Cx} {k : Nat} {x : Str} {f : Addr} {ps : List Str} {sp : Sp} {p pos : Pos} {e : Expr} {es : List Expr} {t : TA}
theorem pe_callH (F : Has X.prog X.w X.K X.mg X.base k x f ps sp) (hr : Room k X.A) (ha : PA X (e :: es) t) (hg : Gl X x := by rfl)
    (hdb : (x == ("__debug__" : Str)) = false := by decide) (he : starEach (e :: es) X.env = (false, eval e X.env) :: starEach es X.env := by rfl) (hpl : (backTo pos (starEach es X.env)).any (·.1) = false := by rfl) :
    PE X (.Call (.Name x p) (e :: es) [] pos) (tCall sp [] E0 t) := by
  obtain ⟨fd, h1, h2, h3, h4⟩ := F
  exact pe_call h1 hr hg h2 h3 h4 .nil pass0 ha hdb he hpl
end
/-- the constants and built-ins that the text reads -/
structure Con0 (mg : Str → Option Value) : Prop where
  sum : mg "sum" = none
  abs : mg "abs" = none
  min : mg "min" = none
  max : mg "max" = none
  len : mg "len" = none
  range : mg "range" = none
  HERE : ∃ t, mg "HERE" = some (.int 0 t)
  THERE : ∃ t, mg "THERE" = some (.int 1 t)
  BOTH : ∃ t, mg "BOTH" = some (.int 2 t)
  MOST_BOUGHT : ∃ t, mg "MOST_BOUGHT" = some (.int 60 t)
section
variable {X : Cx}
theorem pe_con {x : Str} {i : Int} {pos : Pos} (h : ∃ t, X.mg x = some (.int i t)) (hg : Gl X x := by rfl) (hd : (x == ("__debug__" : Str)) = false := by decide) : PE X (.Name x pos) (tC (.int i)) := by
  obtain ⟨t, h⟩ := h
  exact pe_glob hg h ⟨t, rfl⟩ hd
end
section
variable {P : Program} {w : World} {K : PySem.W.Frag} {mg : Str → Option Value} {base : Heap}
/-! ### greatest_common -/
def spGcd : Sp := fun vs H Q _ => ∃ a b : Nat, vs = [.int a, .int b] ∧ Q (.int (Nat.gcd a b : Nat)) H
theorem scGcd : FnScope ["first", "other", "rest"] ["first", "other"] (defScope (top 5)) := ⟨rfl, rfl, rfl, by decide +kernel, rfl, by decide +kernel, by decide +kernel⟩
theorem gcd_turn (a b : Nat) : Nat.gcd b (a % b) = Nat.gcd a b := by
  rw [Nat.gcd_comm a b, Nat.gcd_rec b a, Nat.gcd_comm]
theorem has_gcd {f : Addr} (D : Def K mg "greatest_common" (top 5) f) : Has P w K mg base 1 "greatest_common" f ["first", "other"] spGcd := by
  refine has_of D scGcd (fun _ _ _ _ _ _ us hl => match us, hl with | [_, _], _ => rfl) (fun vs H Q E h => ?_) (fun cdv A outer s H vs Q E hr h => ?_)
  · obtain ⟨a, b, rfl, _⟩ := h
    rfl
  · obtain ⟨a, b, rfl, q⟩ := h
    refine ⟨_, pss_cons (ps_while PassesOwn.never (pt_cmpR op_gt (pv 1) pe_int (nomark _))
      (pss_cons (ps_set (i := 2) scGcd.nd rfl (Or.inl rfl) (pe_op op_mod (pv 0) (pv 1)))
      (pss_cons (ps_set (i := 0) scGcd.nd rfl (Or.inl rfl) (pv 1))
      (pss_one (ps_set (i := 1) scGcd.nd rfl (Or.inl rfl) (pv 2)))))) (pss_one (ps_ret (pv 0))), ?_⟩
    refine while_by (fun σ H' => ∃ (a' b' : Nat) (r : Option V), σ = [some (.int a'), some (.int b'), r] ∧ H' = H ∧ Nat.gcd a' b' = Nat.gcd a b)
      (fun σ _ => match σ with | [_, some (.int b), _] => b.toNat | _ => 0) ⟨a, b, none, rfl, rfl, rfl⟩ ?_ ?_
    · rintro σ H' ⟨a', b', r, rfl, rfl, e⟩
      refine ⟨_, rfl, _, _, rfl, rfl, _, rfl, ?_⟩
      refine ite2 (fun hb => ?_) (fun hb => ?_)
      · have hb : (0 : Int) < b' := of_decide_eq_true hb
        refine ⟨_, rfl, _, rfl, _, _, rfl, rfl, hb, _, rfl, _, rfl, ⟨b', a' % b', _, rfl, rfl, ?_⟩, ?_⟩
        · rw [gcd_turn]
          exact e
        · show ((a' : Int) % (b' : Int)).toNat < (b' : Int).toNat
          have := Int.emod_lt_of_pos (a' : Int) hb
          have := Int.emod_nonneg (a' : Int) (show (b' : Int) ≠ 0 by omega)
          omega
      · have hb : ¬ (0 : Int) < b' := fun z => hb (decide_eq_true z)
        have e0 : b' = 0 := by omega
        subst e0
        rw [Nat.gcd_zero_right] at e
        refine ⟨_, rfl, ?_⟩
        rw [e]
        exact q
    · rintro σ H' Q1 Q2 hq ⟨v, e1, i, j, e2, e3, b, e4, q⟩
      exact ⟨v, e1, i, j, e2, e3, b, e4, hq _ _ q⟩
theorem bt_abs : bootBuiltins "abs" = some (.builtin "abs") := by decide +kernel
theorem bt_sum : bootBuiltins "sum" = some (.builtin "sum") := by decide +kernel
theorem bt_min : bootBuiltins "min" = some (.builtin "min") := by decide +kernel
theorem bt_max : bootBuiltins "max" = some (.builtin "max") := by decide +kernel
theorem bt_len : bootBuiltins "len" = some (.builtin "len") := by decide +kernel
/-! ### fraction -/
def spFrac : Sp := fun vs H Q _ => ∃ (x : Int) (n : Nat), vs = [.int x, .int n] ∧ 0 < n ∧ n < 1073741824 ∧ ∀ p, H p = none → Q (.ref p) (upd H p (.lst ((Su86.frac x n).map V.int)))
theorem scFrac : FnScope ["above", "below", "common"] ["above", "below"] (defScope (top 6)) := ⟨rfl, rfl, rfl, by decide +kernel, rfl, by decide +kernel, by decide +kernel⟩
theorem has_frac {f f1 : Addr} (D : Def K mg "fraction" (top 6) f) (T : Con0 mg) (G : Has P w K mg base 1 "greatest_common" f1 ["first", "other"] spGcd) : Has P w K mg base 2 "fraction" f ["above", "below"] spFrac := by
  refine has_of D scFrac (fun _ _ _ _ _ _ us hl => match us, hl with | [_, _], _ => rfl) (fun vs H Q E h => ?_) (fun cdv A outer s H vs Q E hr h => ?_)
  · obtain ⟨a, b, rfl, _⟩ := h
    rfl
  · obtain ⟨x, n, rfl, hn, hn2, q⟩ := h
    refine ⟨_, pss_cons (ps_set (i := 2) scFrac.nd rfl (Or.inl rfl) (pe_callH G hr (pa_cons (pe_callB call_abs rfl T.abs bt_abs (pa_cons (pv 0) pa_nil)) (pa_cons (pv 1) pa_nil))))
      (pss_one (ps_ret (pe_lst (pa_cons (pe_op op_fdiv (pv 0) (pv 2)) (pa_cons (pe_op op_fdiv (pv 1) (pv 2)) pa_nil))))), ?_⟩
    have hg := gcd_ok (x := x) hn
    refine ⟨_, rfl, x, rfl, _, rfl, x.natAbs, n, (by rw [abs_if]; rfl), ?_⟩
    refine ⟨_, rfl, _, rfl, _, _, rfl, rfl, ⟨by omega, by omega⟩, _, rfl, _, rfl, _, _, rfl, rfl, ⟨by omega, by omega⟩, (by show 2 ≤ sizeLine; decide), fun p hp => ?_⟩
    have := q p hp
    rw [frac_eq hn] at this
    exact this
/-! ### demand_of -/
theorem dem_step {α : Type} {H H' : Hp} {D t : Addr} {i : Nat} {rs : List α} {acc : List V} {r : α} (g : α → Nat × Nat) (hD : H D = none) (hi : i ≤ 1000) (sm : Same H H') (hacc : H' D = some (.lst acc)) (hl : acc.length ≤ i)
    (pv : Tups v2 H' acc ((rs.take i).map g)) (hr : rs[i]? = some r) (ht : H' t = none) :
    ∃ acc_1, (upd H' t (.tup (v2 (g r)))) D = some (.lst acc_1) ∧ acc_1.length < sizeLine ∧ LcAt H (fun _ i acc H' => Tups v2 H' acc ((rs.take i).map g)) D (i + 1) (upd (upd H' t (.tup (v2 (g r)))) D (.lst (acc_1 ++ [.ref t]))) := by
  have s2 : Same H' (upd H' t (.tup (v2 (g r)))) := Same.new ht
  have h2 : (upd H' t (.tup (v2 (g r)))) D = some (.lst acc) := s2 _ _ hacc
  refine LcAt.snoc hD hi (sm.trans s2) h2 hl ?_
  refine Tups.upd_lst h2 ?_
  rw [take_snoc hr, List.map_append]
  exact Tups.snoc (pv.same s2) upd_same
def spDem : Sp := fun vs H Q _ => ∃ (l : Addr) (rs : List (Nat × Nat × Nat)) (w : Nat), vs = [.ref l, .int w] ∧ Rows3 H l rs ∧ rs.length ≤ 30 ∧ ∀ H' p, H p = none → Same H H' → Dem H' p (ofRows rs w) → Q (.ref p) H'
theorem scDem : FnScope ["rows", "of", "here", "there", "often"] ["rows", "of"] (defScope (top 7)) := ⟨rfl, rfl, rfl, by decide +kernel, rfl, by decide +kernel, by decide +kernel⟩
theorem has_dem {f : Addr} (D : Def K mg "demand_of" (top 7) f) (T : Con0 mg) : Has P w K mg base 1 "demand_of" f ["rows", "of"] spDem := by
  refine has_of D scDem (fun _ _ _ _ _ _ us hl => match us, hl with | [_, _], _ => rfl) (fun vs H Q E h => ?_) (fun cdv A outer s H vs Q E hr h => ?_)
  · obtain ⟨a, b, c, rfl, _⟩ := h
    rfl
  · obtain ⟨l, rs, w, rfl, ⟨vs, hl, ht⟩, hlen, q⟩ := h
    have hv : vs.length ≤ 1000 := by
      have := ht.len
      omega
    refine ⟨_, pss_cons (ps_if (pt_cmpR op_eq (pv 1) (pe_con T.HERE) (nomark _)) (pss_one (ps_ret
        (pe_lc rfl scDem.nd (pi_list (pv 0)) (own := [("here", 2), ("there", 3), ("often", 4)]) (by show BlkOk ["rows", "of", "here", "there", "often"] (defScope (top 7)) _ _; exact ⟨rfl, by decide +kernel, by decide +kernel, by decide +kernel, by decide +kernel⟩)
          (by intros; exact pg3 (K := K) (i := 2) (j := 3) (k := 4) rfl rfl scDem.nd rfl rfl rfl rfl rfl rfl)
          (by intros; exact pts_nil) (by intros; exact pe_tup (pa_cons (pv 2) (pa_cons (pv 4) pa_nil)))))) pss_nil)
      (pss_cons (ps_if (pt_cmpR op_eq (pv 1) (pe_con T.THERE) (nomark _)) (pss_one (ps_ret
        (pe_lc rfl scDem.nd (pi_list (pv 0)) (own := [("here", 2), ("there", 3), ("often", 4)]) (by show BlkOk ["rows", "of", "here", "there", "often"] (defScope (top 7)) _ _; exact ⟨rfl, by decide +kernel, by decide +kernel, by decide +kernel, by decide +kernel⟩)
          (by intros; exact pg3 (K := K) (i := 2) (j := 3) (k := 4) rfl rfl scDem.nd rfl rfl rfl rfl rfl rfl)
          (by intros; exact pts_nil) (by intros; exact pe_tup (pa_cons (pv 3) (pa_cons (pv 4) pa_nil)))))) pss_nil)
      (pss_one (ps_ret
        (pe_lc rfl scDem.nd (pi_list (pv 0)) (own := [("here", 2), ("there", 3), ("often", 4)]) (by show BlkOk ["rows", "of", "here", "there", "often"] (defScope (top 7)) _ _; exact ⟨rfl, by decide +kernel, by decide +kernel, by decide +kernel, by decide +kernel⟩)
          (by intros; exact pg3 (K := K) (i := 2) (j := 3) (k := 4) rfl rfl scDem.nd rfl rfl rfl rfl rfl rfl)
          (by intros; exact pts_nil) (by intros; exact pe_tup (pa_cons (pe_op op_add (pv 2) (pv 3)) (pa_cons (pv 4) pa_nil))))))), ?_⟩
    have fin : ∀ g : Nat × Nat × Nat → Nat × Nat, ofRows rs w = rs.map g → ∀ D acc H', H D = none → Same H H' → H' D = some (.lst acc) → acc.length ≤ vs.length → Tups v2 H' acc ((rs.take vs.length).map g) → Q (.ref D) H' := by
      intro g eg D acc H' hD sm hacc _ p
      refine q H' D hD sm ⟨acc, hacc, ?_⟩
      rw [eg]
      rw [ht.len, List.take_length] at p
      exact p
    refine ⟨_, rfl, rfl, _, rfl, ?_⟩
    refine ite2 (fun hw => ?_) (fun hw => ?_)
    · have hw : V.int (w : Int) = V.int 0 := of_decide_eq_true hw
      have hw : w = 0 := by
        have := V.int.inj hw
        omega
      refine ⟨_, rfl, l, rfl, ⟨vs, SqL.of hl⟩, lc_seq (SqL.of hl) hv (fun _ i acc H' => Tups v2 H' acc ((rs.take i).map fun x => (x.1, x.2.2))) (fun D hD => .nil) (fun D i x acc H' hD hi hx sm hacc hl' p => ?_) (fin _ (by unfold ofRows; rw [if_pos hw]))⟩
      obtain ⟨r, p0, hr', rfl, htup⟩ := ht.get hx
      refine ⟨p0, _, rfl, SqT.of (sm _ _ htup), rfl, _, _, rfl, _, _, rfl, _, _, rfl, rfl, rfl, yesT ?_⟩
      exact ⟨_, rfl, _, rfl, (by show 2 ≤ sizeLine; decide), fun t ht' => dem_step (fun x : Nat × Nat × Nat => (x.1, x.2.2)) hD hi sm hacc hl' p hr' ht'⟩
    · have hw0 : w ≠ 0 := fun z => hw (decide_eq_true (by rw [z]; rfl))
      refine ⟨_, rfl, rfl, _, rfl, ?_⟩
      refine ite2 (fun hw => ?_) (fun hw => ?_)
      · have hw : V.int (w : Int) = V.int 1 := of_decide_eq_true hw
        have hw : w = 1 := by
          have := V.int.inj hw
          omega
        refine ⟨_, rfl, l, rfl, ⟨vs, SqL.of hl⟩, lc_seq (SqL.of hl) hv (fun _ i acc H' => Tups v2 H' acc ((rs.take i).map fun x => (x.2.1, x.2.2))) (fun D hD => .nil) (fun D i x acc H' hD hi hx sm hacc hl' p => ?_) (fin _ (by unfold ofRows; rw [if_neg hw0, if_pos hw]))⟩
        obtain ⟨r, p0, hr', rfl, htup⟩ := ht.get hx
        refine ⟨p0, _, rfl, SqT.of (sm _ _ htup), rfl, _, _, rfl, _, _, rfl, _, _, rfl, rfl, rfl, yesT ?_⟩
        exact ⟨_, rfl, _, rfl, (by show 2 ≤ sizeLine; decide), fun t ht' => dem_step (fun x : Nat × Nat × Nat => (x.2.1, x.2.2)) hD hi sm hacc hl' p hr' ht'⟩
      · have hw1 : w ≠ 1 := fun z => hw (decide_eq_true (by rw [z]; rfl))
        refine ⟨_, rfl, l, rfl, ⟨vs, SqL.of hl⟩, lc_seq (SqL.of hl) hv (fun _ i acc H' => Tups v2 H' acc ((rs.take i).map fun x => (x.1 + x.2.1, x.2.2))) (fun D hD => .nil) (fun D i x acc H' hD hi hx sm hacc hl' p => ?_) (fin _ (by unfold ofRows; rw [if_neg hw0, if_neg hw1]))⟩
        obtain ⟨r, p0, hr', rfl, htup⟩ := ht.get hx
        refine ⟨p0, _, rfl, SqT.of (sm _ _ htup), rfl, _, _, rfl, _, _, rfl, _, _, rfl, rfl, rfl, yesT ?_⟩
        exact ⟨_, rfl, _, rfl, _, _, rfl, rfl, _, rfl, (by show 2 ≤ sizeLine; decide), fun t ht' => dem_step (fun x : Nat × Nat × Nat => (x.1 + x.2.1, x.2.2)) hD hi sm hacc hl' p hr' ht'⟩
end
end Pd
end
section
set_option Elab.async false
set_option linter.all false
set_option maxRecDepth 100000
set_option maxHeartbeats 2000000
namespace Pd
open PySem PySem.Spec PyProof.Rows L2
section
variable {P : Program} {w : World} {K : PySem.W.Frag} {mg : Str → Option Value} {base : Heap}
/-! ### the ints of a comprehension -/
/-- what is gathered by the i-th turn -/
def Got {α : Type} (sel : α → Bool) (g : α → Int) (rs : List α) : Addr → Nat → List V → Hp → Prop := fun _ i acc _ => acc = (((rs.take i).filter sel).map g).map V.int
theorem got_yes {α : Type} {sel : α → Bool} {g : α → Int} {rs : List α} {H H' : Hp} {D : Addr} {i : Nat} {acc : List V} {r : α} (hD : H D = none) (hi : i ≤ 1000) (sm : Same H H') (hacc : H' D = some (.lst acc)) (hl : acc.length ≤ i)
    (p : Got sel g rs D i acc H') (hr : rs[i]? = some r) (hs : sel r = true) {z : Int} (hz : z = g r) :
    ∃ acc_1, H' D = some (.lst acc_1) ∧ acc_1.length < sizeLine ∧ LcAt H (Got sel g rs) D (i + 1) (upd H' D (.lst (acc_1 ++ [V.int z]))) := by
  refine LcAt.snoc hD hi sm hacc hl ?_
  subst hz
  unfold Got at p ⊢
  rw [take_snoc hr, List.filter_append, List.map_append, List.map_append, ← p]
  simp [hs]
theorem got_no {α : Type} {sel : α → Bool} {g : α → Int} {rs : List α} {H H' : Hp} {D : Addr} {i : Nat} {acc : List V} {r : α} (sm : Same H H') (hacc : H' D = some (.lst acc)) (hl : acc.length ≤ i)
    (p : Got sel g rs D i acc H') (hr : rs[i]? = some r) (hs : sel r = false) : LcAt H (Got sel g rs) D (i + 1) H' := by
  refine ⟨sm, acc, hacc, Nat.le_succ_of_le hl, ?_⟩
  unfold Got at p ⊢
  rw [take_snoc hr, List.filter_append, List.map_append, List.map_append, ← p]
  simp [hs]
theorem got_end {α : Type} {sel : α → Bool} {g : α → Int} {rs : List α} {H' : Hp} {D : Addr} {n : Nat} {acc : List V} (hn : n = rs.length) (hacc : H' D = some (.lst acc)) (p : Got sel g rs D n acc H') : SqL K H' D (((rs.filter sel).map g).map V.int) := by
  unfold Got at p
  rw [hn, List.take_length] at p
  rw [← p]
  exact SqL.of hacc
/-! ### often_in_all -/
def spAll : Sp := fun vs H Q _ => ∃ (l : Addr) (d : List (Nat × Nat)), vs = [.ref l] ∧ Dem H l d ∧ DOk d ∧ ∀ H', Same H H' → Q (.int (Su86.all d : Nat)) H'
theorem scAll : FnScope ["demand", "wanted", "often"] ["demand"] (defScope (top 8)) := ⟨rfl, rfl, rfl, by decide +kernel, rfl, by decide +kernel, by decide +kernel⟩
theorem has_all {f : Addr} (D : Def K mg "often_in_all" (top 8) f) (T : Con0 mg) : Has P w K mg base 1 "often_in_all" f ["demand"] spAll := by
  refine has_of D scAll (fun _ _ _ _ _ _ us hl => match us, hl with | [_], _ => rfl) (fun vs H Q E h => ?_) (fun cdv A outer s H vs Q E hr h => ?_)
  · obtain ⟨a, b, rfl, _⟩ := h
    rfl
  · obtain ⟨l, d, rfl, ⟨vs, hl, ht⟩, hd, q⟩ := h
    have hv : vs.length ≤ 1000 := by
      have := ht.len
      have := hd.1
      omega
    refine ⟨_, pss_one (ps_ret (pe_callB (cr_sum rfl) rfl T.sum bt_sum (pa_cons
        (pe_lc rfl scAll.nd (pi_list (pv 0)) (own := [("wanted", 1), ("often", 2)]) (by show BlkOk ["demand", "wanted", "often"] (defScope (top 8)) _ _; exact ⟨rfl, by decide +kernel, by decide +kernel, by decide +kernel, by decide +kernel⟩)
          (by intros; exact pg2 (K := K) (i := 1) (j := 2) rfl rfl scAll.nd rfl rfl rfl rfl)
          (by intros; exact pts_nil) (by intros; exact pv 2)) pa_nil))), ?_⟩
    refine ⟨_, rfl, l, rfl, ⟨vs, SqL.of hl⟩, lc_seq (SqL.of hl) hv (Got (fun _ => true) (fun x => (x.2 : Int)) d) (fun D hD => rfl) (fun D i x acc H' hD hi hx sm hacc hl' p => ?_) (fun D acc H' hD sm hacc hlen p => ?_)⟩
    · obtain ⟨r, p0, hr', rfl, htup⟩ := ht.get hx
      refine ⟨p0, _, rfl, SqT.of (sm _ _ htup), rfl, _, _, rfl, _, _, rfl, rfl, rfl, yesT ?_⟩
      exact ⟨_, rfl, got_yes hD hi sm hacc hl' p hr' rfl rfl⟩
    · refine ⟨D, _, rfl, got_end ht.len hacc p, ?_⟩
      have e : ((d.filter fun _ => true).map fun x => (x.2 : Int)).sum = ((Su86.all d : Nat) : Int) := by
        rw [List.filter_eq_self.mpr (fun _ _ => rfl)]
        exact sum_cast _ d
      rw [e]
      exact q H' sm
/-! ### often_up_to -/
def spUp : Sp := fun vs H Q _ => ∃ (l : Addr) (d : List (Nat × Nat)) (n : Nat), vs = [.ref l, .int n] ∧ Dem H l d ∧ DOk d ∧ ∀ H', Same H H' → Q (.int (Su86.upTo d n : Nat)) H'
theorem scUp : FnScope ["demand", "number", "wanted", "often"] ["demand", "number"] (defScope (top 9)) := ⟨rfl, rfl, rfl, by decide +kernel, rfl, by decide +kernel, by decide +kernel⟩
theorem has_up {f : Addr} (D : Def K mg "often_up_to" (top 9) f) (T : Con0 mg) : Has P w K mg base 1 "often_up_to" f ["demand", "number"] spUp := by
  refine has_of D scUp (fun _ _ _ _ _ _ us hl => match us, hl with | [_, _], _ => rfl) (fun vs H Q E h => ?_) (fun cdv A outer s H vs Q E hr h => ?_)
  · obtain ⟨a, b, c, rfl, _⟩ := h
    rfl
  · obtain ⟨l, d, n, rfl, ⟨vs, hl, ht⟩, hd, q⟩ := h
    have hv : vs.length ≤ 1000 := by
      have := ht.len
      have := hd.1
      omega
    refine ⟨_, pss_one (ps_ret (pe_callB (cr_sum rfl) rfl T.sum bt_sum (pa_cons
        (pe_lc rfl scUp.nd (pi_list (pv 0)) (own := [("wanted", 2), ("often", 3)]) (by show BlkOk ["demand", "number", "wanted", "often"] (defScope (top 9)) _ _; exact ⟨rfl, by decide +kernel, by decide +kernel, by decide +kernel, by decide +kernel⟩)
          (by intros; exact pg2 (K := K) (i := 2) (j := 3) rfl rfl scUp.nd rfl rfl rfl rfl)
          (by intros; exact pts_one (pt_cmpR op_le (pv 2) (pv 1) (nomark _))) (by intros; exact pv 3)) pa_nil))), ?_⟩
    refine ⟨_, rfl, l, rfl, ⟨vs, SqL.of hl⟩, lc_seq (SqL.of hl) hv (Got (fun x => decide (x.1 ≤ n)) (fun x => (x.2 : Int)) d) (fun D hD => rfl) (fun D i x acc H' hD hi hx sm hacc hl' p => ?_) (fun D acc H' hD sm hacc hlen p => ?_)⟩
    · obtain ⟨r, p0, hr', rfl, htup⟩ := ht.get hx
      refine ⟨p0, _, rfl, SqT.of (sm _ _ htup), rfl, _, _, rfl, _, _, rfl, rfl, rfl, ?_⟩
      refine ⟨_, rfl, _, rfl, _, _, rfl, rfl, _, rfl, ?_⟩
      refine ite2 (fun hb => ?_) (fun hb => ?_)
      · have hb : (r.1 : Int) ≤ (n : Int) := of_decide_eq_true hb
        exact ⟨_, rfl, got_yes hD hi sm hacc hl' p hr' (decide_eq_true (by omega)) rfl⟩
      · have hb : ¬ (r.1 : Int) ≤ (n : Int) := fun z => hb (decide_eq_true z)
        exact got_no sm hacc hl' p hr' (decide_eq_false (by omega))
    · refine ⟨D, _, rfl, got_end ht.len hacc p, ?_⟩
      have e : ((d.filter fun x => decide (x.1 ≤ n)).map fun x => (x.2 : Int)).sum = ((Su86.upTo d n : Nat) : Int) := sum_cast _ _
      rw [e]
      exact q H' sm
/-! ### wanted_in_all -/
def wantedAll (d : List (Nat × Nat)) : Nat := (d.map fun x => x.1 * x.2).sum
def spWant : Sp := fun vs H Q _ => ∃ (l : Addr) (d : List (Nat × Nat)), vs = [.ref l] ∧ Dem H l d ∧ DOk d ∧ ∀ H', Same H H' → Q (.int (wantedAll d : Nat)) H'
theorem scWant : FnScope ["demand", "wanted", "often"] ["demand"] (defScope (top 10)) := ⟨rfl, rfl, rfl, by decide +kernel, rfl, by decide +kernel, by decide +kernel⟩
theorem has_want {f : Addr} (D : Def K mg "wanted_in_all" (top 10) f) (T : Con0 mg) : Has P w K mg base 1 "wanted_in_all" f ["demand"] spWant := by
  refine has_of D scWant (fun _ _ _ _ _ _ us hl => match us, hl with | [_], _ => rfl) (fun vs H Q E h => ?_) (fun cdv A outer s H vs Q E hr h => ?_)
  · obtain ⟨a, b, rfl, _⟩ := h
    rfl
  · obtain ⟨l, d, rfl, ⟨vs, hl, ht⟩, hd, q⟩ := h
    have hv : vs.length ≤ 1000 := by
      have := ht.len
      have := hd.1
      omega
    refine ⟨_, pss_one (ps_ret (pe_callB (cr_sum rfl) rfl T.sum bt_sum (pa_cons
        (pe_lc rfl scWant.nd (pi_list (pv 0)) (own := [("wanted", 1), ("often", 2)]) (by show BlkOk ["demand", "wanted", "often"] (defScope (top 10)) _ _; exact ⟨rfl, by decide +kernel, by decide +kernel, by decide +kernel, by decide +kernel⟩)
          (by intros; exact pg2 (K := K) (i := 1) (j := 2) rfl rfl scWant.nd rfl rfl rfl rfl)
          (by intros; exact pts_nil) (by intros; exact pe_op op_mul (pv 1) (pv 2))) pa_nil))), ?_⟩
    refine ⟨_, rfl, l, rfl, ⟨vs, SqL.of hl⟩, lc_seq (SqL.of hl) hv (Got (fun _ => true) (fun x => ((x.1 * x.2 : Nat) : Int)) d) (fun D hD => rfl) (fun D i x acc H' hD hi hx sm hacc hl' p => ?_) (fun D acc H' hD sm hacc hlen p => ?_)⟩
    · obtain ⟨r, p0, hr', rfl, htup⟩ := ht.get hx
      refine ⟨p0, _, rfl, SqT.of (sm _ _ htup), rfl, _, _, rfl, _, _, rfl, rfl, rfl, yesT ?_⟩
      have hb := hd.2 r (List.mem_of_getElem? hr')
      refine ⟨_, rfl, _, rfl, _, _, rfl, rfl, .inl (by omega), got_yes hD hi sm hacc hl' p hr' rfl ?_⟩
      rw [Int.natCast_mul]
    · refine ⟨D, _, rfl, got_end ht.len hacc p, ?_⟩
      have e : ((d.filter fun _ => true).map fun x => ((x.1 * x.2 : Nat) : Int)).sum = ((wantedAll d : Nat) : Int) := by
        rw [List.filter_eq_self.mpr (fun _ _ => rfl)]
        exact sum_cast _ d
      rw [e]
      exact q H' sm
/-! ### sold_in_all -/
def spSold : Sp := fun vs H Q _ => ∃ (l : Addr) (d : List (Nat × Nat)) (n : Nat), vs = [.ref l, .int n] ∧ n ≤ 120 ∧ Dem H l d ∧ DOk d ∧ ∀ H', Same H H' → Q (.int (Su86.sold d n : Nat)) H'
theorem scSold : FnScope ["demand", "number", "wanted", "often"] ["demand", "number"] (defScope (top 11)) := ⟨rfl, rfl, rfl, by decide +kernel, rfl, by decide +kernel, by decide +kernel⟩
theorem has_sold {f : Addr} (D : Def K mg "sold_in_all" (top 11) f) (T : Con0 mg) : Has P w K mg base 1 "sold_in_all" f ["demand", "number"] spSold := by
  refine has_of D scSold (fun _ _ _ _ _ _ us hl => match us, hl with | [_, _], _ => rfl) (fun vs H Q E h => ?_) (fun cdv A outer s H vs Q E hr h => ?_)
  · obtain ⟨a, b, c, rfl, _⟩ := h
    rfl
  · obtain ⟨l, d, n, rfl, hn, ⟨vs, hl, ht⟩, hd, q⟩ := h
    have hv : vs.length ≤ 1000 := by
      have := ht.len
      have := hd.1
      omega
    refine ⟨_, pss_one (ps_ret (pe_callB (cr_sum rfl) rfl T.sum bt_sum (pa_cons
        (pe_lc rfl scSold.nd (pi_list (pv 0)) (own := [("wanted", 2), ("often", 3)]) (by show BlkOk ["demand", "number", "wanted", "often"] (defScope (top 11)) _ _; exact ⟨rfl, by decide +kernel, by decide +kernel, by decide +kernel, by decide +kernel⟩)
          (by intros; exact pg2 (K := K) (i := 2) (j := 3) rfl rfl scSold.nd rfl rfl rfl rfl)
          (by intros; exact pts_nil) (by intros; exact pe_op op_mul (pe_callB (call_min2 rfl) rfl T.min bt_min (pa_cons (pv 2) (pa_cons (pv 1) pa_nil))) (pv 3))) pa_nil))), ?_⟩
    refine ⟨_, rfl, l, rfl, ⟨vs, SqL.of hl⟩, lc_seq (SqL.of hl) hv (Got (fun _ => true) (fun x => ((min x.1 n * x.2 : Nat) : Int)) d) (fun D hD => rfl) (fun D i x acc H' hD hi hx sm hacc hl' p => ?_) (fun D acc H' hD sm hacc hlen p => ?_)⟩
    · obtain ⟨r, p0, hr', rfl, htup⟩ := ht.get hx
      refine ⟨p0, _, rfl, SqT.of (sm _ _ htup), rfl, _, _, rfl, _, _, rfl, rfl, rfl, yesT ?_⟩
      have em : (if (n : Int) < (r.1 : Int) then (n : Int) else (r.1 : Int)) = ((min r.1 n : Nat) : Int) := by
        split <;> omega
      refine ⟨_, rfl, _, rfl, _, _, rfl, _, rfl, _, _, rfl, rfl, .inl ?_, got_yes hD hi sm hacc hl' p hr' rfl ?_⟩
      · rw [em]
        omega
      · rw [em, Int.natCast_mul]
    · refine ⟨D, _, rfl, got_end ht.len hacc p, ?_⟩
      have e : ((d.filter fun _ => true).map fun x => ((min x.1 n * x.2 : Nat) : Int)).sum = ((Su86.sold d n : Nat) : Int) := by
        rw [List.filter_eq_self.mpr (fun _ _ => rfl)]
        exact sum_cast _ d
      rw [e]
      exact q H' sm
/-! ### left_in_all -/
def spLeft : Sp := fun vs H Q _ => ∃ (l : Addr) (d : List (Nat × Nat)) (n : Nat), vs = [.ref l, .int n] ∧ n ≤ 120 ∧ Dem H l d ∧ DOk d ∧ ∀ H', Same H H' → Q (.int (Su86.left d n : Nat)) H'
theorem scLeft : FnScope ["demand", "number"] ["demand", "number"] (defScope (top 12)) := ⟨rfl, rfl, rfl, by decide +kernel, rfl, by decide +kernel, by decide +kernel⟩
theorem has_left {f f1 f2 : Addr} (D : Def K mg "left_in_all" (top 12) f) (GA : Has P w K mg base 1 "often_in_all" f1 ["demand"] spAll) (GS : Has P w K mg base 1 "sold_in_all" f2 ["demand", "number"] spSold) : Has P w K mg base 2 "left_in_all" f ["demand", "number"] spLeft := by
  refine has_of D scLeft (fun _ _ _ _ _ _ us hl => match us, hl with | [_, _], _ => rfl) (fun vs H Q E h => ?_) (fun cdv A outer s H vs Q E hr h => ?_)
  · obtain ⟨a, b, c, rfl, _⟩ := h
    rfl
  · obtain ⟨l, d, n, rfl, hn, hD, hd, q⟩ := h
    refine ⟨_, pss_one (ps_ret (pe_op op_sub (pe_op op_mul (pv 1) (pe_callH GA hr (pa_cons (pv 0) pa_nil))) (pe_callH GS hr (pa_cons (pv 0) (pa_cons (pv 1) pa_nil))))), ?_⟩
    refine ⟨_, rfl, _, rfl, l, d, rfl, hD, hd, fun H1 s1 => ⟨_, _, rfl, rfl, .inl (by omega), ?_⟩⟩
    refine ⟨_, rfl, _, rfl, l, d, n, rfl, hn, hD.same s1, hd, fun H2 s2 => ⟨_, _, rfl, rfl, ?_⟩⟩
    have := q H2 (s1.trans s2)
    rw [← left_eq] at this
    exact this
/-! ### lost_in_all -/
def spLost : Sp := fun vs H Q _ => ∃ (l : Addr) (d : List (Nat × Nat)) (n : Nat), vs = [.ref l, .int n] ∧ Dem H l d ∧ DOk d ∧ ∀ H', Same H H' → Q (.int (Su86.lost d n : Nat)) H'
theorem scLost : FnScope ["demand", "number", "wanted", "often"] ["demand", "number"] (defScope (top 13)) := ⟨rfl, rfl, rfl, by decide +kernel, rfl, by decide +kernel, by decide +kernel⟩
theorem has_lost {f : Addr} (D : Def K mg "lost_in_all" (top 13) f) (T : Con0 mg) : Has P w K mg base 1 "lost_in_all" f ["demand", "number"] spLost := by
  refine has_of D scLost (fun _ _ _ _ _ _ us hl => match us, hl with | [_, _], _ => rfl) (fun vs H Q E h => ?_) (fun cdv A outer s H vs Q E hr h => ?_)
  · obtain ⟨a, b, c, rfl, _⟩ := h
    rfl
  · obtain ⟨l, d, n, rfl, ⟨vs, hl, ht⟩, hd, q⟩ := h
    have hv : vs.length ≤ 1000 := by
      have := ht.len
      have := hd.1
      omega
    refine ⟨_, pss_one (ps_ret (pe_callB (cr_sum rfl) rfl T.sum bt_sum (pa_cons
        (pe_lc rfl scLost.nd (pi_list (pv 0)) (own := [("wanted", 2), ("often", 3)]) (by show BlkOk ["demand", "number", "wanted", "often"] (defScope (top 13)) _ _; exact ⟨rfl, by decide +kernel, by decide +kernel, by decide +kernel, by decide +kernel⟩)
          (by intros; exact pg2 (K := K) (i := 2) (j := 3) rfl rfl scLost.nd rfl rfl rfl rfl)
          (by intros; exact pts_nil) (by intros; exact pe_op op_mul (pe_callB (call_max2 rfl) rfl T.max bt_max (pa_cons (pe_op op_sub (pv 2) (pv 1)) (pa_cons pe_int pa_nil))) (pv 3))) pa_nil))), ?_⟩
    refine ⟨_, rfl, l, rfl, ⟨vs, SqL.of hl⟩, lc_seq (SqL.of hl) hv (Got (fun _ => true) (fun x => (((x.1 - n) * x.2 : Nat) : Int)) d) (fun D hD => rfl) (fun D i x acc H' hD hi hx sm hacc hl' p => ?_) (fun D acc H' hD sm hacc hlen p => ?_)⟩
    · obtain ⟨r, p0, hr', rfl, htup⟩ := ht.get hx
      refine ⟨p0, _, rfl, SqT.of (sm _ _ htup), rfl, _, _, rfl, _, _, rfl, rfl, rfl, yesT ?_⟩
      have hb := hd.2 r (List.mem_of_getElem? hr')
      have em : (if (0 : Int) > (r.1 : Int) - (n : Int) then (0 : Int) else (r.1 : Int) - (n : Int)) = ((r.1 - n : Nat) : Int) := by
        split <;> omega
      refine ⟨_, rfl, _, rfl, _, _, rfl, rfl, _, _, rfl, _, rfl, _, _, rfl, rfl, .inr (by omega), got_yes hD hi sm hacc hl' p hr' rfl ?_⟩
      rw [em, Int.natCast_mul]
    · refine ⟨D, _, rfl, got_end ht.len hacc p, ?_⟩
      have e : ((d.filter fun _ => true).map fun x => (((x.1 - n) * x.2 : Nat) : Int)).sum = ((Su86.lost d n : Nat) : Int) := by
        rw [List.filter_eq_self.mpr (fun _ _ => rfl)]
        exact sum_cast _ d
      rw [e]
      exact q H' sm
end
end Pd
end
section
set_option Elab.async false
set_option linter.all false
set_option maxRecDepth 100000
set_option maxHeartbeats 2000000
namespace Pd
open PySem PySem.Spec PyProof.Rows L2
open Su86 (Abs)
section
variable {P : Program} {w : World} {K : PySem.W.Frag} {mg : Str → Option Value} {base : Heap}
/-- prices as they may be -/
structure POk (a : Abs) : Prop where
  bc : a.back ≤ a.cost
  cp : a.cost ≤ a.price
  bp : a.back < a.price
  p : a.price ≤ 1000
/-! ### gain_in_all -/
def spGain : Sp := fun vs H Q _ => ∃ (l : Addr) (d : List (Nat × Nat)) (n : Nat) (a : Abs), vs = [.ref l, .int n, .int a.cost, .int a.price, .int a.back] ∧ n ≤ 120 ∧ POk a ∧ Dem H l d ∧ DOk d ∧ ∀ H', Same H H' → Q (.int (a.gain d n)) H'
theorem scGain : FnScope ["demand", "number", "cost", "price", "back", "paid"] ["demand", "number", "cost", "price", "back"] (defScope (top 14)) := ⟨rfl, rfl, rfl, by decide +kernel, rfl, by decide +kernel, by decide +kernel⟩
theorem has_gain {f f1 f2 f3 : Addr} (D : Def K mg "gain_in_all" (top 14) f) (GA : Has P w K mg base 1 "often_in_all" f1 ["demand"] spAll) (GS : Has P w K mg base 1 "sold_in_all" f2 ["demand", "number"] spSold)
    (GL : Has P w K mg base 2 "left_in_all" f3 ["demand", "number"] spLeft) : Has P w K mg base 3 "gain_in_all" f ["demand", "number", "cost", "price", "back"] spGain := by
  refine has_of D scGain (fun _ _ _ _ _ _ us hl => match us, hl with | [_, _, _, _, _], _ => rfl) (fun vs H Q E h => ?_) (fun cdv A outer s H vs Q E hr h => ?_)
  · obtain ⟨a, b, c, d, rfl, _⟩ := h
    rfl
  · obtain ⟨l, d, n, a, rfl, hn, ha, hD, hd, q⟩ := h
    have hr1 : Room 1 _ := hr.mono (by decide)
    have h1 := ha.bc
    have h2 := ha.cp
    have h3 := ha.p
    refine ⟨_, pss_cons (ps_set (i := 5) scGain.nd rfl (Or.inl rfl) (pe_op op_mul (pe_op op_mul (pv 2) (pv 1)) (pe_callH GA hr1 (pa_cons (pv 0) pa_nil))))
      (pss_one (ps_ret (pe_op op_sub (pe_op op_add (pe_op op_mul (pv 3) (pe_callH GS hr1 (pa_cons (pv 0) (pa_cons (pv 1) pa_nil)))) (pe_op op_mul (pv 4) (pe_callH GL hr (pa_cons (pv 0) (pa_cons (pv 1) pa_nil))))) (pv 5)))), ?_⟩
    refine ⟨_, rfl, _, rfl, _, _, rfl, rfl, .inl (by omega), _, rfl, l, d, rfl, hD, hd, fun H1 s1 => ⟨_, _, rfl, rfl, .inl ?_, ?_⟩⟩
    · have e : (a.cost : Int) * (n : Int) = ((a.cost * n : Nat) : Int) := (Int.natCast_mul _ _).symm
      rw [e]
      have : a.cost * n ≤ 1000 * 120 := Nat.mul_le_mul (by omega) hn
      omega
    · refine ⟨_, rfl, _, rfl, _, rfl, l, d, n, rfl, hn, hD.same s1, hd, fun H2 s2 => ⟨_, _, rfl, rfl, .inl (by omega), ?_⟩⟩
      refine ⟨_, rfl, _, rfl, _, rfl, l, d, n, rfl, hn, hD.same (s1.trans s2), hd, fun H3 s3 => ⟨_, _, rfl, rfl, .inl (by omega), ?_⟩⟩
      refine ⟨_, _, rfl, rfl, _, rfl, _, _, rfl, rfl, ?_⟩
      have := q H3 ((s1.trans s2).trans s3)
      rw [← gain_eq] at this
      exact this
/-! ### known_gain_in_all -/
def spKnow : Sp := fun vs H Q _ => ∃ (l : Addr) (d : List (Nat × Nat)) (a : Abs), vs = [.ref l, .int a.cost, .int a.price] ∧ POk a ∧ Dem H l d ∧ DOk d ∧ ∀ H', Same H H' → Q (.int (a.known d : Nat)) H'
theorem scKnow : FnScope ["demand", "cost", "price"] ["demand", "cost", "price"] (defScope (top 15)) := ⟨rfl, rfl, rfl, by decide +kernel, rfl, by decide +kernel, by decide +kernel⟩
theorem has_know {f f1 : Addr} (D : Def K mg "known_gain_in_all" (top 15) f) (GW : Has P w K mg base 1 "wanted_in_all" f1 ["demand"] spWant) : Has P w K mg base 2 "known_gain_in_all" f ["demand", "cost", "price"] spKnow := by
  refine has_of D scKnow (fun _ _ _ _ _ _ us hl => match us, hl with | [_, _, _], _ => rfl) (fun vs H Q E h => ?_) (fun cdv A outer s H vs Q E hr h => ?_)
  · obtain ⟨a, b, c, rfl, _⟩ := h
    rfl
  · obtain ⟨l, d, a, rfl, ha, hD, hd, q⟩ := h
    have h2 := ha.cp
    have h3 := ha.p
    have e1 : (a.price : Int) - (a.cost : Int) = ((a.price - a.cost : Nat) : Int) := by omega
    refine ⟨_, pss_one (ps_ret (pe_op op_mul (pe_op op_sub (pv 2) (pv 1)) (pe_callH GW hr (pa_cons (pv 0) pa_nil)))), ?_⟩
    refine ⟨_, rfl, _, rfl, _, _, rfl, rfl, _, rfl, l, d, rfl, hD, hd, fun H1 s1 => ⟨_, _, rfl, rfl, .inl (by omega), ?_⟩⟩
    have := q H1 s1
    have e : ((a.known d : Nat) : Int) = ((a.price : Int) - (a.cost : Int)) * ((wantedAll d : Nat) : Int) := by
      rw [e1, ← Int.natCast_mul]
      rfl
    rw [e] at this
    exact this
/-! ### best_number -/
def spBest : Sp := fun vs H Q _ => ∃ (l : Addr) (d : List (Nat × Nat)) (a : Abs), vs = [.ref l, .int a.cost, .int a.price, .int a.back] ∧ POk a ∧ Dem H l d ∧ DOk d ∧ ∀ H', Same H H' → Q (.int (a.best d : Nat)) H'
theorem scBest : FnScope ["demand", "cost", "price", "back", "best", "most", "number", "gained"] ["demand", "cost", "price", "back"] (defScope (top 16)) := ⟨rfl, rfl, rfl, by decide +kernel, rfl, by decide +kernel, by decide +kernel⟩
theorem has_best {f f1 : Addr} (D : Def K mg "best_number" (top 16) f) (T : Con0 mg) (GG : Has P w K mg base 3 "gain_in_all" f1 ["demand", "number", "cost", "price", "back"] spGain) : Has P w K mg base 4 "best_number" f ["demand", "cost", "price", "back"] spBest := by
  refine has_of D scBest (fun _ _ _ _ _ _ us hl => match us, hl with | [_, _, _, _], _ => rfl) (fun vs H Q E h => ?_) (fun cdv A outer s H vs Q E hr h => ?_)
  · obtain ⟨a, b, c, rfl, _⟩ := h
    rfl
  · obtain ⟨l, d, a, rfl, ha, hD, hd, q⟩ := h
    refine ⟨_, pss_cons (ps_set (i := 4) scBest.nd rfl (Or.inl rfl) pe_int)
      (pss_cons (ps_set (i := 5) scBest.nd rfl (Or.inl rfl) (pe_callH GG hr (pa_cons (pv 0) (pa_cons pe_int (pa_cons (pv 1) (pa_cons (pv 2) (pa_cons (pv 3) pa_nil)))))))
      (pss_cons (ps_for PassesOwn.never rfl (pi_range2 rfl T.range (pa_cons pe_int (pa_cons (pe_op op_add (pe_con T.MOST_BOUGHT) pe_int) pa_nil))) (pg_name (i := 6) scBest.nd rfl (Or.inl rfl))
        (pss_cons (ps_set (i := 7) scBest.nd rfl (Or.inl rfl) (pe_callH GG hr (pa_cons (pv 0) (pa_cons (pv 6) (pa_cons (pv 1) (pa_cons (pv 2) (pa_cons (pv 3) pa_nil)))))))
        (pss_one (ps_if (pt_cmpR op_gt (pv 7) (pv 5) (nomark _)) (pss_cons (ps_set (i := 4) scBest.nd rfl (Or.inl rfl) (pv 6)) (pss_one (ps_set (i := 5) scBest.nd rfl (Or.inl rfl) (pv 7)))) pss_nil))))
      (pss_one (ps_ret (pv 4))))), ?_⟩
    refine ⟨_, rfl, _, rfl, _, rfl, _, rfl, l, d, 0, a, rfl, (by omega), ha, hD, hd, fun H1 s1 => ?_⟩
    refine ⟨_, _, rfl, rfl, 1, 61, rfl, (by omega), ?_⟩
    refine for_range (lo := 1) (n := 60) (fun i σ H' => ∃ x y : Option V, σ = [some (.ref l), some (.int a.cost), some (.int a.price), some (.int a.back), some (.int (bestTo a d i : Nat)), some (.int (a.gain d (bestTo a d i))), x, y] ∧ Same H H')
      ⟨none, none, rfl, s1⟩ ?_ ?_
    · rintro i σ H' hi ⟨x, y, rfl, sm⟩
      have ei : (1 : Int) + (i : Int) = ((i + 1 : Nat) : Int) := by omega
      rw [ei]
      refine ⟨_, rfl, _, rfl, _, rfl, _, rfl, _, rfl, l, d, i + 1, a, rfl, (by omega), ha, hD.same sm, hd, fun H2 s2 => ?_⟩
      refine ⟨_, rfl, _, rfl, _, _, rfl, rfl, _, rfl, ?_⟩
      refine ite2 (fun hb => ?_) (fun hb => ?_)
      · have hb : a.gain d (bestTo a d i) < a.gain d (i + 1) := of_decide_eq_true hb
        exact ⟨_, rfl, _, rfl, some (.int ((i + 1 : Nat) : Int)), some (.int (a.gain d (i + 1))), (by rw [bestTo_succ, if_pos hb]; rfl), sm.trans s2⟩
      · have hb : ¬ a.gain d (bestTo a d i) < a.gain d (i + 1) := fun z => hb (decide_eq_true z)
        exact ⟨some (.int ((i + 1 : Nat) : Int)), some (.int (a.gain d (i + 1))), (by rw [bestTo_succ, if_neg hb]; rfl), sm.trans s2⟩
    · rintro σ H' ⟨x, y, rfl, sm⟩
      exact ⟨_, rfl, q H' sm⟩
/-! ### critical_number -/
def spCrit : Sp := fun vs H Q _ => ∃ (l : Addr) (d : List (Nat × Nat)) (a : Abs), vs = [.ref l, .int a.cost, .int a.price, .int a.back] ∧ POk a ∧ Dem H l d ∧ DOk d ∧ ∀ H', Same H H' → Q (.int (a.critical d : Nat)) H'
theorem scCrit : FnScope ["demand", "cost", "price", "back", "needed", "number"] ["demand", "cost", "price", "back"] (defScope (top 17)) := ⟨rfl, rfl, rfl, by decide +kernel, rfl, by decide +kernel, by decide +kernel⟩
theorem has_crit {f f1 f2 : Addr} (D : Def K mg "critical_number" (top 17) f) (GA : Has P w K mg base 1 "often_in_all" f1 ["demand"] spAll) (GU : Has P w K mg base 1 "often_up_to" f2 ["demand", "number"] spUp) : Has P w K mg base 2 "critical_number" f ["demand", "cost", "price", "back"] spCrit := by
  refine has_of D scCrit (fun _ _ _ _ _ _ us hl => match us, hl with | [_, _, _, _], _ => rfl) (fun vs H Q E h => ?_) (fun cdv A outer s H vs Q E hr h => ?_)
  · obtain ⟨a, b, c, rfl, _⟩ := h
    rfl
  · obtain ⟨l, d, a, rfl, ha, hD, hd, q⟩ := h
    have h1 := ha.bc
    have h2 := ha.cp
    have h3 := ha.p
    have h4 := ha.bp
    have e1 : (a.price : Int) - (a.cost : Int) = ((a.price - a.cost : Nat) : Int) := by omega
    have e2 : (a.price : Int) - (a.back : Int) = ((a.price - a.back : Nat) : Int) := by omega
    refine ⟨_, pss_cons (ps_set (i := 4) scCrit.nd rfl (Or.inl rfl) (pe_op op_mul (pe_op op_sub (pv 2) (pv 1)) (pe_callH GA hr (pa_cons (pv 0) pa_nil))))
      (pss_cons (ps_set (i := 5) scCrit.nd rfl (Or.inl rfl) pe_int)
      (pss_cons (ps_while PassesOwn.never (pt_cmpR op_lt (pe_op op_mul (pe_callH GU hr (pa_cons (pv 0) (pa_cons (pv 5) pa_nil))) (pe_op op_sub (pv 2) (pv 3))) (pv 4) (nomark _)) (pss_one (ps_aug (i := 5) scCrit.nd rfl (Or.inl rfl) pe_int ip_add)))
      (pss_one (ps_ret (pv 5))))), ?_⟩
    refine ⟨_, rfl, _, rfl, _, _, rfl, rfl, _, rfl, l, d, rfl, hD, hd, fun H1 s1 => ⟨_, _, rfl, rfl, .inl (by omega), ?_⟩⟩
    refine while_by (fun σ H' => ∃ n : Nat, σ = [some (.ref l), some (.int a.cost), some (.int a.price), some (.int a.back), some (.int (((a.price : Int) - (a.cost : Int)) * (Su86.all d : Nat))), some (.int n)] ∧ Same H H' ∧ n ≤ 60 ∧
        ∀ k < n, ¬ (a.price - a.cost) * Su86.all d ≤ (a.price - a.back) * Su86.upTo d k)
      (fun σ _ => match σ with | [_, _, _, _, _, some (.int n)] => 60 - n.toNat | _ => 0) ⟨0, rfl, s1, by omega, fun k hk => absurd hk (by omega)⟩ ?_ ?_
    · rintro σ H' ⟨n, rfl, sm, hn, hk⟩
      refine ⟨_, rfl, _, rfl, l, d, n, rfl, hD.same sm, hd, fun H2 s2 => ?_⟩
      refine ⟨_, rfl, _, rfl, _, _, rfl, rfl, _, _, rfl, rfl, .inr (by omega), ?_⟩
      refine ⟨_, rfl, _, _, rfl, rfl, _, rfl, ?_⟩
      have key : ((Su86.upTo d n : Nat) : Int) * ((a.price : Int) - (a.back : Int)) < ((a.price : Int) - (a.cost : Int)) * (Su86.all d : Nat) ↔ ¬ (a.price - a.cost) * Su86.all d ≤ (a.price - a.back) * Su86.upTo d n := by
        rw [e1, e2, ← Int.natCast_mul, ← Int.natCast_mul, Nat.mul_comm (Su86.upTo d n)]
        omega
      refine ite2 (fun hb => ?_) (fun hb => ?_)
      · have hb := key.mp (of_decide_eq_true hb)
        have hlt : n < 60 := by
          rcases Nat.lt_or_ge n 60 with z | z
          · exact z
          · have en : n = 60 := by omega
            subst en
            exfalso
            apply hb
            rw [upTo_all fun x hx => (hd.2 x hx).1]
            exact Nat.mul_le_mul_right _ (by omega)
        refine ⟨_, rfl, _, _, rfl, rfl, ⟨n + 1, rfl, sm.trans s2, by omega, fun k hk' => ?_⟩, ?_⟩
        · rcases Nat.lt_or_ge k n with z | z
          · exact hk k z
          · have ek : k = n := by omega
            subst ek
            exact hb
        · show 60 - ((n : Int) + 1).toNat < 60 - (n : Int).toNat
          omega
      · have hb : (a.price - a.cost) * Su86.all d ≤ (a.price - a.back) * Su86.upTo d n := Decidable.not_not.mp fun z => hb (decide_eq_true (key.mpr z))
        refine ⟨_, rfl, ?_⟩
        have := q H2 (sm.trans s2)
        rw [critical_eq hn hb hk] at this
        exact this
    · rintro σ H' Q1 Q2 hq ⟨v1, r1, v2, r2, l', d', n', r3, r4, r5, k⟩
      refine ⟨v1, r1, v2, r2, l', d', n', r3, r4, r5, fun H2 s2 => ?_⟩
      obtain ⟨v3, r6, v4, r7, i1, i2, r8, r9, j1, j2, r10, r11, r12, v5, r13, i3, i4, r14, r15, b, r16, qq⟩ := k H2 s2
      exact ⟨v3, r6, v4, r7, i1, i2, r8, r9, j1, j2, r10, r11, r12, v5, r13, i3, i4, r14, r15, b, r16, hq _ _ qq⟩
/-! ### never_more_often_met -/
def neverMore (d m : List (Nat × Nat)) (n : Nat) : Prop := ∀ k < n, Su86.upTo d k ≤ Su86.upTo m k
def metB (d m : List (Nat × Nat)) : Bool := (List.range 61).all fun k => decide (Su86.upTo d k ≤ Su86.upTo m k)
theorem met_yes {d m : List (Nat × Nat)} (h : neverMore d m 61) : metB d m = true := by
  unfold metB
  rw [List.all_eq_true]
  intro k hk
  exact decide_eq_true (h k (List.mem_range.mp hk))
theorem met_no {d m : List (Nat × Nat)} {k : Nat} (hk : k < 61) (h : ¬ Su86.upTo d k ≤ Su86.upTo m k) : metB d m = false := by
  unfold metB
  rw [List.all_eq_false]
  exact ⟨k, List.mem_range.mpr hk, by simpa using h⟩
theorem stronger_eq {d m : List (Nat × Nat)} (e : Su86.all d = Su86.all m) (hp : 0 < Su86.all d) : Su86.stronger d m = metB d m := by
  unfold Su86.stronger metB
  congr 1
  funext k
  rw [decide_eq_decide, ← e]
  exact Nat.mul_le_mul_right_iff hp
def spMet : Sp := fun vs H Q _ => ∃ (l l2 : Addr) (d m : List (Nat × Nat)), vs = [.ref l, .ref l2] ∧ Dem H l d ∧ DOk d ∧ Dem H l2 m ∧ DOk m ∧ ∀ H', Same H H' → Q (.bl (metB d m)) H'
theorem scMet : FnScope ["demand", "other", "number"] ["demand", "other"] (defScope (top 18)) := ⟨rfl, rfl, rfl, by decide +kernel, rfl, by decide +kernel, by decide +kernel⟩
theorem has_met {f f1 : Addr} (D : Def K mg "never_more_often_met" (top 18) f) (T : Con0 mg) (GU : Has P w K mg base 1 "often_up_to" f1 ["demand", "number"] spUp) : Has P w K mg base 2 "never_more_often_met" f ["demand", "other"] spMet := by
  refine has_of D scMet (fun _ _ _ _ _ _ us hl => match us, hl with | [_, _], _ => rfl) (fun vs H Q E h => ?_) (fun cdv A outer s H vs Q E hr h => ?_)
  · obtain ⟨a, b, c, d, rfl, _⟩ := h
    rfl
  · obtain ⟨l, l2, d, m, rfl, hD, hd, hM, hm, q⟩ := h
    refine ⟨_, pss_cons (ps_for PassesOwn.never rfl (pi_range1 rfl T.range (pa_cons (pe_op op_add (pe_con T.MOST_BOUGHT) pe_int) pa_nil)) (pg_name (i := 2) scMet.nd rfl (Or.inl rfl))
        (pss_one (ps_if (pt_cmpR op_gt (pe_callH GU hr (pa_cons (pv 0) (pa_cons (pv 2) pa_nil))) (pe_callH GU hr (pa_cons (pv 1) (pa_cons (pv 2) pa_nil))) (nomark _)) (pss_one (ps_ret pe_bl)) pss_nil)))
      (pss_one (ps_ret pe_bl)), ?_⟩
    refine ⟨_, _, rfl, rfl, 61, rfl, (by omega), (by omega), ?_⟩
    refine for_range (lo := 0) (n := 61) (fun i σ H' => ∃ x : Option V, σ = [some (.ref l), some (.ref l2), x] ∧ Same H H' ∧ neverMore d m i)
      ⟨none, rfl, Same.refl H, fun k hk => absurd hk (by omega)⟩ ?_ ?_
    · rintro i σ H' hi ⟨x, rfl, sm, hk⟩
      have ei : (0 : Int) + (i : Int) = (i : Int) := by omega
      rw [ei]
      refine ⟨_, rfl, _, rfl, l, d, i, rfl, hD.same sm, hd, fun H1 s1 => ?_⟩
      refine ⟨_, rfl, _, rfl, l2, m, i, rfl, hM.same (sm.trans s1), hm, fun H2 s2 => ?_⟩
      refine ⟨_, _, rfl, rfl, _, rfl, ite2 (fun hb => ?_) (fun hb => ?_)⟩
      · have hb : ((Su86.upTo m i : Nat) : Int) < ((Su86.upTo d i : Nat) : Int) := of_decide_eq_true hb
        have := q H2 ((sm.trans s1).trans s2)
        rw [met_no hi (by omega)] at this
        exact this
      · have hb : ¬ ((Su86.upTo m i : Nat) : Int) < ((Su86.upTo d i : Nat) : Int) := fun z => hb (decide_eq_true z)
        refine ⟨some (.int (i : Int)), rfl, (sm.trans s1).trans s2, fun k hk' => ?_⟩
        rcases Nat.lt_or_ge k i with z | z
        · exact hk k z
        · have ek : k = i := by omega
          subst ek
          omega
    · rintro σ H' ⟨x, rfl, sm, hk⟩
      have := q H' sm
      rw [met_yes hk] at this
      exact this
end
end Pd
end
section
set_option Elab.async false
set_option linter.all false
set_option maxRecDepth 100000
set_option maxHeartbeats 2000000
namespace Pd
open PySem PySem.Spec PyProof.Rows L2
open Su86 (Abs)
structure Con1 (mg : Str → Option Value) : Prop extends Con0 mg where
  NONE_THERE : ∃ t, mg "NONE_THERE" = some (.int (-6) t)
  NOT_BEGUN : ∃ t, mg "NOT_BEGUN" = some (.int (-11) t)
  OUT_OF_RANGE : ∃ t, mg "OUT_OF_RANGE" = some (.int (-22) t)
  TOO_MANY : ∃ t, mg "TOO_MANY" = some (.int (-28) t)
  MOST_PRICE : ∃ t, mg "MOST_PRICE" = some (.int 1000 t)
  MOST_WANTED : ∃ t, mg "MOST_WANTED" = some (.int 30 t)
  MOST_OFTEN : ∃ t, mg "MOST_OFTEN" = some (.int 1000 t)
  MOST_ROWS : ∃ t, mg "MOST_ROWS" = some (.int 30 t)
/-- the class of the store -/
structure Txt (K : PySem.W.Frag) (mg : Str → Option Value) (C : Addr) : Prop where
  cl : Cls K C
  nB : NoAttr K C "begun"
  nC : NoAttr K C "cost"
  nP : NoAttr K C "price"
  nK : NoAttr K C "back"
  nR : NoAttr K C "rows"
  mgC : mg "Store" = some (.ref C)
def fsOf (b : Bool) (c p k : Nat) (l : Addr) : List (Str × V) := [("begun", .bl b), ("cost", .int c), ("price", .int p), ("back", .int k), ("rows", .ref l)]
section
variable {b b' : Bool} {c p k c' p' k' : Nat} {l l' : Addr}
theorem fs_begun : (fsOf b c p k l).lookup ("begun" : Str) = some (.bl b) := rfl
theorem fs_cost : (fsOf b c p k l).lookup ("cost" : Str) = some (.int c) := rfl
theorem fs_price : (fsOf b c p k l).lookup ("price" : Str) = some (.int p) := rfl
theorem fs_back : (fsOf b c p k l).lookup ("back" : Str) = some (.int k) := rfl
theorem fs_rows : (fsOf b c p k l).lookup ("rows" : Str) = some (.ref l) := rfl
end
/-- the store stands at o, its rows' list at l -/
def StoreAt (C : Addr) (H : Hp) (o l : Addr) (b : Bool) (a : Abs) : Prop := (∃ dx, H o = some (.ins C dx (fsOf b a.cost a.price a.back l))) ∧ Rows3 H l a.two
theorem StoreAt.same {C : Addr} {H H' : Hp} {o l : Addr} {b : Bool} {a : Abs} (s : Same H H') (h : StoreAt C H o l b a) : StoreAt C H' o l b a := by
  obtain ⟨⟨dx, h1⟩, h2⟩ := h
  exact ⟨⟨dx, s _ _ h1⟩, h2.same s⟩
theorem AOk.pok {a : Abs} (h : AOk a) : POk a := ⟨h.bc, h.cp, h.bp, h.p⟩
section
variable {P : Program} {w : World} {K : PySem.W.Frag} {mg : Str → Option Value} {base : Heap}
/-! ### prices_fit, row_fits -/
def spFit : Sp := fun vs H Q _ => ∃ c p k : Nat, vs = [.int c, .int p, .int k] ∧ Q (.bl (Su86.okC c p k)) H
theorem scFit : FnScope ["cost", "price", "back"] ["cost", "price", "back"] (defScope (top 29)) := ⟨rfl, rfl, rfl, by decide +kernel, rfl, by decide +kernel, by decide +kernel⟩
theorem has_fit {f : Addr} (D : Def K mg "prices_fit" (top 29) f) (T : Con1 mg) : Has P w K mg base 1 "prices_fit" f ["cost", "price", "back"] spFit := by
  refine has_of D scFit (fun _ _ _ _ _ _ us hl => match us, hl with | [_, _, _], _ => rfl) (fun vs H Q E h => ?_) (fun cdv A outer s H vs Q E hr h => ?_)
  · obtain ⟨a, b, c, rfl, _⟩ := h
    rfl
  · obtain ⟨c, p, k, rfl, q⟩ := h
    refine ⟨_, pss_one (ps_ret (pe_and (pe_cmpR op_le (pv 2) (pv 0) (nomark _)) (pe_and (pe_cmpR op_le (pv 0) (pv 1) (nomark _)) (pe_and (pe_cmpR op_le (pv 1) (pe_con T.MOST_PRICE) (nomark _)) (pe_one (pe_cmpR op_lt (pv 2) (pv 1) (nomark _))))))), ?_⟩
    have no : (¬ (k ≤ c ∧ c ≤ p ∧ p ≤ 1000)) → Q (.bl false) H := fun z => by
      have e : Su86.okC c p k = false := by
        unfold Su86.okC
        rw [Bool.eq_false_iff]
        intro y
        simp at y
        omega
      rw [e] at q
      exact q
    refine ⟨_, rfl, _, rfl, _, _, rfl, rfl, _, rfl, ite2 (fun h1 => ?_) (fun h1 => no fun z => h1 (decide_eq_true (by omega)))⟩
    refine ⟨_, rfl, _, rfl, _, _, rfl, rfl, _, rfl, ite2 (fun h2 => ?_) (fun h2 => no fun z => h2 (decide_eq_true (by omega)))⟩
    refine ⟨_, rfl, _, _, rfl, rfl, _, rfl, ite2 (fun h3 => ?_) (fun h3 => no fun z => h3 (decide_eq_true (by omega)))⟩
    refine ⟨_, rfl, _, rfl, _, _, rfl, rfl, ?_⟩
    have h1 := of_decide_eq_true h1
    have h2 := of_decide_eq_true h2
    have h3 := of_decide_eq_true h3
    have e : Su86.okC c p k = decide ((k : Int) < (p : Int)) := by
      unfold Su86.okC
      rw [Bool.eq_iff_iff]
      simp
      omega
    rw [e] at q
    exact q
def rowOk (x y n : Nat) : Bool := decide (x ≤ 30 ∧ y ≤ 30 ∧ 1 ≤ n ∧ n ≤ 1000)
def spRow : Sp := fun vs H Q _ => ∃ x y n : Nat, vs = [.int x, .int y, .int n] ∧ Q (.bl (rowOk x y n)) H
theorem scRow : FnScope ["here", "there", "often"] ["here", "there", "often"] (defScope (top 30)) := ⟨rfl, rfl, rfl, by decide +kernel, rfl, by decide +kernel, by decide +kernel⟩
theorem has_row {f : Addr} (D : Def K mg "row_fits" (top 30) f) (T : Con1 mg) : Has P w K mg base 1 "row_fits" f ["here", "there", "often"] spRow := by
  refine has_of D scRow (fun _ _ _ _ _ _ us hl => match us, hl with | [_, _, _], _ => rfl) (fun vs H Q E h => ?_) (fun cdv A outer s H vs Q E hr h => ?_)
  · obtain ⟨a, b, c, rfl, _⟩ := h
    rfl
  · obtain ⟨x, y, n, rfl, q⟩ := h
    refine ⟨_, pss_one (ps_ret (pe_and (pe_cmpR op_le (pv 0) (pe_con T.MOST_WANTED) (nomark _)) (pe_and (pe_cmpR op_le (pv 1) (pe_con T.MOST_WANTED) (nomark _)) (pe_and (pe_cmpR op_le pe_int (pv 2) (nomark _)) (pe_one (pe_cmpR op_le (pv 2) (pe_con T.MOST_OFTEN) (nomark _))))))), ?_⟩
    have no : (¬ (x ≤ 30 ∧ y ≤ 30 ∧ 1 ≤ n)) → Q (.bl false) H := fun z => by
      have e : rowOk x y n = false := decide_eq_false fun y => z ⟨y.1, y.2.1, y.2.2.1⟩
      rw [e] at q
      exact q
    refine ⟨_, rfl, _, _, rfl, rfl, _, rfl, ite2 (fun h1 => ?_) (fun h1 => no fun z => h1 (decide_eq_true (by omega)))⟩
    refine ⟨_, rfl, _, _, rfl, rfl, _, rfl, ite2 (fun h2 => ?_) (fun h2 => no fun z => h2 (decide_eq_true (by omega)))⟩
    refine ⟨_, rfl, _, _, rfl, rfl, _, rfl, ite2 (fun h3 => ?_) (fun h3 => no fun z => h3 (decide_eq_true (by omega)))⟩
    refine ⟨_, rfl, _, _, rfl, rfl, ?_⟩
    have h1 := of_decide_eq_true h1
    have h2 := of_decide_eq_true h2
    have h3 := of_decide_eq_true h3
    have e : rowOk x y n = decide ((n : Int) ≤ (1000 : Int)) := by
      unfold rowOk
      rw [decide_eq_decide]
      omega
    rw [e] at q
    exact q
/-! ### rows_in_all -/
def spRAll : Sp := fun vs H Q _ => ∃ (l : Addr) (rs : List (Nat × Nat × Nat)), vs = [.ref l] ∧ Rows3 H l rs ∧ rs.length ≤ 30 ∧ ∀ H', Same H H' → Q (.int (rowsAll rs : Nat)) H'
theorem scRAll : FnScope ["rows", "here", "there", "often"] ["rows"] (defScope (top 31)) := ⟨rfl, rfl, rfl, by decide +kernel, rfl, by decide +kernel, by decide +kernel⟩
theorem has_rall {f : Addr} (D : Def K mg "rows_in_all" (top 31) f) (T : Con0 mg) : Has P w K mg base 1 "rows_in_all" f ["rows"] spRAll := by
  refine has_of D scRAll (fun _ _ _ _ _ _ us hl => match us, hl with | [_], _ => rfl) (fun vs H Q E h => ?_) (fun cdv A outer s H vs Q E hr h => ?_)
  · obtain ⟨a, b, rfl, _⟩ := h
    rfl
  · obtain ⟨l, rs, rfl, ⟨vs, hl, ht⟩, hlen, q⟩ := h
    have hv : vs.length ≤ 1000 := by
      have := ht.len
      omega
    refine ⟨_, pss_one (ps_ret (pe_callB (cr_sum rfl) rfl T.sum bt_sum (pa_cons
        (pe_lc rfl scRAll.nd (pi_list (pv 0)) (own := [("here", 1), ("there", 2), ("often", 3)]) (by show BlkOk ["rows", "here", "there", "often"] (defScope (top 31)) _ _; exact ⟨rfl, by decide +kernel, by decide +kernel, by decide +kernel, by decide +kernel⟩)
          (by intros; exact pg3 (K := K) (i := 1) (j := 2) (k := 3) rfl rfl scRAll.nd rfl rfl rfl rfl rfl rfl)
          (by intros; exact pts_nil) (by intros; exact pv 3)) pa_nil))), ?_⟩
    refine ⟨_, rfl, l, rfl, ⟨vs, SqL.of hl⟩, lc_seq (SqL.of hl) hv (Got (fun _ => true) (fun x => (x.2.2 : Int)) rs) (fun D hD => rfl) (fun D i x acc H' hD hi hx sm hacc hl' p => ?_) (fun D acc H' hD sm hacc hlen p => ?_)⟩
    · obtain ⟨r, p0, hr', rfl, htup⟩ := ht.get hx
      refine ⟨p0, _, rfl, SqT.of (sm _ _ htup), rfl, _, _, rfl, _, _, rfl, _, _, rfl, rfl, rfl, yesT ?_⟩
      exact ⟨_, rfl, got_yes hD hi sm hacc hl' p hr' rfl rfl⟩
    · refine ⟨D, _, rfl, got_end ht.len hacc p, ?_⟩
      have e : ((rs.filter fun _ => true).map fun x => (x.2.2 : Int)).sum = ((rowsAll rs : Nat) : Int) := by
        rw [List.filter_eq_self.mpr (fun _ _ => rfl)]
        exact sum_cast _ rs
      rw [e]
      exact q H' sm
/-! ### set_prices -/
def spSet (C : Addr) : Sp := fun vs H Q _ => ∃ (o l dx : Addr) (b : Bool) (c0 p0 k0 c p k : Nat), vs = [.ref o, .int c, .int p, .int k] ∧ H o = some (.ins C dx (fsOf b c0 p0 k0 l)) ∧ Q .non (upd H o (.ins C dx (fsOf b c p k l)))
theorem scSet : FnScope ["store", "cost", "price", "back"] ["store", "cost", "price", "back"] (defScope (top 32)) := ⟨rfl, rfl, rfl, by decide +kernel, rfl, by decide +kernel, by decide +kernel⟩
theorem has_set {f C : Addr} (D : Def K mg "set_prices" (top 32) f) (T : Txt K mg C) : Has P w K mg base 1 "set_prices" f ["store", "cost", "price", "back"] (spSet C) := by
  refine has_of D scSet (fun _ _ _ _ _ _ us hl => match us, hl with | [_, _, _, _], _ => rfl) (fun vs H Q E h => ?_) (fun cdv A outer s H vs Q E hr h => ?_)
  · obtain ⟨o, l, dx, b, c0, p0, k0, c, p, k, rfl, _⟩ := h
    rfl
  · obtain ⟨o, l, dx, b, c0, p0, k0, c, p, k, rfl, ho, q⟩ := h
    refine ⟨_, pss_cons (ps_fld (pv 0) (pv 1) rfl) (pss_cons (ps_fld (pv 0) (pv 2) rfl) (pss_one (ps_fld (pv 0) (pv 3) rfl))), ?_⟩
    refine ⟨_, rfl, _, rfl, o, C, dx, _, rfl, ho, T.cl, T.nC, (by show 5 < 1000; decide), ?_⟩
    refine ⟨_, rfl, _, rfl, o, C, dx, _, rfl, upd_same, T.cl, T.nP, (by show 5 < 1000; decide), ?_⟩
    refine ⟨_, rfl, _, rfl, o, C, dx, _, rfl, upd_same, T.cl, T.nK, (by show 5 < 1000; decide), ?_⟩
    rw [upd_upd, upd_upd]
    exact q
/-! ### refusal -/
def refV (a : Abs) (r : Bool) : Int := if r = true then -22 else if a.two = [] then -6 else 0
def spRef (C : Addr) : Sp := fun vs H Q _ => ∃ (o l : Addr) (b : Bool) (a : Abs) (r : Bool), vs = [.ref o, .bl r] ∧ StoreAt C H o l b a ∧ Q (.int (refV a r)) H
theorem scRef : FnScope ["store", "out_of_range"] ["store", "out_of_range"] (defScope (top 33)) := ⟨rfl, rfl, rfl, by decide +kernel, rfl, by decide +kernel, by decide +kernel⟩
theorem has_ref {f C : Addr} (D : Def K mg "refusal" (top 33) f) (T : Txt K mg C) (N : Con1 mg) : Has P w K mg base 1 "refusal" f ["store", "out_of_range"] (spRef C) := by
  refine has_of D scRef (fun _ _ _ _ _ _ us hl => match us, hl with | [_, _], _ => rfl) (fun vs H Q E h => ?_) (fun cdv A outer s H vs Q E hr h => ?_)
  · obtain ⟨o, l, b, a, r, rfl, _⟩ := h
    rfl
  · obtain ⟨o, l, b, a, r, rfl, ⟨⟨dx, ho⟩, vs, hl, ht⟩, q⟩ := h
    refine ⟨_, pss_cons (ps_if (pt_val (pv 1)) (pss_one (ps_ret (pe_con N.OUT_OF_RANGE))) pss_nil)
      (pss_cons (ps_if (pt_cmpR op_eq (pe_callB call_len_seq (by rfl) N.len bt_len (pa_cons (pe_fld (pv 0) rfl) pa_nil)) pe_int (nomark _)) (pss_one (ps_ret (pe_con N.NONE_THERE))) pss_nil) (pss_one (ps_ret pe_int))), ?_⟩
    have hlen := ht.len
    unfold refV at q
    refine ⟨_, rfl, _, rfl, ite2 (fun h1 => ?_) (fun h1 => ?_)⟩
    · rw [if_pos h1] at q
      exact q
    · rw [if_neg h1] at q
      refine ⟨_, rfl, o, C, dx, _, _, rfl, ho, T.cl, T.nR, fs_rows, l, vs, rfl, .inl (SqL.of hl), rfl, _, rfl, ite2 (fun h3 => ?_) (fun h3 => ?_)⟩
      · have h3 : V.int (vs.length : Int) = V.int 0 := of_decide_eq_true h3
        have h3 := V.int.inj h3
        have e : a.two = [] := List.length_eq_zero_iff.mp (by omega)
        rw [if_pos e] at q
        exact q
      · have e : ¬ a.two = [] := fun e => h3 (decide_eq_true (by rw [hlen, e]; rfl))
        rw [if_neg e] at q
        exact q
/-! ### expected -/
def spExp : Sp := fun vs H Q _ => ∃ (l : Addr) (d : List (Nat × Nat)) (x : Int), vs = [.ref l, .int x] ∧ Dem H l d ∧ DOk d ∧ d ≠ [] ∧ ∀ H' p, Same H H' → H p = none → H' p = some (.lst ((Su86.frac x (Su86.all d)).map V.int)) → Q (.ref p) H'
theorem scExp : FnScope ["demand", "counted"] ["demand", "counted"] (defScope (top 34)) := ⟨rfl, rfl, rfl, by decide +kernel, rfl, by decide +kernel, by decide +kernel⟩
theorem has_exp {f f1 f2 : Addr} (D : Def K mg "expected" (top 34) f) (GF : Has P w K mg base 2 "fraction" f1 ["above", "below"] spFrac) (GA : Has P w K mg base 1 "often_in_all" f2 ["demand"] spAll) : Has P w K mg base 3 "expected" f ["demand", "counted"] spExp := by
  refine has_of D scExp (fun _ _ _ _ _ _ us hl => match us, hl with | [_, _], _ => rfl) (fun vs H Q E h => ?_) (fun cdv A outer s H vs Q E hr h => ?_)
  · obtain ⟨l, d, x, rfl, _⟩ := h
    rfl
  · obtain ⟨l, d, x, rfl, hD, hd, hne, q⟩ := h
    have hr1 : Room 1 _ := hr.mono (by decide)
    refine ⟨_, pss_one (ps_ret (pe_callH GF hr (pa_cons (pv 1) (pa_cons (pe_callH GA hr1 (pa_cons (pv 0) pa_nil)) pa_nil)))), ?_⟩
    have h1 := all_le hd
    have h2 := all_pos hd hne
    refine ⟨_, rfl, _, rfl, l, d, rfl, hD, hd, fun H1 s1 => ⟨x, Su86.all d, rfl, h2, by omega, fun p hp => ?_⟩⟩
    exact q _ p (Same.upd_new s1 (s1.free hp)) (s1.free hp) upd_same
/-! ### gain_with -/
def spGW (C : Addr) : Sp := fun vs H Q _ => ∃ (o l0 l : Addr) (b : Bool) (a : Abs) (d : List (Nat × Nat)) (n : Nat), vs = [.ref o, .ref l, .int n] ∧ StoreAt C H o l0 b a ∧ POk a ∧ n ≤ 120 ∧ Dem H l d ∧ DOk d ∧
  ∀ H', Same H H' → Q (.int (a.gain d n)) H'
theorem scGW : FnScope ["store", "demand", "number"] ["store", "demand", "number"] (defScope (top 35)) := ⟨rfl, rfl, rfl, by decide +kernel, rfl, by decide +kernel, by decide +kernel⟩
theorem has_gw {f f1 C : Addr} (D : Def K mg "gain_with" (top 35) f) (T : Txt K mg C) (GG : Has P w K mg base 3 "gain_in_all" f1 ["demand", "number", "cost", "price", "back"] spGain) :
    Has P w K mg base 4 "gain_with" f ["store", "demand", "number"] (spGW C) := by
  refine has_of D scGW (fun _ _ _ _ _ _ us hl => match us, hl with | [_, _, _], _ => rfl) (fun vs H Q E h => ?_) (fun cdv A outer s H vs Q E hr h => ?_)
  · obtain ⟨o, l0, l, b, a, d, n, rfl, _⟩ := h
    rfl
  · obtain ⟨o, l0, l, b, a, d, n, rfl, ⟨⟨dx, ho⟩, hR⟩, ha, hn, hD, hd, q⟩ := h
    refine ⟨_, pss_one (ps_ret (pe_callH GG hr (pa_cons (pv 1) (pa_cons (pv 2) (pa_cons (pe_fld (pv 0) rfl) (pa_cons (pe_fld (pv 0) rfl) (pa_cons (pe_fld (pv 0) rfl) pa_nil))))))), ?_⟩
    exact ⟨_, rfl, _, rfl, _, rfl, o, C, dx, _, _, rfl, ho, T.cl, T.nC, fs_cost, _, rfl, o, C, dx, _, _, rfl, ho, T.cl, T.nP, fs_price, _, rfl, o, C, dx, _, _, rfl, ho, T.cl, T.nK, fs_back,
      l, d, n, a, rfl, hn, ha, hD, hd, q⟩
/-! ### best_now -/
def spBN (C : Addr) : Sp := fun vs H Q _ => ∃ (o l0 l : Addr) (b : Bool) (a : Abs) (d : List (Nat × Nat)), vs = [.ref o, .ref l] ∧ StoreAt C H o l0 b a ∧ POk a ∧ Dem H l d ∧ DOk d ∧
  ∀ H', Same H H' → Q (.int (a.best d : Nat)) H'
theorem scBN : FnScope ["store", "demand"] ["store", "demand"] (defScope (top 37)) := ⟨rfl, rfl, rfl, by decide +kernel, rfl, by decide +kernel, by decide +kernel⟩
theorem has_bn {f f1 C : Addr} (D : Def K mg "best_now" (top 37) f) (T : Txt K mg C) (GB : Has P w K mg base 4 "best_number" f1 ["demand", "cost", "price", "back"] spBest) :
    Has P w K mg base 5 "best_now" f ["store", "demand"] (spBN C) := by
  refine has_of D scBN (fun _ _ _ _ _ _ us hl => match us, hl with | [_, _], _ => rfl) (fun vs H Q E h => ?_) (fun cdv A outer s H vs Q E hr h => ?_)
  · obtain ⟨o, l0, l, b, a, d, rfl, _⟩ := h
    rfl
  · obtain ⟨o, l0, l, b, a, d, rfl, ⟨⟨dx, ho⟩, hR⟩, ha, hD, hd, q⟩ := h
    refine ⟨_, pss_one (ps_ret (pe_callH GB hr (pa_cons (pv 1) (pa_cons (pe_fld (pv 0) rfl) (pa_cons (pe_fld (pv 0) rfl) (pa_cons (pe_fld (pv 0) rfl) pa_nil)))))), ?_⟩
    exact ⟨_, rfl, _, rfl, o, C, dx, _, _, rfl, ho, T.cl, T.nC, fs_cost, _, rfl, o, C, dx, _, _, rfl, ho, T.cl, T.nP, fs_price, _, rfl, o, C, dx, _, _, rfl, ho, T.cl, T.nK, fs_back,
      l, d, a, rfl, ha, hD, hd, q⟩
/-! ### expected_gain -/
def spEG (C : Addr) : Sp := fun vs H Q _ => ∃ (o l0 l : Addr) (b : Bool) (a : Abs) (d : List (Nat × Nat)) (n : Nat), vs = [.ref o, .ref l, .int n] ∧ StoreAt C H o l0 b a ∧ POk a ∧ n ≤ 120 ∧ Dem H l d ∧ DOk d ∧ d ≠ [] ∧
  ∀ H' p, Same H H' → H p = none → H' p = some (.lst ((Su86.frac (a.gain d n) (Su86.all d)).map V.int)) → Q (.ref p) H'
theorem scEG : FnScope ["store", "demand", "number"] ["store", "demand", "number"] (defScope (top 36)) := ⟨rfl, rfl, rfl, by decide +kernel, rfl, by decide +kernel, by decide +kernel⟩
theorem has_eg {f f1 f2 C : Addr} (D : Def K mg "expected_gain" (top 36) f) (GE : Has P w K mg base 3 "expected" f1 ["demand", "counted"] spExp) (GW : Has P w K mg base 4 "gain_with" f2 ["store", "demand", "number"] (spGW C)) :
    Has P w K mg base 5 "expected_gain" f ["store", "demand", "number"] (spEG C) := by
  refine has_of D scEG (fun _ _ _ _ _ _ us hl => match us, hl with | [_, _, _], _ => rfl) (fun vs H Q E h => ?_) (fun cdv A outer s H vs Q E hr h => ?_)
  · obtain ⟨o, l0, l, b, a, d, n, rfl, _⟩ := h
    rfl
  · obtain ⟨o, l0, l, b, a, d, n, rfl, hS, ha, hn, hD, hd, hne, q⟩ := h
    have hr3 : Room 3 _ := hr.mono (by decide)
    refine ⟨_, pss_one (ps_ret (pe_callH GE hr3 (pa_cons (pv 1) (pa_cons (pe_callH GW hr (pa_cons (pv 0) (pa_cons (pv 1) (pa_cons (pv 2) pa_nil)))) pa_nil)))), ?_⟩
    refine ⟨_, rfl, _, rfl, _, rfl, _, rfl, o, l0, l, b, a, d, n, rfl, hS, ha, hn, hD, hd, fun H1 s1 => ?_⟩
    refine ⟨l, d, _, rfl, hD.same s1, hd, hne, fun H2 p s2 hp h2 => ?_⟩
    exact q H2 p (s1.trans s2) (s1.free hp) h2
end
end Pd
end
section
set_option Elab.async false
set_option linter.all false
set_option maxRecDepth 100000
set_option maxHeartbeats 2000000
namespace Pd
open PySem PySem.Spec PyProof.Rows L2
open Su86 (Abs)
def nums (l : List Nat) : List V := l.map fun (n : Nat) => V.int (n : Int)
def StAt (C : Addr) (H : Hp) (o l : Addr) : Option Abs → Prop
  | none => StoreAt C H o l false ⟨0, 0, 0, []⟩
  | some a => StoreAt C H o l true a ∧ AOk a
def Frame (H H' : Hp) (o l : Addr) : Prop := ∀ b u, H b = some u → b ≠ o → b ≠ l → H' b = some u
/-- behind a call: its answer, the store's new state, all else as it was -/
def After (C : Addr) (H H' : Hp) (o l : Addr) (s : Option Abs) (an : List Int) (v : V) : Prop :=
  ∃ p l', v = .ref p ∧ StAt C H' o l' s ∧ (l' = l ∨ H l' = none) ∧ Frame H H' o l ∧ H p = none ∧ p ≠ l' ∧ H' p = some (.lst (an.map V.int))
def spAt (C : Addr) (k : Nat) (ok : Option Abs → Prop) : Sp := fun vs H Q _ => ∃ (o l : Addr) (s : Option Abs) (c : Su86.Call), vs = .ref o :: nums (args c) ∧ code c = k ∧ ok s ∧ StAt C H o l s ∧
  ∀ v H', After C H H' o l (Su86.step s c).1 (ans (Su86.step s c).2) v → Q v H'
abbrev Begun (s : Option Abs) : Prop := ∃ a, s = some a
abbrev AnyS (_ : Option Abs) : Prop := True
theorem After.query {C : Addr} {H H' : Hp} {o l p : Addr} {a : Abs} {c : Su86.Call} {an : Su86.Ans} (hd : Su86.does a c = (a, an)) (hS : StoreAt C H o l true a) (hA : AOk a) (sm : Same H H') (hp : H p = none)
    (h' : H' p = some (.lst ((ans an).map V.int))) : After C H H' o l (Su86.step (some a) c).1 (ans (Su86.step (some a) c).2) (.ref p) := by
  have e : Su86.step (some a) c = (some a, an) := by
    show (some (Su86.does a c).1, (Su86.does a c).2) = _
    rw [hd]
  rw [e]
  obtain ⟨_, vs, hl, _⟩ := id hS
  exact ⟨p, l, rfl, ⟨hS.same sm, hA⟩, .inl rfl, fun b u h _ _ => sm b u h, hp, (ne_of_none hl hp).symm, h'⟩
theorem upd_none {H : Hp} {a b : Addr} {o : HO} (h : upd H a o b = none) : b ≠ a ∧ H b = none := by
  by_cases e : b = a
  · rw [e, upd_same] at h
    cases h
  · rw [upd_ne e] at h
    exact ⟨e, h⟩
theorem refV_cases (a : Abs) (r : Bool) : (r = true ∧ refV a r = -22) ∨ (r = false ∧ a.two = [] ∧ refV a r = -6) ∨ (r = false ∧ a.two ≠ [] ∧ refV a r = 0) := by
  unfold refV
  cases r with
  | true => exact .inl ⟨rfl, if_pos rfl⟩
  | false =>
    by_cases h2 : a.two = []
    · exact .inr (.inl ⟨rfl, h2, by rw [if_neg Bool.false_ne_true, if_pos h2]⟩)
    · exact .inr (.inr ⟨rfl, h2, by rw [if_neg Bool.false_ne_true, if_neg h2]⟩)
/-- a query that refuses as told -/
theorem does_ref {a : Abs} {p : Prop} [Decidable p] {an : Abs × Su86.Ans} (h : refV a (decide p) < 0) :
    (if p then (a, Su86.no (-22)) else if a.two = [] then (a, Su86.no (-6)) else an) = (a, Su86.no (refV a (decide p))) := by
  rcases refV_cases a (decide p) with ⟨h1, e⟩ | ⟨h1, h2, e⟩ | ⟨_, _, e⟩
  · rw [e, if_pos (of_decide_eq_true h1)]
  · rw [e, if_neg (of_decide_eq_false h1), if_pos h2]
  · rw [e] at h
    exact absurd h (by decide)
theorem does_ok {a : Abs} {p : Prop} [Decidable p] {an : Abs × Su86.Ans} (h : ¬ refV a (decide p) < 0) : a.two ≠ [] ∧ ¬ p ∧
    (if p then (a, Su86.no (-22)) else if a.two = [] then (a, Su86.no (-6)) else an) = an := by
  rcases refV_cases a (decide p) with ⟨h1, e⟩ | ⟨h1, h2, e⟩ | ⟨h1, h2, e⟩
  · rw [e] at h
    exact absurd (by decide) h
  · rw [e] at h
    exact absurd (by decide) h
  · exact ⟨h2, of_decide_eq_false h1, by rw [if_neg (of_decide_eq_false h1), if_neg h2]⟩
theorem does_ref0 {a : Abs} {an : Abs × Su86.Ans} (h : refV a false < 0) : (if a.two = [] then (a, Su86.no (-6)) else an) = (a, Su86.no (refV a false)) := by
  rcases refV_cases a false with ⟨h1, e⟩ | ⟨h1, h2, e⟩ | ⟨_, _, e⟩
  · cases h1
  · rw [e, if_pos h2]
  · rw [e] at h
    exact absurd h (by decide)
theorem does_ok0 {a : Abs} {an : Abs × Su86.Ans} (h : ¬ refV a false < 0) : a.two ≠ [] ∧ (if a.two = [] then (a, Su86.no (-6)) else an) = an := by
  rcases refV_cases a false with ⟨h1, e⟩ | ⟨h1, h2, e⟩ | ⟨h1, h2, e⟩
  · cases h1
  · rw [e] at h
    exact absurd (by decide) h
  · exact ⟨h2, by rw [if_neg h2]⟩
/-! ### out of range, as a value -/
section
variable {X : Cx} {i j u v : Nat} {a b c d : Expr} {p1 p2 p3 : Pos}
theorem pe_le {e : Expr} {t t' : TE} (h : PE X e t) (hi : ∀ σ H Q, t' σ H Q → t σ H Q) : PE X e t' := fun pins s σ H Q I z => h pins s σ H Q I (hi σ H Q z)
def tOut1 (i u : Nat) : TE := fun σ H Q => ∃ w : Nat, σ[i]? = some (some (.int w)) ∧ Q (.bl (decide (u < w))) H
theorem pe_out1 (ha : PE X a (tVar i)) (hb : PE X b (tC (.int (u : Nat)))) : PE X (.Compare a [.Gt] [b] p1) (tOut1 i u) := by
  refine pe_le (pe_cmpR op_gt ha hb (nomark _)) ?_
  rintro σ H Q ⟨w, e, q⟩
  refine ⟨_, e, _, _, rfl, rfl, ?_⟩
  have z : decide ((u : Int) < (w : Int)) = decide (u < w) := by
    rw [decide_eq_decide]
    omega
  rw [← z] at q
  exact q
def tOut2 (i j u v : Nat) : TE := fun σ H Q => ∃ w n : Nat, σ[i]? = some (some (.int w)) ∧ σ[j]? = some (some (.int n)) ∧ Q (.bl (decide (u < w ∨ v < n))) H
theorem pe_out2 (ha : PE X a (tVar i)) (hb : PE X b (tC (.int (u : Nat)))) (hc : PE X c (tVar j)) (hd : PE X d (tC (.int (v : Nat)))) :
    PE X (.BoolOp .Or [.Compare a [.Gt] [b] p1, .Compare c [.Gt] [d] p2] p3) (tOut2 i j u v) := by
  refine pe_le (pe_or (pe_cmpR op_gt ha hb (nomark _)) (pe_one (pe_cmpR op_gt hc hd (nomark _)))) ?_
  rintro σ H Q ⟨w, n, e1, e2, q⟩
  refine ⟨_, e1, _, _, rfl, rfl, _, rfl, ite2 (fun hb => ?_) (fun hb => ?_)⟩
  · have hb : (u : Int) < (w : Int) := of_decide_eq_true hb
    rw [decide_eq_true (show u < w ∨ v < n from .inl (by omega))] at q
    exact q
  · have hb : ¬ (u : Int) < (w : Int) := fun z => hb (decide_eq_true z)
    refine ⟨_, e2, _, _, rfl, rfl, ?_⟩
    have z : decide ((v : Int) < (n : Int)) = decide (u < w ∨ v < n) := by
      rw [decide_eq_decide]
      omega
    rw [← z] at q
    exact q
def tOut3 (i j u v : Nat) : TE := fun σ H Q => ∃ w n : Nat, σ[i]? = some (some (.int w)) ∧ σ[j]? = some (some (.int n)) ∧ Q (.bl (decide (u < w ∨ v ≤ n))) H
theorem pe_out3 (ha : PE X a (tVar i)) (hb : PE X b (tC (.int (u : Nat)))) (hc : PE X c (tVar j)) (hd : PE X d (tC (.int (v : Nat)))) :
    PE X (.BoolOp .Or [.Compare a [.Gt] [b] p1, .Compare c [.GtE] [d] p2] p3) (tOut3 i j u v) := by
  refine pe_le (pe_or (pe_cmpR op_gt ha hb (nomark _)) (pe_one (pe_cmpR op_ge hc hd (nomark _)))) ?_
  rintro σ H Q ⟨w, n, e1, e2, q⟩
  refine ⟨_, e1, _, _, rfl, rfl, _, rfl, ite2 (fun hb => ?_) (fun hb => ?_)⟩
  · have hb : (u : Int) < (w : Int) := of_decide_eq_true hb
    rw [decide_eq_true (show u < w ∨ v ≤ n from .inl (by omega))] at q
    exact q
  · have hb : ¬ (u : Int) < (w : Int) := fun z => hb (decide_eq_true z)
    refine ⟨_, e2, _, _, rfl, rfl, ?_⟩
    have z : decide ((v : Int) ≤ (n : Int)) = decide (u < w ∨ v ≤ n) := by
      rw [decide_eq_decide]
      omega
    rw [← z] at q
    exact q
end
theorem all_eq (a : Abs) (w : Nat) : Su86.all (ofRows a.two w) = Su86.all a.both := by
  rw [all_of, all_both]
theorem small_list {n : Nat} (h : n ≤ 1000) : n ≤ sizeLine := Nat.le_of_lt (small1000 h)
/-- what the defs of outlook and the helpers promise, at one place -/
structure Lib (P : Program) (w : World) (K : PySem.W.Frag) (mg : Str → Option Value) (base : Heap) (C : Addr) : Prop where
  N : Con1 mg
  T : Txt K mg C
  frac : ∃ f, Has P w K mg base 2 "fraction" f ["above", "below"] spFrac
  dem : ∃ f, Has P w K mg base 1 "demand_of" f ["rows", "of"] spDem
  all : ∃ f, Has P w K mg base 1 "often_in_all" f ["demand"] spAll
  up : ∃ f, Has P w K mg base 1 "often_up_to" f ["demand", "number"] spUp
  want : ∃ f, Has P w K mg base 1 "wanted_in_all" f ["demand"] spWant
  know : ∃ f, Has P w K mg base 2 "known_gain_in_all" f ["demand", "cost", "price"] spKnow
  met : ∃ f, Has P w K mg base 2 "never_more_often_met" f ["demand", "other"] spMet
  sold : ∃ f, Has P w K mg base 1 "sold_in_all" f ["demand", "number"] spSold
  left : ∃ f, Has P w K mg base 2 "left_in_all" f ["demand", "number"] spLeft
  lost : ∃ f, Has P w K mg base 1 "lost_in_all" f ["demand", "number"] spLost
  gain : ∃ f, Has P w K mg base 3 "gain_in_all" f ["demand", "number", "cost", "price", "back"] spGain
  best : ∃ f, Has P w K mg base 4 "best_number" f ["demand", "cost", "price", "back"] spBest
  crit : ∃ f, Has P w K mg base 2 "critical_number" f ["demand", "cost", "price", "back"] spCrit
  fit : ∃ f, Has P w K mg base 1 "prices_fit" f ["cost", "price", "back"] spFit
  row : ∃ f, Has P w K mg base 1 "row_fits" f ["here", "there", "often"] spRow
  rall : ∃ f, Has P w K mg base 1 "rows_in_all" f ["rows"] spRAll
  set : ∃ f, Has P w K mg base 1 "set_prices" f ["store", "cost", "price", "back"] (spSet C)
  ref : ∃ f, Has P w K mg base 1 "refusal" f ["store", "out_of_range"] (spRef C)
  exp : ∃ f, Has P w K mg base 3 "expected" f ["demand", "counted"] spExp
  gw : ∃ f, Has P w K mg base 4 "gain_with" f ["store", "demand", "number"] (spGW C)
  bn : ∃ f, Has P w K mg base 5 "best_now" f ["store", "demand"] (spBN C)
  eg : ∃ f, Has P w K mg base 5 "expected_gain" f ["store", "demand", "number"] (spEG C)
section
variable {P : Program} {w : World} {K : PySem.W.Frag} {mg : Str → Option Value} {base : Heap}
/-! ### gain -/
theorem scG : FnScope ["store", "of", "number", "refused"] ["store", "of", "number"] (defScope (top 42)) := ⟨rfl, rfl, rfl, by decide +kernel, rfl, by decide +kernel, by decide +kernel⟩
theorem has_g {f C : Addr} (D : Def K mg "gain" (top 42) f) (L : Lib P w K mg base C) : Has P w K mg base 6 "gain" f ["store", "of", "number"] (spAt C 4 Begun) := by
  obtain ⟨_, GR⟩ := L.ref
  obtain ⟨_, GD⟩ := L.dem
  obtain ⟨_, GE⟩ := L.eg
  have T := L.T
  refine has_of D scG (fun _ _ _ _ _ _ us hl => match us, hl with | [_, _, _], _ => rfl) (fun vs H Q E h => ?_) (fun cdv A outer s H vs Q E hr h => ?_)
  · obtain ⟨o, l, s, c, rfl, hc, _⟩ := h
    cases c <;> cases hc
    rfl
  · obtain ⟨o, l, s, c, rfl, hc, ⟨a, rfl⟩, ⟨hS, hA⟩, q⟩ := h
    cases c <;> cases hc
    rename_i wn n
    have hr1 : Room 1 _ := hr.mono (by decide)
    refine ⟨_, pss_cons (ps_set (i := 3) scG.nd rfl (Or.inl rfl) (pe_callH GR hr1 (pa_cons (pv 0) (pa_cons (pe_out2 (u := 2) (v := 60) (pv 1) (pe_con L.N.BOTH) (pv 2) (pe_con L.N.MOST_BOUGHT)) pa_nil))))
      (pss_cons (ps_if (pt_cmpR op_lt (pv 3) pe_int (nomark _)) (pss_one (ps_ret (pe_lst (pa_cons (pv 3) pa_nil)))) pss_nil)
      (pss_one (ps_ret (pe_op op_cat (pe_lst (pa_cons pe_int pa_nil)) (pe_callH GE hr (pa_cons (pv 0) (pa_cons (pe_callH GD hr1 (pa_cons (pe_fld (pv 0) rfl) (pa_cons (pv 1) pa_nil))) (pa_cons (pv 2) pa_nil)))))))), ?_⟩
    refine ⟨_, rfl, wn, n, rfl, rfl, o, l, true, a, _, rfl, hS, ?_⟩
    refine ⟨_, rfl, _, _, rfl, rfl, _, rfl, ite2 (fun hb => ?_) (fun hb => ?_)⟩
    · refine ⟨_, rfl, small_list (by simp), fun p hp => q _ _ (After.query (does_ref (p := 2 < wn ∨ 60 < n) (of_decide_eq_true hb)) hS hA (Same.new hp) hp upd_same)⟩
    · obtain ⟨hne, hout, hdo⟩ := does_ok (p := 2 < wn ∨ 60 < n) (an := (a, Su86.num 0 (Su86.frac (a.gain (a.of wn) n) (Su86.all a.both)))) (fun z => hb (decide_eq_true z))
      refine ⟨small_list (by simp), fun p1 hp1 => ?_⟩
      have s1 : Same H (upd H p1 (.lst [.int 0])) := Same.new hp1
      obtain ⟨⟨dx, ho⟩, hR⟩ := hS.same s1
      refine ⟨_, rfl, _, rfl, o, C, dx, _, _, rfl, ho, T.cl, T.nR, fs_rows, _, rfl, l, a.two, wn, rfl, hR, hA.len, fun H2 pd hpd s2 hDem => ?_⟩
      refine ⟨_, rfl, o, l, pd, true, a, _, n, rfl, (hS.same s1).same s2, hA.pok, by omega, hDem, hA.dok wn, ofRows_ne hne wn, fun H3 p3 s3 hp3 h3 => ?_⟩
      refine ⟨p1, p3, _, _, rfl, rfl, s3 _ _ (s2 _ _ upd_same), h3, ?_, fun p hp => q _ _ (After.query hdo hS hA (Same.trans (s1.trans (s2.trans s3)) (Same.new hp)) ((s1.trans (s2.trans s3)).free hp) ?_)⟩
      · rw [List.length_map, frac_len]
        exact small_list (by simp)
      · rw [upd_same, all_eq]
        rfl
/-! ### best -/
theorem scB : FnScope ["store", "of", "refused", "demand", "number"] ["store", "of"] (defScope (top 43)) := ⟨rfl, rfl, rfl, by decide +kernel, rfl, by decide +kernel, by decide +kernel⟩
theorem has_b {f C : Addr} (D : Def K mg "best" (top 43) f) (L : Lib P w K mg base C) : Has P w K mg base 6 "best" f ["store", "of"] (spAt C 5 Begun) := by
  obtain ⟨_, GR⟩ := L.ref
  obtain ⟨_, GD⟩ := L.dem
  obtain ⟨_, GE⟩ := L.eg
  obtain ⟨_, GB⟩ := L.bn
  have T := L.T
  refine has_of D scB (fun _ _ _ _ _ _ us hl => match us, hl with | [_, _], _ => rfl) (fun vs H Q E h => ?_) (fun cdv A outer s H vs Q E hr h => ?_)
  · obtain ⟨o, l, s, c, rfl, hc, _⟩ := h
    cases c <;> cases hc
    rfl
  · obtain ⟨o, l, s, c, rfl, hc, ⟨a, rfl⟩, ⟨hS, hA⟩, q⟩ := h
    cases c <;> cases hc
    rename_i wn
    have hr1 : Room 1 _ := hr.mono (by decide)
    refine ⟨_, pss_cons (ps_set (i := 2) scB.nd rfl (Or.inl rfl) (pe_callH GR hr1 (pa_cons (pv 0) (pa_cons (pe_out1 (u := 2) (pv 1) (pe_con L.N.BOTH)) pa_nil))))
      (pss_cons (ps_if (pt_cmpR op_lt (pv 2) pe_int (nomark _)) (pss_one (ps_ret (pe_lst (pa_cons (pv 2) pa_nil)))) pss_nil)
      (pss_cons (ps_set (i := 3) scB.nd rfl (Or.inl rfl) (pe_callH GD hr1 (pa_cons (pe_fld (pv 0) rfl) (pa_cons (pv 1) pa_nil))))
      (pss_cons (ps_set (i := 4) scB.nd rfl (Or.inl rfl) (pe_callH GB hr (pa_cons (pv 0) (pa_cons (pv 3) pa_nil))))
      (pss_one (ps_ret (pe_op op_cat (pe_lst (pa_cons (pv 4) pa_nil)) (pe_callH GE hr (pa_cons (pv 0) (pa_cons (pv 3) (pa_cons (pv 4) pa_nil)))))))))), ?_⟩
    refine ⟨_, rfl, wn, rfl, o, l, true, a, _, rfl, hS, ?_⟩
    refine ⟨_, rfl, _, _, rfl, rfl, _, rfl, ite2 (fun hb => ?_) (fun hb => ?_)⟩
    · refine ⟨_, rfl, small_list (by simp), fun p hp => q _ _ (After.query (does_ref (p := 2 < wn) (of_decide_eq_true hb)) hS hA (Same.new hp) hp upd_same)⟩
    · obtain ⟨hne, hout, hdo⟩ := does_ok (p := 2 < wn) (an := (a, Su86.num (a.best (a.of wn)) (Su86.frac (a.gain (a.of wn) (a.best (a.of wn))) (Su86.all a.both)))) (fun z => hb (decide_eq_true z))
      obtain ⟨⟨dx, ho⟩, hR⟩ := id hS
      refine ⟨_, rfl, o, C, dx, _, _, rfl, ho, T.cl, T.nR, fs_rows, _, rfl, l, a.two, wn, rfl, hR, hA.len, fun H1 pd hpd s1 hDem => ?_⟩
      refine ⟨_, rfl, _, rfl, o, l, pd, true, a, _, rfl, hS.same s1, hA.pok, hDem, hA.dok wn, fun H2 s2 => ?_⟩
      refine ⟨_, rfl, small_list (by simp), fun p1 hp1 => ?_⟩
      have s3 : Same H2 (upd H2 p1 (.lst [.int (a.best (ofRows a.two wn) : Nat)])) := Same.new hp1
      refine ⟨_, rfl, _, rfl, _, rfl, o, l, pd, true, a, _, _, rfl, hS.same (s1.trans (s2.trans s3)), hA.pok, Nat.le_trans (best_le _ _) (by decide), hDem.same (s2.trans s3), hA.dok wn, ofRows_ne hne wn, fun H4 p4 s4 hp4 h4 => ?_⟩
      have sall := s1.trans (s2.trans (s3.trans s4))
      refine ⟨p1, p4, _, _, rfl, rfl, s4 _ _ upd_same, h4, ?_, fun p hp => q _ _ (After.query hdo hS hA (sall.trans (Same.new hp)) (sall.free hp) ?_)⟩
      · rw [List.length_map, frac_len]
        exact small_list (by simp)
      · rw [upd_same, all_eq]
        rfl
/-! ### critical -/
theorem scC : FnScope ["store", "of", "refused", "demand", "number"] ["store", "of"] (defScope (top 44)) := ⟨rfl, rfl, rfl, by decide +kernel, rfl, by decide +kernel, by decide +kernel⟩
theorem has_c {f C : Addr} (D : Def K mg "critical" (top 44) f) (L : Lib P w K mg base C) : Has P w K mg base 6 "critical" f ["store", "of"] (spAt C 6 Begun) := by
  obtain ⟨_, GR⟩ := L.ref
  obtain ⟨_, GD⟩ := L.dem
  obtain ⟨_, GC⟩ := L.crit
  obtain ⟨_, GU⟩ := L.up
  obtain ⟨_, GA⟩ := L.all
  have T := L.T
  refine has_of D scC (fun _ _ _ _ _ _ us hl => match us, hl with | [_, _], _ => rfl) (fun vs H Q E h => ?_) (fun cdv A outer s H vs Q E hr h => ?_)
  · obtain ⟨o, l, s, c, rfl, hc, _⟩ := h
    cases c <;> cases hc
    rfl
  · obtain ⟨o, l, s, c, rfl, hc, ⟨a, rfl⟩, ⟨hS, hA⟩, q⟩ := h
    cases c <;> cases hc
    rename_i wn
    have hr1 : Room 1 _ := hr.mono (by decide)
    have hr2 : Room 2 _ := hr.mono (by decide)
    refine ⟨_, pss_cons (ps_set (i := 2) scC.nd rfl (Or.inl rfl) (pe_callH GR hr1 (pa_cons (pv 0) (pa_cons (pe_out1 (u := 2) (pv 1) (pe_con L.N.BOTH)) pa_nil))))
      (pss_cons (ps_if (pt_cmpR op_lt (pv 2) pe_int (nomark _)) (pss_one (ps_ret (pe_lst (pa_cons (pv 2) pa_nil)))) pss_nil)
      (pss_cons (ps_set (i := 3) scC.nd rfl (Or.inl rfl) (pe_callH GD hr1 (pa_cons (pe_fld (pv 0) rfl) (pa_cons (pv 1) pa_nil))))
      (pss_cons (ps_set (i := 4) scC.nd rfl (Or.inl rfl) (pe_callH GC hr2 (pa_cons (pv 3) (pa_cons (pe_fld (pv 0) rfl) (pa_cons (pe_fld (pv 0) rfl) (pa_cons (pe_fld (pv 0) rfl) pa_nil))))))
      (pss_one (ps_ret (pe_lst (pa_cons (pv 4) (pa_cons (pe_callH GU hr1 (pa_cons (pv 3) (pa_cons (pv 4) pa_nil))) (pa_cons (pe_callH GA hr1 (pa_cons (pv 3) pa_nil)) pa_nil))))))))), ?_⟩
    refine ⟨_, rfl, wn, rfl, o, l, true, a, _, rfl, hS, ?_⟩
    refine ⟨_, rfl, _, _, rfl, rfl, _, rfl, ite2 (fun hb => ?_) (fun hb => ?_)⟩
    · refine ⟨_, rfl, small_list (by simp), fun p hp => q _ _ (After.query (does_ref (p := 2 < wn) (of_decide_eq_true hb)) hS hA (Same.new hp) hp upd_same)⟩
    · obtain ⟨hne, hout, hdo⟩ := does_ok (p := 2 < wn) (an := (a, Su86.num (a.critical (a.of wn)) [Su86.nat (Su86.upTo (a.of wn) (a.critical (a.of wn))), Su86.nat (Su86.all a.both)])) (fun z => hb (decide_eq_true z))
      obtain ⟨⟨dx, ho⟩, hR⟩ := id hS
      refine ⟨_, rfl, o, C, dx, _, _, rfl, ho, T.cl, T.nR, fs_rows, _, rfl, l, a.two, wn, rfl, hR, hA.len, fun H1 pd hpd s1 hDem => ?_⟩
      refine ⟨_, rfl, _, rfl, o, C, dx, _, _, rfl, s1 _ _ ho, T.cl, T.nC, fs_cost, _, rfl, o, C, dx, _, _, rfl, s1 _ _ ho, T.cl, T.nP, fs_price, _, rfl, o, C, dx, _, _, rfl, s1 _ _ ho, T.cl, T.nK, fs_back,
        pd, _, a, rfl, hA.pok, hDem, hA.dok wn, fun H2 s2 => ?_⟩
      refine ⟨_, rfl, _, rfl, _, rfl, pd, _, _, rfl, hDem.same s2, hA.dok wn, fun H3 s3 => ?_⟩
      refine ⟨_, rfl, pd, _, rfl, hDem.same (s2.trans s3), hA.dok wn, fun H4 s4 => ?_⟩
      have sall := s1.trans (s2.trans (s3.trans s4))
      refine ⟨small_list (by simp), fun p hp => q _ _ (After.query hdo hS hA (sall.trans (Same.new hp)) (sall.free hp) ?_)⟩
      rw [upd_same, ← all_eq a wn]
      rfl
/-! ### share -/
theorem scSh : FnScope ["store"] ["store"] (defScope (top 45)) := ⟨rfl, rfl, rfl, by decide +kernel, rfl, by decide +kernel, by decide +kernel⟩
theorem has_sh {f C : Addr} (D : Def K mg "share" (top 45) f) (L : Lib P w K mg base C) : Has P w K mg base 6 "share" f ["store"] (spAt C 7 Begun) := by
  obtain ⟨_, GF⟩ := L.frac
  have T := L.T
  refine has_of D scSh (fun _ _ _ _ _ _ us hl => match us, hl with | [_], _ => rfl) (fun vs H Q E h => ?_) (fun cdv A outer s H vs Q E hr h => ?_)
  · obtain ⟨o, l, s, c, rfl, hc, _⟩ := h
    cases c <;> cases hc
    rfl
  · obtain ⟨o, l, s, c, rfl, hc, ⟨a, rfl⟩, ⟨hS, hA⟩, q⟩ := h
    cases c <;> cases hc
    have hr2 : Room 2 _ := hr.mono (by decide)
    refine ⟨_, pss_one (ps_ret (pe_op op_cat (pe_lst (pa_cons pe_int pa_nil)) (pe_callH GF hr2 (pa_cons (pe_op op_sub (pe_fld (pv 0) rfl) (pe_fld (pv 0) rfl)) (pa_cons (pe_op op_sub (pe_fld (pv 0) rfl) (pe_fld (pv 0) rfl)) pa_nil))))), ?_⟩
    refine ⟨small_list (by simp), fun p1 hp1 => ?_⟩
    have s1 : Same H (upd H p1 (.lst [.int 0])) := Same.new hp1
    obtain ⟨⟨dx, ho⟩, hR⟩ := hS.same s1
    have h1 := hA.cp
    have h2 := hA.bp
    have h3 := hA.p
    have e1 : (a.price : Int) - (a.cost : Int) = ((a.price - a.cost : Nat) : Int) := by omega
    have e2 : (a.price : Int) - (a.back : Int) = ((a.price - a.back : Nat) : Int) := by omega
    refine ⟨_, rfl, o, C, dx, _, _, rfl, ho, T.cl, T.nP, fs_price, _, rfl, o, C, dx, _, _, rfl, ho, T.cl, T.nC, fs_cost, _, _, rfl, rfl, _, rfl, o, C, dx, _, _, rfl, ho, T.cl, T.nP, fs_price, _, rfl, o, C, dx, _, _, rfl, ho, T.cl, T.nK, fs_back, _, _, rfl, rfl,
      ((a.price - a.cost : Nat) : Int), a.price - a.back, (by rw [← e1, ← e2]; rfl), by omega, by omega, fun p3 hp3 => ?_⟩
    have s3 : Same (upd H p1 (.lst [.int 0])) (upd (upd H p1 (.lst [.int 0])) p3 (.lst ((Su86.frac ((a.price - a.cost : Nat) : Int) (a.price - a.back)).map V.int))) := Same.new hp3
    have sall := s1.trans s3
    refine ⟨p1, p3, _, _, rfl, rfl, s3 _ _ upd_same, upd_same, ?_, fun p hp => q _ _ (After.query rfl hS hA (sall.trans (Same.new hp)) (sall.free hp) ?_)⟩
    · rw [List.length_map, frac_len]
      exact small_list (by simp)
    · rw [upd_same]
      rfl
end
end Pd
end
section
set_option Elab.async false
set_option linter.all false
set_option maxRecDepth 100000
set_option maxHeartbeats 2000000
namespace Pd
open PySem PySem.Spec PyProof.Rows L2
open Su86 (Abs)
section
variable {P : Program} {w : World} {K : PySem.W.Frag} {mg : Str → Option Value} {base : Heap}
/-! ### sold -/
theorem scS : FnScope ["store", "of", "number", "refused", "demand", "told_sold", "told_left"] ["store", "of", "number"] (defScope (top 46)) := ⟨rfl, rfl, rfl, by decide +kernel, rfl, by decide +kernel, by decide +kernel⟩
theorem has_s {f C : Addr} (D : Def K mg "sold" (top 46) f) (L : Lib P w K mg base C) : Has P w K mg base 6 "sold" f ["store", "of", "number"] (spAt C 8 Begun) := by
  obtain ⟨_, GR⟩ := L.ref
  obtain ⟨_, GD⟩ := L.dem
  obtain ⟨_, GE⟩ := L.exp
  obtain ⟨_, GS⟩ := L.sold
  obtain ⟨_, GL⟩ := L.left
  have T := L.T
  refine has_of D scS (fun _ _ _ _ _ _ us hl => match us, hl with | [_, _, _], _ => rfl) (fun vs H Q E h => ?_) (fun cdv A outer s H vs Q E hr h => ?_)
  · obtain ⟨o, l, s, c, rfl, hc, _⟩ := h
    cases c <;> cases hc
    rfl
  · obtain ⟨o, l, s, c, rfl, hc, ⟨a, rfl⟩, ⟨hS, hA⟩, q⟩ := h
    cases c <;> cases hc
    rename_i wn n
    have hr1 : Room 1 _ := hr.mono (by decide)
    have hr2 : Room 2 _ := hr.mono (by decide)
    have hr3 : Room 3 _ := hr.mono (by decide)
    refine ⟨_, pss_cons (ps_set (i := 3) scS.nd rfl (Or.inl rfl) (pe_callH GR hr1 (pa_cons (pv 0) (pa_cons (pe_out2 (u := 2) (v := 60) (pv 1) (pe_con L.N.BOTH) (pv 2) (pe_con L.N.MOST_BOUGHT)) pa_nil))))
      (pss_cons (ps_if (pt_cmpR op_lt (pv 3) pe_int (nomark _)) (pss_one (ps_ret (pe_lst (pa_cons (pv 3) pa_nil)))) pss_nil)
      (pss_cons (ps_set (i := 4) scS.nd rfl (Or.inl rfl) (pe_callH GD hr1 (pa_cons (pe_fld (pv 0) rfl) (pa_cons (pv 1) pa_nil))))
      (pss_cons (ps_set (i := 5) scS.nd rfl (Or.inl rfl) (pe_callH GE hr3 (pa_cons (pv 4) (pa_cons (pe_callH GS hr1 (pa_cons (pv 4) (pa_cons (pv 2) pa_nil))) pa_nil))))
      (pss_cons (ps_set (i := 6) scS.nd rfl (Or.inl rfl) (pe_callH GE hr3 (pa_cons (pv 4) (pa_cons (pe_callH GL hr2 (pa_cons (pv 4) (pa_cons (pv 2) pa_nil))) pa_nil))))
      (pss_one (ps_ret (pe_op op_cat (pe_op op_cat (pe_lst (pa_cons pe_int pa_nil)) (pv 5)) (pv 6)))))))), ?_⟩
    refine ⟨_, rfl, wn, n, rfl, rfl, o, l, true, a, _, rfl, hS, ?_⟩
    refine ⟨_, rfl, _, _, rfl, rfl, _, rfl, ite2 (fun hb => ?_) (fun hb => ?_)⟩
    · refine ⟨_, rfl, small_list (by simp), fun p hp => q _ _ (After.query (does_ref (p := 2 < wn ∨ 60 < n) (of_decide_eq_true hb)) hS hA (Same.new hp) hp upd_same)⟩
    · obtain ⟨hne, hout, hdo⟩ := does_ok (p := 2 < wn ∨ 60 < n) (an := (a, Su86.num 0 (Su86.frac (Su86.nat (Su86.sold (a.of wn) n)) (Su86.all a.both) ++ Su86.frac (Su86.nat (Su86.left (a.of wn) n)) (Su86.all a.both)))) (fun z => hb (decide_eq_true z))
      obtain ⟨⟨dx, ho⟩, hR⟩ := id hS
      refine ⟨_, rfl, o, C, dx, _, _, rfl, ho, T.cl, T.nR, fs_rows, _, rfl, l, a.two, wn, rfl, hR, hA.len, fun H1 pd hpd s1 hDem => ?_⟩
      refine ⟨_, rfl, _, rfl, _, rfl, pd, _, n, rfl, by omega, hDem, hA.dok wn, fun H2 s2 => ?_⟩
      refine ⟨pd, _, _, rfl, hDem.same s2, hA.dok wn, ofRows_ne hne wn, fun H3 p3 s3 hp3 h3 => ?_⟩
      refine ⟨_, rfl, _, rfl, _, rfl, pd, _, n, rfl, by omega, hDem.same (s2.trans s3), hA.dok wn, fun H4 s4 => ?_⟩
      refine ⟨pd, _, _, rfl, hDem.same (s2.trans (s3.trans s4)), hA.dok wn, ofRows_ne hne wn, fun H5 p5 s5 hp5 h5 => ?_⟩
      refine ⟨small_list (by simp), fun p6 hp6 => ?_⟩
      have s6 : Same H5 (upd H5 p6 (.lst [.int 0])) := Same.new hp6
      refine ⟨_, rfl, p6, p3, _, _, rfl, rfl, upd_same, s6 _ _ (s5 _ _ (s4 _ _ h3)), ?_, fun p7 hp7 => ?_⟩
      · rw [List.length_map, frac_len]
        exact small_list (by simp)
      have s7 : Same (upd H5 p6 (.lst [.int 0])) (upd (upd H5 p6 (.lst [.int 0])) p7 (.lst ([.int 0] ++ (Su86.frac ((Su86.sold (ofRows a.two wn) n : Nat) : Int) (Su86.all (ofRows a.two wn))).map V.int))) := Same.new hp7
      have sall := s1.trans (s2.trans (s3.trans (s4.trans (s5.trans (s6.trans s7)))))
      refine ⟨_, rfl, p7, p5, _, _, rfl, rfl, upd_same, s7 _ _ (s6 _ _ h5), ?_, fun p hp => q _ _ (After.query hdo hS hA (sall.trans (Same.new hp)) (sall.free hp) ?_)⟩
      · rw [List.length_append, List.length_map, List.length_map, frac_len, frac_len]
        exact small_list (by simp)
      · rw [upd_same, all_eq, List.append_assoc, ← List.map_append]
        rfl
/-! ### lost -/
theorem scL : FnScope ["store", "of", "number", "refused", "demand"] ["store", "of", "number"] (defScope (top 47)) := ⟨rfl, rfl, rfl, by decide +kernel, rfl, by decide +kernel, by decide +kernel⟩
theorem has_l {f C : Addr} (D : Def K mg "lost" (top 47) f) (L : Lib P w K mg base C) : Has P w K mg base 6 "lost" f ["store", "of", "number"] (spAt C 9 Begun) := by
  obtain ⟨_, GR⟩ := L.ref
  obtain ⟨_, GD⟩ := L.dem
  obtain ⟨_, GE⟩ := L.exp
  obtain ⟨_, GL⟩ := L.lost
  have T := L.T
  refine has_of D scL (fun _ _ _ _ _ _ us hl => match us, hl with | [_, _, _], _ => rfl) (fun vs H Q E h => ?_) (fun cdv A outer s H vs Q E hr h => ?_)
  · obtain ⟨o, l, s, c, rfl, hc, _⟩ := h
    cases c <;> cases hc
    rfl
  · obtain ⟨o, l, s, c, rfl, hc, ⟨a, rfl⟩, ⟨hS, hA⟩, q⟩ := h
    cases c <;> cases hc
    rename_i wn n
    have hr1 : Room 1 _ := hr.mono (by decide)
    have hr3 : Room 3 _ := hr.mono (by decide)
    refine ⟨_, pss_cons (ps_set (i := 3) scL.nd rfl (Or.inl rfl) (pe_callH GR hr1 (pa_cons (pv 0) (pa_cons (pe_out2 (u := 2) (v := 60) (pv 1) (pe_con L.N.BOTH) (pv 2) (pe_con L.N.MOST_BOUGHT)) pa_nil))))
      (pss_cons (ps_if (pt_cmpR op_lt (pv 3) pe_int (nomark _)) (pss_one (ps_ret (pe_lst (pa_cons (pv 3) pa_nil)))) pss_nil)
      (pss_cons (ps_set (i := 4) scL.nd rfl (Or.inl rfl) (pe_callH GD hr1 (pa_cons (pe_fld (pv 0) rfl) (pa_cons (pv 1) pa_nil))))
      (pss_one (ps_ret (pe_op op_cat (pe_lst (pa_cons pe_int pa_nil)) (pe_callH GE hr3 (pa_cons (pv 4) (pa_cons (pe_callH GL hr1 (pa_cons (pv 4) (pa_cons (pv 2) pa_nil))) pa_nil)))))))), ?_⟩
    refine ⟨_, rfl, wn, n, rfl, rfl, o, l, true, a, _, rfl, hS, ?_⟩
    refine ⟨_, rfl, _, _, rfl, rfl, _, rfl, ite2 (fun hb => ?_) (fun hb => ?_)⟩
    · refine ⟨_, rfl, small_list (by simp), fun p hp => q _ _ (After.query (does_ref (p := 2 < wn ∨ 60 < n) (of_decide_eq_true hb)) hS hA (Same.new hp) hp upd_same)⟩
    · obtain ⟨hne, hout, hdo⟩ := does_ok (p := 2 < wn ∨ 60 < n) (an := (a, Su86.num 0 (Su86.frac (Su86.nat (Su86.lost (a.of wn) n)) (Su86.all a.both)))) (fun z => hb (decide_eq_true z))
      obtain ⟨⟨dx, ho⟩, hR⟩ := id hS
      refine ⟨_, rfl, o, C, dx, _, _, rfl, ho, T.cl, T.nR, fs_rows, _, rfl, l, a.two, wn, rfl, hR, hA.len, fun H1 pd hpd s1 hDem => ?_⟩
      refine ⟨small_list (by simp), fun p1 hp1 => ?_⟩
      have s2 : Same H1 (upd H1 p1 (.lst [.int 0])) := Same.new hp1
      refine ⟨_, rfl, _, rfl, _, rfl, pd, _, n, rfl, hDem.same s2, hA.dok wn, fun H3 s3 => ?_⟩
      refine ⟨pd, _, _, rfl, hDem.same (s2.trans s3), hA.dok wn, ofRows_ne hne wn, fun H4 p4 s4 hp4 h4 => ?_⟩
      have sall := s1.trans (s2.trans (s3.trans s4))
      refine ⟨p1, p4, _, _, rfl, rfl, s4 _ _ (s3 _ _ upd_same), h4, ?_, fun p hp => q _ _ (After.query hdo hS hA (sall.trans (Same.new hp)) (sall.free hp) ?_)⟩
      · rw [List.length_map, frac_len]
        exact small_list (by simp)
      · rw [upd_same, all_eq]
        rfl
/-! ### upto -/
theorem scU : FnScope ["store", "of", "number", "refused", "demand"] ["store", "of", "number"] (defScope (top 48)) := ⟨rfl, rfl, rfl, by decide +kernel, rfl, by decide +kernel, by decide +kernel⟩
theorem has_u {f C : Addr} (D : Def K mg "upto" (top 48) f) (L : Lib P w K mg base C) : Has P w K mg base 6 "upto" f ["store", "of", "number"] (spAt C 10 Begun) := by
  obtain ⟨_, GR⟩ := L.ref
  obtain ⟨_, GD⟩ := L.dem
  obtain ⟨_, GU⟩ := L.up
  obtain ⟨_, GA⟩ := L.all
  have T := L.T
  refine has_of D scU (fun _ _ _ _ _ _ us hl => match us, hl with | [_, _, _], _ => rfl) (fun vs H Q E h => ?_) (fun cdv A outer s H vs Q E hr h => ?_)
  · obtain ⟨o, l, s, c, rfl, hc, _⟩ := h
    cases c <;> cases hc
    rfl
  · obtain ⟨o, l, s, c, rfl, hc, ⟨a, rfl⟩, ⟨hS, hA⟩, q⟩ := h
    cases c <;> cases hc
    rename_i wn n
    have hr1 : Room 1 _ := hr.mono (by decide)
    refine ⟨_, pss_cons (ps_set (i := 3) scU.nd rfl (Or.inl rfl) (pe_callH GR hr1 (pa_cons (pv 0) (pa_cons (pe_out2 (u := 2) (v := 60) (pv 1) (pe_con L.N.BOTH) (pv 2) (pe_con L.N.MOST_BOUGHT)) pa_nil))))
      (pss_cons (ps_if (pt_cmpR op_lt (pv 3) pe_int (nomark _)) (pss_one (ps_ret (pe_lst (pa_cons (pv 3) pa_nil)))) pss_nil)
      (pss_cons (ps_set (i := 4) scU.nd rfl (Or.inl rfl) (pe_callH GD hr1 (pa_cons (pe_fld (pv 0) rfl) (pa_cons (pv 1) pa_nil))))
      (pss_one (ps_ret (pe_lst (pa_cons (pe_callH GU hr1 (pa_cons (pv 4) (pa_cons (pv 2) pa_nil))) (pa_cons (pe_callH GA hr1 (pa_cons (pv 4) pa_nil)) pa_nil))))))), ?_⟩
    refine ⟨_, rfl, wn, n, rfl, rfl, o, l, true, a, _, rfl, hS, ?_⟩
    refine ⟨_, rfl, _, _, rfl, rfl, _, rfl, ite2 (fun hb => ?_) (fun hb => ?_)⟩
    · refine ⟨_, rfl, small_list (by simp), fun p hp => q _ _ (After.query (does_ref (p := 2 < wn ∨ 60 < n) (of_decide_eq_true hb)) hS hA (Same.new hp) hp upd_same)⟩
    · obtain ⟨hne, hout, hdo⟩ := does_ok (p := 2 < wn ∨ 60 < n) (an := (a, Su86.num (Su86.upTo (a.of wn) n) [Su86.nat (Su86.all a.both)])) (fun z => hb (decide_eq_true z))
      obtain ⟨⟨dx, ho⟩, hR⟩ := id hS
      refine ⟨_, rfl, o, C, dx, _, _, rfl, ho, T.cl, T.nR, fs_rows, _, rfl, l, a.two, wn, rfl, hR, hA.len, fun H1 pd hpd s1 hDem => ?_⟩
      refine ⟨_, rfl, _, rfl, pd, _, n, rfl, hDem, hA.dok wn, fun H2 s2 => ?_⟩
      refine ⟨_, rfl, pd, _, rfl, hDem.same s2, hA.dok wn, fun H3 s3 => ?_⟩
      have sall := s1.trans (s2.trans s3)
      refine ⟨small_list (by simp), fun p hp => q _ _ (After.query hdo hS hA (sall.trans (Same.new hp)) (sall.free hp) ?_)⟩
      rw [upd_same, ← all_eq a wn]
      rfl
/-! ### begin -/
theorem okC_ok {c p k : Nat} (h : Su86.okC c p k = true) : k ≤ c ∧ c ≤ p ∧ k < p ∧ p ≤ 1000 := by
  unfold Su86.okC at h
  simp at h
  exact h
theorem AOk.new {c p k : Nat} (h : Su86.okC c p k = true) : AOk (Su86.new c p k) := by
  obtain ⟨h1, h2, h3, h4⟩ := okC_ok h
  exact ⟨h1, h2, h3, h4, Nat.zero_le _, fun r hr => absurd hr (by show ¬ r ∈ []; simp)⟩
theorem step_begin_no {s : Option Abs} {c p k : Nat} (h : Su86.okC c p k = false) : Su86.step s (.begin_ c p k) = (s, Su86.no (-22)) := by
  have e : ∀ a : Abs, Su86.does a (.begin_ c p k) = (a, Su86.no (-22)) := fun a => if_pos h
  cases s with
  | none =>
    show (if (Su86.does (Su86.new 0 1 0) (.begin_ c p k)).2.value < 0 then none else some (Su86.does (Su86.new 0 1 0) (.begin_ c p k)).1, (Su86.does (Su86.new 0 1 0) (.begin_ c p k)).2) = _
    rw [e]
    rfl
  | some a =>
    show (some (Su86.does a (.begin_ c p k)).1, (Su86.does a (.begin_ c p k)).2) = _
    rw [e]
theorem step_begin_yes {s : Option Abs} {c p k : Nat} (h : Su86.okC c p k = true) : Su86.step s (.begin_ c p k) = (some (Su86.new c p k), Su86.no 0) := by
  have e : ∀ a : Abs, Su86.does a (.begin_ c p k) = (Su86.new c p k, Su86.no 0) := fun a => if_neg (by rw [h]; exact Bool.noConfusion)
  cases s with
  | none =>
    show (if (Su86.does (Su86.new 0 1 0) (.begin_ c p k)).2.value < 0 then none else some (Su86.does (Su86.new 0 1 0) (.begin_ c p k)).1, (Su86.does (Su86.new 0 1 0) (.begin_ c p k)).2) = _
    rw [e]
    rfl
  | some a =>
    show (some (Su86.does a (.begin_ c p k)).1, (Su86.does a (.begin_ c p k)).2) = _
    rw [e]
theorem StAt.store {C : Addr} {H : Hp} {o l : Addr} {s : Option Abs} (h : StAt C H o l s) : ∃ b a, StoreAt C H o l b a := by
  cases s with
  | none => exact ⟨_, _, h⟩
  | some a => exact ⟨_, _, h.1⟩
theorem StAt.same {C : Addr} {H H' : Hp} {o l : Addr} {s : Option Abs} (sm : Same H H') (h : StAt C H o l s) : StAt C H' o l s := by
  cases s with
  | none => exact StoreAt.same sm h
  | some a => exact ⟨h.1.same sm, h.2⟩
/-- a refusal, whatever the state -/
theorem After.refused {C : Addr} {H : Hp} {o l p : Addr} {s : Option Abs} {v : Int} (hS : StAt C H o l s) (hp : H p = none) : After C H (upd H p (.lst [.int v])) o l s [v] (.ref p) := by
  obtain ⟨b, a, _, vs, hl, _⟩ := hS.store
  have sm : Same H (upd H p (.lst [.int v])) := Same.new hp
  exact ⟨p, l, rfl, hS.same sm, .inl rfl, fun b u h _ _ => sm b u h, hp, (ne_of_none hl hp).symm, upd_same⟩
theorem scBg : FnScope ["store", "cost", "price", "back"] ["store", "cost", "price", "back"] (defScope (top 38)) := ⟨rfl, rfl, rfl, by decide +kernel, rfl, by decide +kernel, by decide +kernel⟩
theorem has_bg {f C : Addr} (D : Def K mg "begin" (top 38) f) (L : Lib P w K mg base C) : Has P w K mg base 6 "begin" f ["store", "cost", "price", "back"] (spAt C 0 AnyS) := by
  obtain ⟨_, GF⟩ := L.fit
  obtain ⟨_, GS⟩ := L.set
  have T := L.T
  have N := L.N
  refine has_of D scBg (fun _ _ _ _ _ _ us hl => match us, hl with | [_, _, _, _], _ => rfl) (fun vs H Q E h => ?_) (fun cdv A outer s H vs Q E hr h => ?_)
  · obtain ⟨o, l, s, c, rfl, hc, _⟩ := h
    cases c <;> cases hc
    rfl
  · obtain ⟨o, l, s, c, rfl, hc, _, hS, q⟩ := h
    cases c <;> cases hc
    rename_i c p k
    have hr1 : Room 1 _ := hr.mono (by decide)
    refine ⟨_, pss_cons (ps_if (pt_not (pt_val (pe_callH GF hr1 (pa_cons (pv 1) (pa_cons (pv 2) (pa_cons (pv 3) pa_nil)))))) (pss_one (ps_ret (pe_lst (pa_cons (pe_con N.OUT_OF_RANGE) pa_nil)))) pss_nil)
      (pss_cons (ps_expr (pe_callH GS hr1 (pa_cons (pv 0) (pa_cons (pv 1) (pa_cons (pv 2) (pa_cons (pv 3) pa_nil))))))
      (pss_cons (ps_fld (pv 0) (pe_lst pa_nil) rfl)
      (pss_cons (ps_fld (pv 0) pe_bl rfl)
      (pss_one (ps_ret (pe_lst (pa_cons pe_int pa_nil))))))), ?_⟩
    refine ⟨_, rfl, _, rfl, _, rfl, c, p, k, rfl, _, rfl, ite2 (fun hb => ?_) (fun hb => ?_)⟩
    · have hb : Su86.okC c p k = false := by simpa using hb
      refine ⟨small_list (by simp), fun p1 hp1 => q _ _ ?_⟩
      rw [step_begin_no hb]
      exact After.refused hS hp1
    · have hb : Su86.okC c p k = true := by simpa using hb
      obtain ⟨b, a, ⟨dx, ho⟩, hR⟩ := hS.store
      refine ⟨_, rfl, _, rfl, _, rfl, _, rfl, o, l, dx, b, _, _, _, c, p, k, rfl, ho, ?_⟩
      refine ⟨small_list (by simp), fun l' hl' => ?_⟩
      obtain ⟨nlo, hl0⟩ := upd_none hl'
      refine ⟨_, rfl, o, C, dx, _, rfl, by rw [upd_ne nlo.symm]; exact upd_same, T.cl, T.nR, (by show 5 < 1000; decide), ?_⟩
      refine ⟨_, rfl, o, C, dx, _, rfl, upd_same, T.cl, T.nB, (by show 5 < 1000; decide), ?_⟩
      refine ⟨small_list (by simp), fun p1 hp1 => q _ _ ?_⟩
      rw [step_begin_yes hb]
      obtain ⟨n1, hp1⟩ := upd_none hp1
      obtain ⟨n2, hp1⟩ := upd_none hp1
      obtain ⟨n3, hp1⟩ := upd_none hp1
      obtain ⟨n4, hp1⟩ := upd_none hp1
      refine ⟨p1, l', rfl, ⟨⟨⟨dx, ?_⟩, [], ?_, .nil⟩, AOk.new hb⟩, .inr hl0, fun b u h hbo hbl => ?_, hp1, n3, upd_same⟩
      · rw [upd_ne n1.symm, upd_same]
        rfl
      · rw [upd_ne n3.symm, upd_ne nlo, upd_ne nlo, upd_same]
      · rw [upd_ne (ne_of_none h hp1), upd_ne hbo, upd_ne hbo, upd_ne (ne_of_none h hl0), upd_ne hbo]
        exact h
/-! ### prices -/
theorem scPr : FnScope ["store", "cost", "price", "back", "answer"] ["store", "cost", "price", "back"] (defScope (top 41)) := ⟨rfl, rfl, rfl, by decide +kernel, rfl, by decide +kernel, by decide +kernel⟩
theorem has_pr {f C : Addr} (D : Def K mg "prices" (top 41) f) (L : Lib P w K mg base C) : Has P w K mg base 6 "prices" f ["store", "cost", "price", "back"] (spAt C 3 Begun) := by
  obtain ⟨_, GF⟩ := L.fit
  obtain ⟨_, GS⟩ := L.set
  have T := L.T
  have N := L.N
  refine has_of D scPr (fun _ _ _ _ _ _ us hl => match us, hl with | [_, _, _, _], _ => rfl) (fun vs H Q E h => ?_) (fun cdv A outer s H vs Q E hr h => ?_)
  · obtain ⟨o, l, s, c, rfl, hc, _⟩ := h
    cases c <;> cases hc
    rfl
  · obtain ⟨o, l, s, c, rfl, hc, ⟨a, rfl⟩, ⟨hS, hA⟩, q⟩ := h
    cases c <;> cases hc
    rename_i c p k
    have hr1 : Room 1 _ := hr.mono (by decide)
    refine ⟨_, pss_cons (ps_if (pt_not (pt_val (pe_callH GF hr1 (pa_cons (pv 1) (pa_cons (pv 2) (pa_cons (pv 3) pa_nil)))))) (pss_one (ps_ret (pe_lst (pa_cons (pe_con N.OUT_OF_RANGE) pa_nil)))) pss_nil)
      (pss_cons (ps_set (i := 4) scPr.nd rfl (Or.inl rfl) (pe_lst (pa_cons pe_int (pa_cons (pe_fld (pv 0) rfl) (pa_cons (pe_fld (pv 0) rfl) (pa_cons (pe_fld (pv 0) rfl) pa_nil))))))
      (pss_cons (ps_expr (pe_callH GS hr1 (pa_cons (pv 0) (pa_cons (pv 1) (pa_cons (pv 2) (pa_cons (pv 3) pa_nil))))))
      (pss_one (ps_ret (pv 4))))), ?_⟩
    refine ⟨_, rfl, _, rfl, _, rfl, c, p, k, rfl, _, rfl, ite2 (fun hb => ?_) (fun hb => ?_)⟩
    · have hb : Su86.okC c p k = false := by simpa using hb
      exact ⟨small_list (by simp), fun p1 hp1 => q _ _ (After.query (an := Su86.no (-22)) (if_pos hb) hS hA (Same.new hp1) hp1 upd_same)⟩
    · have hb : Su86.okC c p k = true := by simpa using hb
      obtain ⟨⟨dx, ho⟩, vs, hl, ht⟩ := id hS
      refine ⟨_, rfl, o, C, dx, _, _, rfl, ho, T.cl, T.nC, fs_cost, _, rfl, o, C, dx, _, _, rfl, ho, T.cl, T.nP, fs_price, _, rfl, o, C, dx, _, _, rfl, ho, T.cl, T.nK, fs_back, small_list (by simp), fun p1 hp1 => ?_⟩
      have n1 : o ≠ p1 := ne_of_none ho hp1
      refine ⟨_, rfl, _, rfl, _, rfl, _, rfl, o, l, dx, true, _, _, _, c, p, k, rfl, by rw [upd_ne n1]; exact ho, ?_⟩
      refine ⟨_, rfl, q _ _ ?_⟩
      have e : Su86.step (some a) (.prices c p k) = (some { a with cost := c, price := p, back := k }, Su86.num 0 [Su86.nat a.cost, Su86.nat a.price, Su86.nat a.back]) := by
        show (some (Su86.does a (.prices c p k)).1, (Su86.does a (.prices c p k)).2) = _
        rw [show Su86.does a (.prices c p k) = _ from if_neg (by rw [hb]; exact Bool.noConfusion)]
      rw [e]
      obtain ⟨h1, h2, h3, h4⟩ := okC_ok hb
      have nlo : l ≠ o := ne_of hl ho (by intro z; cases z)
      have nlp : l ≠ p1 := ne_of_none hl hp1
      refine ⟨p1, l, rfl, ⟨⟨⟨dx, upd_same⟩, vs, ?_, ?_⟩, ⟨h1, h2, h3, h4, hA.len, hA.rows⟩⟩, .inl rfl, fun b u h hbo hbl => ?_, hp1, nlp.symm, ?_⟩
      · rw [upd_ne nlo, upd_ne nlp]
        exact hl
      · refine Paired.mapP ht fun v r ⟨t, e, h⟩ => ⟨t, e, ?_⟩
        rw [upd_ne (ne_of h ho (by intro z; cases z)), upd_ne (ne_of_none h hp1)]
        exact h
      · rw [upd_ne hbo, upd_ne (ne_of_none h hp1)]
        exact h
      · rw [upd_ne n1.symm, upd_same]
        rfl
end
end Pd
end
section
set_option Elab.async false
set_option linter.all false
set_option maxRecDepth 100000
set_option maxHeartbeats 2000000
namespace Pd
open PySem PySem.Spec PyProof.Rows L2
open Su86 (Abs)
section
variable {P : Program} {w : World} {K : PySem.W.Frag} {mg : Str → Option Value} {base : Heap}
/-! ### chance -/
theorem scCh : FnScope ["store", "here", "there", "often"] ["store", "here", "there", "often"] (defScope (top 39)) := ⟨rfl, rfl, rfl, by decide +kernel, rfl, by decide +kernel, by decide +kernel⟩
theorem has_ch {f C : Addr} (D : Def K mg "chance" (top 39) f) (L : Lib P w K mg base C) : Has P w K mg base 6 "chance" f ["store", "here", "there", "often"] (spAt C 1 Begun) := by
  obtain ⟨_, GF⟩ := L.row
  obtain ⟨_, GA⟩ := L.rall
  have T := L.T
  have N := L.N
  refine has_of D scCh (fun _ _ _ _ _ _ us hl => match us, hl with | [_, _, _, _], _ => rfl) (fun vs H Q E h => ?_) (fun cdv A outer s H vs Q E hr h => ?_)
  · obtain ⟨o, l, s, c, rfl, hc, _⟩ := h
    cases c <;> cases hc
    rfl
  · obtain ⟨o, l, s, c, rfl, hc, ⟨a, rfl⟩, ⟨hS, hA⟩, q⟩ := h
    cases c <;> cases hc
    rename_i x y n
    have hr1 : Room 1 _ := hr.mono (by decide)
    refine ⟨_, pss_cons (ps_if (pt_not (pt_val (pe_callH GF hr1 (pa_cons (pv 1) (pa_cons (pv 2) (pa_cons (pv 3) pa_nil)))))) (pss_one (ps_ret (pe_lst (pa_cons (pe_con N.OUT_OF_RANGE) pa_nil)))) pss_nil)
      (pss_cons (ps_if (pt_cmpR op_ge (pe_callB call_len_seq (by rfl) N.len bt_len (pa_cons (pe_fld (pv 0) rfl) pa_nil)) (pe_con N.MOST_ROWS) (nomark _)) (pss_one (ps_ret (pe_lst (pa_cons (pe_con N.TOO_MANY) pa_nil)))) pss_nil)
      (pss_cons (ps_expr (pe_bm PySem.F.plainAttrs_list PySem.F.slot_list_append PySem.F.type_list_append mt_append (pe_fld (pv 0) rfl) (pa_cons (pe_tup (pa_cons (pv 1) (pa_cons (pv 2) (pa_cons (pv 3) pa_nil)))) pa_nil)))
      (pss_one (ps_ret (pe_lst (pa_cons (pe_callH GA hr1 (pa_cons (pe_fld (pv 0) rfl) pa_nil)) pa_nil)))))), ?_⟩
    have hrow : rowOk x y n = true ↔ ¬ (Su86.WANT < x ∨ Su86.WANT < y ∨ n = 0 ∨ 1000 < n) := by
      unfold rowOk Su86.WANT
      rw [decide_eq_true_iff]
      omega
    obtain ⟨⟨dx, ho⟩, vs, hl, ht⟩ := id hS
    have hlen := ht.len
    refine ⟨_, rfl, _, rfl, _, rfl, x, y, n, rfl, _, rfl, ite2 (fun hb => ?_) (fun hb => ?_)⟩
    · have hb : ¬ rowOk x y n = true := by simpa using hb
      have hc : Su86.WANT < x ∨ Su86.WANT < y ∨ n = 0 ∨ 1000 < n := Decidable.not_not.mp fun z => hb (hrow.mpr z)
      exact ⟨small_list (by simp), fun p1 hp1 => q _ _ (After.query (an := Su86.no (-22)) (if_pos hc) hS hA (Same.new hp1) hp1 upd_same)⟩
    · have hb : rowOk x y n = true := by simpa using hb
      have hc := hrow.mp hb
      refine ⟨_, rfl, o, C, dx, _, _, rfl, ho, T.cl, T.nR, fs_rows, l, vs, rfl, .inl (SqL.of hl), _, _, rfl, rfl, _, rfl, ite2 (fun h2 => ?_) (fun h2 => ?_)⟩
      · have h2 : (30 : Int) ≤ (vs.length : Int) := of_decide_eq_true h2
        have h3 : Su86.PAIRS ≤ a.two.length := by
          show 30 ≤ a.two.length
          omega
        exact ⟨small_list (by simp), fun p1 hp1 => q _ _ (After.query (an := Su86.no (-28)) (by show (if Su86.WANT < x ∨ Su86.WANT < y ∨ n = 0 ∨ 1000 < n then _ else if Su86.PAIRS ≤ a.two.length then _ else _) = _; rw [if_neg hc, if_pos h3]) hS hA (Same.new hp1) hp1 upd_same)⟩
      · have h2 : ¬ (30 : Int) ≤ (vs.length : Int) := fun z => h2 (decide_eq_true z)
        have h3 : ¬ Su86.PAIRS ≤ a.two.length := by
          show ¬ 30 ≤ a.two.length
          omega
        refine ⟨_, rfl, o, C, dx, _, _, rfl, ho, T.cl, T.nR, fs_rows, .inl ⟨rfl, _, SqL.of hl⟩, _, rfl, _, rfl, _, rfl, (by show 3 ≤ sizeLine; decide), fun t ht0 => ?_⟩
        have s1 : Same H (upd H t (.tup [.int x, .int y, .int n])) := Same.new ht0
        have hl1 := s1 _ _ hl
        have nlo : l ≠ o := ne_of hl ho (by intro z; cases z)
        refine ⟨l, vs, .ref t, rfl, rfl, hl1, small1000 (by omega), ?_⟩
        have R2 : Rows3 (upd (upd H t (.tup [.int x, .int y, .int n])) l (.lst (vs ++ [.ref t]))) l (a.two ++ [(x, y, n)]) := by
          refine ⟨_, upd_same, Tups.upd_lst hl1 (Tups.snoc (ht.same s1) ?_)⟩
          exact upd_same
        have ho2 : upd (upd H t (.tup [.int x, .int y, .int n])) l (.lst (vs ++ [.ref t])) o = some (.ins C dx (fsOf true a.cost a.price a.back l)) := by
          rw [upd_ne nlo.symm]
          exact s1 _ _ ho
        refine ⟨_, rfl, o, C, dx, _, _, rfl, ho2, T.cl, T.nR, fs_rows, l, _, rfl, R2, by rw [List.length_append, List.length_singleton]; omega, fun H3 s3 => ?_⟩
        refine ⟨small_list (by simp), fun p1 hp1 => q _ _ ?_⟩
        have hp3 := s3.free hp1
        obtain ⟨n1, hp2⟩ := upd_none hp3
        obtain ⟨n2, hp2⟩ := upd_none hp2
        have e : Su86.step (some a) (.chance x y n) = (some { a with two := a.two ++ [(x, y, n)] }, Su86.num (Su86.all a.both + n) []) := by
          show (some (Su86.does a (.chance x y n)).1, (Su86.does a (.chance x y n)).2) = _
          rw [show Su86.does a (.chance x y n) = ({ a with two := a.two ++ [(x, y, n)] }, Su86.num (Su86.all a.both + n) []) by
            show (if Su86.WANT < x ∨ Su86.WANT < y ∨ n = 0 ∨ 1000 < n then _ else if Su86.PAIRS ≤ a.two.length then _ else _) = _; rw [if_neg hc, if_neg h3]]
        rw [e]
        have s4 : Same H3 (upd H3 p1 (.lst [.int (rowsAll (a.two ++ [(x, y, n)]) : Nat)])) := Same.new hp1
        refine ⟨p1, l, rfl, ⟨⟨⟨dx, s4 _ _ (s3 _ _ ho2)⟩, R2.same (s3.trans s4)⟩, ⟨hA.bc, hA.cp, hA.bp, hA.p, ?_, fun r hr' => ?_⟩⟩, .inl rfl, fun b u h hbo hbl => ?_, hp2, n1, ?_⟩
        · show (a.two ++ [(x, y, n)]).length ≤ 30
          rw [List.length_append, List.length_singleton]
          omega
        · rcases List.mem_append.mp hr' with z | z
          · exact hA.rows r z
          · obtain rfl := List.mem_singleton.mp z
            have hb := of_decide_eq_true hb
            exact hb
        · refine s4 _ _ (s3 _ _ ?_)
          rw [upd_ne hbl]
          exact s1 _ _ h
        · rw [upd_same, all_both]
          have e : rowsAll (a.two ++ [(x, y, n)]) = rowsAll a.two + n := by
            unfold rowsAll
            rw [List.map_append, List.sum_append]
            simp
          rw [e]
          rfl
/-! ### never -/
def keeps (x y : Nat) (z : Nat × Nat × Nat) : Bool := !(z.1 == x && z.2.1 == y)
theorem keeps_any {x y : Nat} : ∀ {rs : List (Nat × Nat × Nat)}, (rs.filter (keeps x y)).length = rs.length ↔ (rs.any fun z => z.1 == x && z.2.1 == y) = false := by
  intro rs
  rw [List.length_filter_eq_length_iff, List.any_eq_false]
  unfold keeps
  constructor
  · intro h z hz
    have h1 := h z hz
    simp at h1 ⊢
    omega
  · intro h z hz
    have h1 := h z hz
    simp at h1 ⊢
    omega
theorem scN : FnScope ["store", "here", "there", "kept", "row"] ["store", "here", "there"] (defScope (top 40)) := ⟨rfl, rfl, rfl, by decide +kernel, rfl, by decide +kernel, by decide +kernel⟩
theorem has_n {f C : Addr} (D : Def K mg "never" (top 40) f) (L : Lib P w K mg base C) : Has P w K mg base 6 "never" f ["store", "here", "there"] (spAt C 2 Begun) := by
  obtain ⟨_, GA⟩ := L.rall
  have T := L.T
  have N := L.N
  refine has_of D scN (fun _ _ _ _ _ _ us hl => match us, hl with | [_, _, _], _ => rfl) (fun vs H Q E h => ?_) (fun cdv A outer s H vs Q E hr h => ?_)
  · obtain ⟨o, l, s, c, rfl, hc, _⟩ := h
    cases c <;> cases hc
    rfl
  · obtain ⟨o, l, s, c, rfl, hc, ⟨a, rfl⟩, ⟨hS, hA⟩, q⟩ := h
    cases c <;> cases hc
    rename_i x y
    have hr1 : Room 1 _ := hr.mono (by decide)
    refine ⟨_, pss_cons (ps_setLc (i := 3) rfl scN.nd rfl rfl rfl (pi_list (pe_fld (pv 0) rfl)) (own := [("row", 4)]) (by show BlkOk ["store", "here", "there", "kept", "row"] (defScope (top 40)) _ _; exact ⟨rfl, by decide +kernel, by decide +kernel, by decide +kernel, by decide +kernel⟩)
          (by intros; exact pg1 (i := 4) scN.nd rfl rfl)
          (by intros; exact pts_one (PW.pt (pw_or (pt_cmpR op_ne (pe_ixT (K := K) rfl (pv 4) pe_int (fun _ _ => rfl)) (pv 1) (nomark _)) (pw_or1 (pt_cmpR op_ne (pe_ixT (K := K) rfl (pv 4) pe_int (fun _ _ => rfl)) (pv 2) (nomark _))))))
          (by intros; exact pv 4))
      (pss_cons (ps_if (pt_cmpR op_eq (pe_callB call_len_seq (by rfl) N.len bt_len (pa_cons (pv 3) pa_nil)) (pe_callB call_len_seq (by rfl) N.len bt_len (pa_cons (pe_fld (pv 0) rfl) pa_nil)) (nomark _)) (pss_one (ps_ret (pe_lst (pa_cons (pe_con N.NONE_THERE) pa_nil)))) pss_nil)
      (pss_cons (ps_fld (pv 0) (pv 3) rfl)
      (pss_one (ps_ret (pe_lst (pa_cons (pe_callH GA hr1 (pa_cons (pv 3) pa_nil)) pa_nil)))))), ?_⟩
    obtain ⟨⟨dx, ho⟩, vs, hl, ht⟩ := id hS
    have hlen := ht.len
    have hv : vs.length ≤ 1000 := by
      have := hA.len
      omega
    refine ⟨_, rfl, o, C, dx, _, _, rfl, ho, T.cl, T.nR, fs_rows, l, rfl, ⟨vs, SqL.of hl⟩, lc_seq (SqL.of hl) hv (fun _ i acc H' => Tups v3 H' acc ((a.two.take i).filter (keeps x y))) (fun D hD => .nil) (fun D i v acc H' hD hi hx sm hacc hl' p => ?_) (fun D acc H' hD sm hacc hlen' p => ?_)⟩
    · obtain ⟨r, p0, hr', rfl, htup⟩ := ht.get hx
      have yes : keeps x y r = true → ∃ acc_1, H' D = some (.lst acc_1) ∧ acc_1.length < sizeLine ∧ LcAt H (fun _ i acc H' => Tups v3 H' acc ((a.two.take i).filter (keeps x y))) D (i + 1) (upd H' D (.lst (acc_1 ++ [.ref p0]))) := fun hk => by
        refine LcAt.snoc hD hi sm hacc hl' (Tups.upd_lst hacc ?_)
        rw [take_snoc hr', List.filter_append, List.filter_cons, if_pos hk]
        exact Tups.snoc p (sm _ _ htup)
      have no : keeps x y r = false → LcAt H (fun _ i acc H' => Tups v3 H' acc ((a.two.take i).filter (keeps x y))) D (i + 1) H' := fun hk => by
        refine ⟨sm, acc, hacc, Nat.le_succ_of_le hl', ?_⟩
        show Tups v3 H' acc ((a.two.take (i + 1)).filter (keeps x y))
        rw [take_snoc hr', List.filter_append, List.filter_cons, if_neg (by rw [hk]; exact Bool.noConfusion), List.filter_nil, List.append_nil]
        exact p
      refine ⟨rfl, ?_⟩
      refine ⟨_, rfl, p0, _, 0, _, rfl, rfl, SqT.of (sm _ _ htup), atI_nat (j := 0) rfl, _, rfl, rfl, _, rfl, ite2 (fun hb => ?_) (fun hb => ?_)⟩
      · have hb : ¬ r.1 = x := fun z => by
          rw [z] at hb
          simp at hb
        exact iteT ⟨_, rfl, yes (by unfold keeps; simp [hb])⟩
      · have hb : r.1 = x := by
          simp at hb
          omega
        refine ⟨_, rfl, p0, _, 1, _, rfl, rfl, SqT.of (sm _ _ htup), atI_nat (j := 1) rfl, _, rfl, rfl, _, rfl, ite2 (fun h2 => ?_) (fun h2 => ?_)⟩
        · have h2 : ¬ r.2.1 = y := fun z => by
            rw [z] at h2
            simp at h2
          exact ⟨_, rfl, yes (by unfold keeps; simp [h2])⟩
        · have h2 : r.2.1 = y := by
            simp at h2
            omega
          exact no (by unfold keeps; simp [hb, h2])
    · rw [hlen, List.take_length] at p
      have plen := p.len
      refine ⟨_, rfl, D, acc, rfl, .inl (SqL.of hacc), _, rfl, o, C, dx, _, _, rfl, sm _ _ ho, T.cl, T.nR, fs_rows, l, vs, rfl, .inl (SqL.of (sm _ _ hl)), rfl, _, rfl, ite2 (fun hb => ?_) (fun hb => ?_)⟩
      · have hb : V.int (acc.length : Int) = V.int (vs.length : Int) := of_decide_eq_true hb
        have hb := V.int.inj hb
        have hany : (a.two.any fun z => z.1 == x && z.2.1 == y) = false := keeps_any.mp (by omega)
        exact ⟨small_list (by simp), fun p1 hp1 => q _ _ (After.query (an := Su86.no (-6)) (if_pos hany) hS hA (sm.trans (Same.new hp1)) (sm.free hp1) upd_same)⟩
      · have hany : ¬ (a.two.any fun z => z.1 == x && z.2.1 == y) = false := fun z => hb (decide_eq_true (by
          have := keeps_any.mpr z
          have e : acc.length = vs.length := by omega
          rw [e]))
        refine ⟨_, rfl, _, rfl, o, C, dx, _, rfl, sm _ _ ho, T.cl, T.nR, (by show 5 < 1000; decide), ?_⟩
        have nDo : D ≠ o := (ne_of_none ho hD).symm
        have R2 : Rows3 (upd H' o (.ins C dx (putF "rows" (.ref D) (fsOf true a.cost a.price a.back l)))) D (a.two.filter (keeps x y)) := by
          refine ⟨acc, by rw [upd_ne nDo]; exact hacc, Paired.mapP p fun v r ⟨t, e, h⟩ => ⟨t, e, ?_⟩⟩
          rw [upd_ne (ne_of h (sm _ _ ho) (by intro z; cases z))]
          exact h
        have flen : (a.two.filter (keeps x y)).length ≤ 30 := Nat.le_trans (List.length_filter_le _ _) hA.len
        refine ⟨_, rfl, D, _, rfl, R2, flen, fun H3 s3 => ?_⟩
        refine ⟨small_list (by simp), fun p1 hp1 => q _ _ ?_⟩
        have e : Su86.step (some a) (.never x y) = (some { a with two := a.two.filter (keeps x y) }, Su86.num (Su86.all ((a.two.filter (keeps x y)).map fun z => (z.1, z.2.2))) []) := by
          show (some (Su86.does a (.never x y)).1, (Su86.does a (.never x y)).2) = _
          rw [show Su86.does a (.never x y) = ({ a with two := a.two.filter (keeps x y) }, Su86.num (Su86.all ((a.two.filter (keeps x y)).map fun z => (z.1, z.2.2))) []) from if_neg hany]
        rw [e]
        obtain ⟨n1, hp2⟩ := upd_none (s3.free hp1)
        have hp0 := sm.free hp2
        have s4 : Same H3 (upd H3 p1 (.lst [.int (rowsAll (a.two.filter (keeps x y)) : Nat)])) := Same.new hp1
        refine ⟨p1, D, rfl, ⟨⟨⟨dx, s4 _ _ (s3 _ _ upd_same)⟩, R2.same (s3.trans s4)⟩, ⟨hA.bc, hA.cp, hA.bp, hA.p, flen, fun r hr' => hA.rows r (List.mem_filter.mp hr').1⟩⟩, .inr hD, fun b u h hbo hbl => ?_, hp0, (ne_of_none hacc hp2).symm, ?_⟩
        · refine s4 _ _ (s3 _ _ ?_)
          rw [upd_ne hbo]
          exact sm _ _ h
        · rw [upd_same]
          have e : Su86.all ((a.two.filter (keeps x y)).map fun z => (z.1, z.2.2)) = rowsAll (a.two.filter (keeps x y)) := by
            unfold Su86.all rowsAll
            rw [List.map_map]
            rfl
          rw [e]
          rfl
end
end Pd
end
section
set_option Elab.async false
set_option linter.all false
set_option maxRecDepth 100000
set_option maxHeartbeats 2000000
namespace Pd
open PySem PySem.Spec PyProof.Rows L2
open Su86 (Abs)
section
variable {P : Program} {w : World} {K : PySem.W.Frag} {mg : Str → Option Value} {base : Heap}
/-! ### one_more -/
theorem scOM : FnScope ["store", "of", "number", "refused", "demand", "more"] ["store", "of", "number"] (defScope (top 49)) := ⟨rfl, rfl, rfl, by decide +kernel, rfl, by decide +kernel, by decide +kernel⟩
theorem has_om {f C : Addr} (D : Def K mg "one_more" (top 49) f) (L : Lib P w K mg base C) : Has P w K mg base 6 "one_more" f ["store", "of", "number"] (spAt C 11 Begun) := by
  obtain ⟨_, GR⟩ := L.ref
  obtain ⟨_, GD⟩ := L.dem
  obtain ⟨_, GE⟩ := L.exp
  obtain ⟨_, GW⟩ := L.gw
  have T := L.T
  refine has_of D scOM (fun _ _ _ _ _ _ us hl => match us, hl with | [_, _, _], _ => rfl) (fun vs H Q E h => ?_) (fun cdv A outer s H vs Q E hr h => ?_)
  · obtain ⟨o, l, s, c, rfl, hc, _⟩ := h
    cases c <;> cases hc
    rfl
  · obtain ⟨o, l, s, c, rfl, hc, ⟨a, rfl⟩, ⟨hS, hA⟩, q⟩ := h
    cases c <;> cases hc
    rename_i wn n
    have hr1 : Room 1 _ := hr.mono (by decide)
    have hr3 : Room 3 _ := hr.mono (by decide)
    have hr4 : Room 4 _ := hr.mono (by decide)
    refine ⟨_, pss_cons (ps_set (i := 3) scOM.nd rfl (Or.inl rfl) (pe_callH GR hr1 (pa_cons (pv 0) (pa_cons (pe_out3 (u := 2) (v := 60) (pv 1) (pe_con L.N.BOTH) (pv 2) (pe_con L.N.MOST_BOUGHT)) pa_nil))))
      (pss_cons (ps_if (pt_cmpR op_lt (pv 3) pe_int (nomark _)) (pss_one (ps_ret (pe_lst (pa_cons (pv 3) pa_nil)))) pss_nil)
      (pss_cons (ps_set (i := 4) scOM.nd rfl (Or.inl rfl) (pe_callH GD hr1 (pa_cons (pe_fld (pv 0) rfl) (pa_cons (pv 1) pa_nil))))
      (pss_cons (ps_set (i := 5) scOM.nd rfl (Or.inl rfl) (pe_op op_sub (pe_callH GW hr4 (pa_cons (pv 0) (pa_cons (pv 4) (pa_cons (pe_op op_add (pv 2) pe_int) pa_nil)))) (pe_callH GW hr4 (pa_cons (pv 0) (pa_cons (pv 4) (pa_cons (pv 2) pa_nil))))))
      (pss_one (ps_ret (pe_op op_cat (pe_lst (pa_cons pe_int pa_nil)) (pe_callH GE hr3 (pa_cons (pv 4) (pa_cons (pv 5) pa_nil))))))))), ?_⟩
    refine ⟨_, rfl, wn, n, rfl, rfl, o, l, true, a, _, rfl, hS, ?_⟩
    refine ⟨_, rfl, _, _, rfl, rfl, _, rfl, ite2 (fun hb => ?_) (fun hb => ?_)⟩
    · refine ⟨_, rfl, small_list (by simp), fun p hp => q _ _ (After.query (does_ref (p := 2 < wn ∨ 60 ≤ n) (of_decide_eq_true hb)) hS hA (Same.new hp) hp upd_same)⟩
    · obtain ⟨hne, hout, hdo⟩ := does_ok (p := 2 < wn ∨ 60 ≤ n) (an := (a, Su86.num 0 (Su86.frac (a.gain (a.of wn) (n + 1) - a.gain (a.of wn) n) (Su86.all a.both)))) (fun z => hb (decide_eq_true z))
      obtain ⟨⟨dx, ho⟩, hR⟩ := id hS
      refine ⟨_, rfl, o, C, dx, _, _, rfl, ho, T.cl, T.nR, fs_rows, _, rfl, l, a.two, wn, rfl, hR, hA.len, fun H1 pd hpd s1 hDem => ?_⟩
      refine ⟨_, rfl, _, rfl, _, rfl, _, _, rfl, rfl, o, l, pd, true, a, _, n + 1, rfl, hS.same s1, hA.pok, by omega, hDem, hA.dok wn, fun H2 s2 => ?_⟩
      refine ⟨_, rfl, _, rfl, _, rfl, o, l, pd, true, a, _, n, rfl, hS.same (s1.trans s2), hA.pok, by omega, hDem.same s2, hA.dok wn, fun H3 s3 => ?_⟩
      refine ⟨_, _, rfl, rfl, ?_⟩
      refine ⟨small_list (by simp), fun p1 hp1 => ?_⟩
      have s4 : Same H3 (upd H3 p1 (.lst [.int 0])) := Same.new hp1
      refine ⟨_, rfl, _, rfl, pd, _, _, rfl, hDem.same (s2.trans (s3.trans s4)), hA.dok wn, ofRows_ne hne wn, fun H5 p5 s5 hp5 h5 => ?_⟩
      have sall := s1.trans (s2.trans (s3.trans (s4.trans s5)))
      refine ⟨p1, p5, _, _, rfl, rfl, s5 _ _ upd_same, h5, ?_, fun p hp => q _ _ (After.query hdo hS hA (sall.trans (Same.new hp)) (sall.free hp) ?_)⟩
      · rw [List.length_map, frac_len]
        exact small_list (by simp)
      · rw [upd_same, all_eq]
        rfl
/-! ### known -/
theorem scK : FnScope ["store", "of", "refused", "demand", "by_knowing", "by_best"] ["store", "of"] (defScope (top 50)) := ⟨rfl, rfl, rfl, by decide +kernel, rfl, by decide +kernel, by decide +kernel⟩
theorem has_k {f C : Addr} (D : Def K mg "known" (top 50) f) (L : Lib P w K mg base C) : Has P w K mg base 6 "known" f ["store", "of"] (spAt C 12 Begun) := by
  obtain ⟨_, GR⟩ := L.ref
  obtain ⟨_, GD⟩ := L.dem
  obtain ⟨_, GE⟩ := L.exp
  obtain ⟨_, GW⟩ := L.gw
  obtain ⟨_, GB⟩ := L.bn
  obtain ⟨_, GK⟩ := L.know
  have T := L.T
  refine has_of D scK (fun _ _ _ _ _ _ us hl => match us, hl with | [_, _], _ => rfl) (fun vs H Q E h => ?_) (fun cdv A outer s H vs Q E hr h => ?_)
  · obtain ⟨o, l, s, c, rfl, hc, _⟩ := h
    cases c <;> cases hc
    rfl
  · obtain ⟨o, l, s, c, rfl, hc, ⟨a, rfl⟩, ⟨hS, hA⟩, q⟩ := h
    cases c <;> cases hc
    rename_i wn
    have hr1 : Room 1 _ := hr.mono (by decide)
    have hr2 : Room 2 _ := hr.mono (by decide)
    have hr3 : Room 3 _ := hr.mono (by decide)
    have hr4 : Room 4 _ := hr.mono (by decide)
    refine ⟨_, pss_cons (ps_set (i := 2) scK.nd rfl (Or.inl rfl) (pe_callH GR hr1 (pa_cons (pv 0) (pa_cons (pe_out1 (u := 2) (pv 1) (pe_con L.N.BOTH)) pa_nil))))
      (pss_cons (ps_if (pt_cmpR op_lt (pv 2) pe_int (nomark _)) (pss_one (ps_ret (pe_lst (pa_cons (pv 2) pa_nil)))) pss_nil)
      (pss_cons (ps_set (i := 3) scK.nd rfl (Or.inl rfl) (pe_callH GD hr1 (pa_cons (pe_fld (pv 0) rfl) (pa_cons (pv 1) pa_nil))))
      (pss_cons (ps_set (i := 4) scK.nd rfl (Or.inl rfl) (pe_callH GK hr2 (pa_cons (pv 3) (pa_cons (pe_fld (pv 0) rfl) (pa_cons (pe_fld (pv 0) rfl) pa_nil)))))
      (pss_cons (ps_set (i := 5) scK.nd rfl (Or.inl rfl) (pe_callH GW hr4 (pa_cons (pv 0) (pa_cons (pv 3) (pa_cons (pe_callH GB hr (pa_cons (pv 0) (pa_cons (pv 3) pa_nil))) pa_nil)))))
      (pss_one (ps_ret (pe_op op_cat (pe_op op_cat (pe_lst (pa_cons pe_int pa_nil)) (pe_callH GE hr3 (pa_cons (pv 3) (pa_cons (pv 4) pa_nil)))) (pe_callH GE hr3 (pa_cons (pv 3) (pa_cons (pe_op op_sub (pv 4) (pv 5)) pa_nil)))))))))), ?_⟩
    refine ⟨_, rfl, wn, rfl, o, l, true, a, _, rfl, hS, ?_⟩
    refine ⟨_, rfl, _, _, rfl, rfl, _, rfl, ite2 (fun hb => ?_) (fun hb => ?_)⟩
    · refine ⟨_, rfl, small_list (by simp), fun p hp => q _ _ (After.query (does_ref (p := 2 < wn) (of_decide_eq_true hb)) hS hA (Same.new hp) hp upd_same)⟩
    · obtain ⟨hne, hout, hdo⟩ := does_ok (p := 2 < wn) (an := (a, Su86.num 0 (Su86.frac (Su86.nat (a.known (a.of wn))) (Su86.all a.both) ++ Su86.frac (Su86.nat (a.known (a.of wn)) - a.gain (a.of wn) (a.best (a.of wn))) (Su86.all a.both)))) (fun z => hb (decide_eq_true z))
      obtain ⟨⟨dx, ho⟩, hR⟩ := id hS
      refine ⟨_, rfl, o, C, dx, _, _, rfl, ho, T.cl, T.nR, fs_rows, _, rfl, l, a.two, wn, rfl, hR, hA.len, fun H1 pd hpd s1 hDem => ?_⟩
      refine ⟨_, rfl, _, rfl, o, C, dx, _, _, rfl, s1 _ _ ho, T.cl, T.nC, fs_cost, _, rfl, o, C, dx, _, _, rfl, s1 _ _ ho, T.cl, T.nP, fs_price, pd, _, a, rfl, hA.pok, hDem, hA.dok wn, fun H2 s2 => ?_⟩
      refine ⟨_, rfl, _, rfl, _, rfl, _, rfl, o, l, pd, true, a, _, rfl, hS.same (s1.trans s2), hA.pok, hDem.same s2, hA.dok wn, fun H3 s3 => ?_⟩
      refine ⟨o, l, pd, true, a, _, _, rfl, hS.same (s1.trans (s2.trans s3)), hA.pok, Nat.le_trans (best_le _ _) (by decide), hDem.same (s2.trans s3), hA.dok wn, fun H4 s4 => ?_⟩
      refine ⟨small_list (by simp), fun p5 hp5 => ?_⟩
      have s5 : Same H4 (upd H4 p5 (.lst [.int 0])) := Same.new hp5
      have hD5 := hDem.same (s2.trans (s3.trans (s4.trans s5)))
      refine ⟨_, rfl, _, rfl, pd, _, _, rfl, hD5, hA.dok wn, ofRows_ne hne wn, fun H6 p6 s6 hp6 h6 => ?_⟩
      refine ⟨p5, p6, _, _, rfl, rfl, s6 _ _ upd_same, h6, ?_, fun p7 hp7 => ?_⟩
      · rw [List.length_map, frac_len]
        exact small_list (by simp)
      have s7 : Same H6 (upd H6 p7 (.lst ([.int 0] ++ (Su86.frac ((a.known (ofRows a.two wn) : Nat) : Int) (Su86.all (ofRows a.two wn))).map V.int))) := Same.new hp7
      refine ⟨_, rfl, _, rfl, _, rfl, _, _, rfl, rfl, pd, _, _, rfl, hD5.same (s6.trans s7), hA.dok wn, ofRows_ne hne wn, fun H8 p8 s8 hp8 h8 => ?_⟩
      have sall := s1.trans (s2.trans (s3.trans (s4.trans (s5.trans (s6.trans (s7.trans s8))))))
      refine ⟨p7, p8, _, _, rfl, rfl, s8 _ _ upd_same, h8, ?_, fun p hp => q _ _ (After.query hdo hS hA (sall.trans (Same.new hp)) (sall.free hp) ?_)⟩
      · rw [List.length_append, List.length_map, List.length_map, frac_len, frac_len]
        exact small_list (by simp)
      · rw [upd_same, all_eq, List.append_assoc, ← List.map_append]
        rfl
/-! ### mean -/
theorem scMn : FnScope ["store", "of", "refused", "demand"] ["store", "of"] (defScope (top 57)) := ⟨rfl, rfl, rfl, by decide +kernel, rfl, by decide +kernel, by decide +kernel⟩
theorem has_mn {f C : Addr} (D : Def K mg "mean" (top 57) f) (L : Lib P w K mg base C) : Has P w K mg base 6 "mean" f ["store", "of"] (spAt C 19 Begun) := by
  obtain ⟨_, GR⟩ := L.ref
  obtain ⟨_, GD⟩ := L.dem
  obtain ⟨_, GE⟩ := L.exp
  obtain ⟨_, GW⟩ := L.want
  have T := L.T
  refine has_of D scMn (fun _ _ _ _ _ _ us hl => match us, hl with | [_, _], _ => rfl) (fun vs H Q E h => ?_) (fun cdv A outer s H vs Q E hr h => ?_)
  · obtain ⟨o, l, s, c, rfl, hc, _⟩ := h
    cases c <;> cases hc
    rfl
  · obtain ⟨o, l, s, c, rfl, hc, ⟨a, rfl⟩, ⟨hS, hA⟩, q⟩ := h
    cases c <;> cases hc
    rename_i wn
    have hr1 : Room 1 _ := hr.mono (by decide)
    have hr3 : Room 3 _ := hr.mono (by decide)
    refine ⟨_, pss_cons (ps_set (i := 2) scMn.nd rfl (Or.inl rfl) (pe_callH GR hr1 (pa_cons (pv 0) (pa_cons (pe_out1 (u := 2) (pv 1) (pe_con L.N.BOTH)) pa_nil))))
      (pss_cons (ps_if (pt_cmpR op_lt (pv 2) pe_int (nomark _)) (pss_one (ps_ret (pe_lst (pa_cons (pv 2) pa_nil)))) pss_nil)
      (pss_cons (ps_set (i := 3) scMn.nd rfl (Or.inl rfl) (pe_callH GD hr1 (pa_cons (pe_fld (pv 0) rfl) (pa_cons (pv 1) pa_nil))))
      (pss_one (ps_ret (pe_op op_cat (pe_lst (pa_cons pe_int pa_nil)) (pe_callH GE hr3 (pa_cons (pv 3) (pa_cons (pe_callH GW hr1 (pa_cons (pv 3) pa_nil)) pa_nil)))))))), ?_⟩
    refine ⟨_, rfl, wn, rfl, o, l, true, a, _, rfl, hS, ?_⟩
    refine ⟨_, rfl, _, _, rfl, rfl, _, rfl, ite2 (fun hb => ?_) (fun hb => ?_)⟩
    · refine ⟨_, rfl, small_list (by simp), fun p hp => q _ _ (After.query (does_ref (p := 2 < wn) (of_decide_eq_true hb)) hS hA (Same.new hp) hp upd_same)⟩
    · obtain ⟨hne, hout, hdo⟩ := does_ok (p := 2 < wn) (an := (a, Su86.num 0 (Su86.frac (Su86.nat (wantedAll (a.of wn))) (Su86.all a.both)))) (fun z => hb (decide_eq_true z))
      obtain ⟨⟨dx, ho⟩, hR⟩ := id hS
      refine ⟨_, rfl, o, C, dx, _, _, rfl, ho, T.cl, T.nR, fs_rows, _, rfl, l, a.two, wn, rfl, hR, hA.len, fun H1 pd hpd s1 hDem => ?_⟩
      refine ⟨small_list (by simp), fun p1 hp1 => ?_⟩
      have s2 : Same H1 (upd H1 p1 (.lst [.int 0])) := Same.new hp1
      refine ⟨_, rfl, _, rfl, pd, _, rfl, hDem.same s2, hA.dok wn, fun H3 s3 => ?_⟩
      refine ⟨pd, _, _, rfl, hDem.same (s2.trans s3), hA.dok wn, ofRows_ne hne wn, fun H4 p4 s4 hp4 h4 => ?_⟩
      have sall := s1.trans (s2.trans (s3.trans s4))
      refine ⟨p1, p4, _, _, rfl, rfl, s4 _ _ (s3 _ _ upd_same), h4, ?_, fun p hp => q _ _ (After.query hdo hS hA (sall.trans (Same.new hp)) (sall.free hp) ?_)⟩
      · rw [List.length_map, frac_len]
        exact small_list (by simp)
      · rw [upd_same, all_eq]
        rfl
/-! ### state -/
theorem scSt : FnScope ["store"] ["store"] (defScope (top 58)) := ⟨rfl, rfl, rfl, by decide +kernel, rfl, by decide +kernel, by decide +kernel⟩
theorem has_st {f C : Addr} (D : Def K mg "state" (top 58) f) (L : Lib P w K mg base C) : Has P w K mg base 6 "state" f ["store"] (spAt C 20 Begun) := by
  obtain ⟨_, GA⟩ := L.rall
  have T := L.T
  refine has_of D scSt (fun _ _ _ _ _ _ us hl => match us, hl with | [_], _ => rfl) (fun vs H Q E h => ?_) (fun cdv A outer s H vs Q E hr h => ?_)
  · obtain ⟨o, l, s, c, rfl, hc, _⟩ := h
    cases c <;> cases hc
    rfl
  · obtain ⟨o, l, s, c, rfl, hc, ⟨a, rfl⟩, ⟨hS, hA⟩, q⟩ := h
    cases c <;> cases hc
    have hr1 : Room 1 _ := hr.mono (by decide)
    refine ⟨_, pss_one (ps_ret (pe_lst (pa_cons (pe_callH GA hr1 (pa_cons (pe_fld (pv 0) rfl) pa_nil)) (pa_cons (pe_callB call_len_seq (by rfl) L.N.len bt_len (pa_cons (pe_fld (pv 0) rfl) pa_nil)) (pa_cons (pe_fld (pv 0) rfl) (pa_cons (pe_fld (pv 0) rfl) (pa_cons (pe_fld (pv 0) rfl) pa_nil))))))), ?_⟩
    obtain ⟨⟨dx, ho⟩, vs, hl, ht⟩ := id hS
    refine ⟨_, rfl, o, C, dx, _, _, rfl, ho, T.cl, T.nR, fs_rows, l, a.two, rfl, ⟨vs, hl, ht⟩, hA.len, fun H1 s1 => ?_⟩
    refine ⟨_, rfl, o, C, dx, _, _, rfl, s1 _ _ ho, T.cl, T.nR, fs_rows, l, vs, rfl, .inl (SqL.of (s1 _ _ hl)), _, rfl, o, C, dx, _, _, rfl, s1 _ _ ho, T.cl, T.nC, fs_cost, _, rfl, o, C, dx, _, _, rfl, s1 _ _ ho, T.cl, T.nP, fs_price, _, rfl, o, C, dx, _, _, rfl, s1 _ _ ho, T.cl, T.nK, fs_back, small_list (by simp), fun p hp => q _ _ (After.query rfl hS hA (s1.trans (Same.new hp)) (s1.free hp) ?_)⟩
    rw [upd_same, ht.len, all_both]
    rfl
/-! ### chances -/
def flat3 (rs : List (Nat × Nat × Nat)) : List Int := rs.flatMap fun x => [Su86.nat x.1, Su86.nat x.2.1, Su86.nat x.2.2]
theorem flat3_len (rs : List (Nat × Nat × Nat)) : (flat3 rs).length = rs.length * 3 := by
  induction rs with
  | nil => rfl
  | cons r rs ih =>
    unfold flat3 at ih ⊢
    rw [List.flatMap_cons, List.length_append, ih]
    show 3 + rs.length * 3 = (rs.length + 1) * 3
    omega
theorem scHs : FnScope ["store", "answer", "here", "there", "often"] ["store"] (defScope (top 56)) := ⟨rfl, rfl, rfl, by decide +kernel, rfl, by decide +kernel, by decide +kernel⟩
theorem has_hs {f C : Addr} (D : Def K mg "chances" (top 56) f) (L : Lib P w K mg base C) : Has P w K mg base 6 "chances" f ["store"] (spAt C 18 Begun) := by
  have T := L.T
  refine has_of D scHs (fun _ _ _ _ _ _ us hl => match us, hl with | [_], _ => rfl) (fun vs H Q E h => ?_) (fun cdv A outer s H vs Q E hr h => ?_)
  · obtain ⟨o, l, s, c, rfl, hc, _⟩ := h
    cases c <;> cases hc
    rfl
  · obtain ⟨o, l, s, c, rfl, hc, ⟨a, rfl⟩, ⟨hS, hA⟩, q⟩ := h
    cases c <;> cases hc
    refine ⟨_, pss_cons (ps_set (i := 1) scHs.nd rfl (Or.inl rfl) (pe_lst (pa_cons (pe_callB call_len_seq (by rfl) L.N.len bt_len (pa_cons (pe_fld (pv 0) rfl) pa_nil)) pa_nil)))
      (pss_cons (ps_for PassesOwn.never rfl (pi_list (pe_fld (pv 0) rfl)) (pg3 (K := K) (i := 2) (j := 3) (k := 4) rfl rfl scHs.nd rfl rfl rfl rfl rfl rfl)
        (pss_one (ps_expr (pe_bm PySem.F.plainAttrs_list PySem.F.slot_list_extend PySem.F.type_list_extend mt_extend (pv 1) (pa_cons (pe_lst (pa_cons (pv 2) (pa_cons (pv 3) (pa_cons (pv 4) pa_nil)))) pa_nil)))))
      (pss_one (ps_ret (pv 1)))), ?_⟩
    obtain ⟨⟨dx, ho⟩, vs, hl, ht⟩ := id hS
    have hlen := ht.len
    have hmost := hA.len
    refine ⟨_, rfl, o, C, dx, _, _, rfl, ho, T.cl, T.nR, fs_rows, l, vs, rfl, .inl (SqL.of hl), small_list (by simp), fun t ht0 => ?_⟩
    have s1 : Same H (upd H t (.lst [.int (vs.length : Nat)])) := Same.new ht0
    refine ⟨_, rfl, o, C, dx, _, _, rfl, s1 _ _ ho, T.cl, T.nR, fs_rows, l, rfl, ⟨vs, SqL.of (s1 _ _ hl)⟩, ?_⟩
    refine for_list (xs := vs) (fun i σ H' => i ≤ vs.length ∧ (∃ x y z : Option V, σ = [some (.ref o), some (.ref t), x, y, z]) ∧ Same H H' ∧ H' t = some (.lst ((((vs.length : Nat) : Int) :: flat3 (a.two.take i)).map V.int)))
      ⟨Nat.zero_le _, ⟨none, none, none, rfl⟩, s1, upd_same⟩ (fun i σ H' _ h => SqL.of (h.2.2.1 _ _ hl)) ?_ ?_
    · rintro i x σ H' hx ⟨hi, ⟨x2, y2, z2, rfl⟩, sm, hT⟩
      obtain ⟨r, p0, hr', rfl, htup⟩ := ht.get hx
      have hlt : i < vs.length := (List.getElem?_eq_some_iff.mp hx).1
      refine ⟨p0, _, rfl, SqT.of (sm _ _ htup), rfl, _, _, rfl, _, _, rfl, _, _, rfl, rfl, ?_⟩
      refine ⟨_, rfl, .inl ⟨rfl, _, SqL.of hT⟩, _, rfl, _, rfl, _, rfl, small_list (by simp), fun p2 hp2 => ?_⟩
      have s2 : Same H' (upd H' p2 (.lst [.int r.1, .int r.2.1, .int r.2.2])) := Same.new hp2
      refine ⟨t, p2, _, _, rfl, rfl, s2 _ _ hT, upd_same, ?_, ?_⟩
      · rw [List.length_map, List.length_cons, flat3_len, List.length_take]
        exact small_list (by simp; omega)
      · refine ⟨hlt, ⟨_, _, _, rfl⟩, Same.upd_new (sm.trans s2) ht0, ?_⟩
        rw [upd_same, take_snoc hr']
        have e : flat3 (a.two.take i ++ [r]) = flat3 (a.two.take i) ++ [(r.1 : Int), (r.2.1 : Int), (r.2.2 : Int)] := by
          unfold flat3
          rw [List.flatMap_append]
          rfl
        rw [e, List.map_cons, List.map_cons, List.map_append]
        rfl
    · rintro σ H' ⟨_, ⟨x2, y2, z2, rfl⟩, sm, hT⟩
      refine ⟨_, rfl, q _ _ (After.query rfl hS hA sm ht0 ?_)⟩
      rw [hT, hlen, List.take_length]
      rfl
end
end Pd
end
section
set_option Elab.async false
set_option linter.all false
set_option maxRecDepth 100000
set_option maxHeartbeats 2000000
namespace Pd
open PySem PySem.Spec PyProof.Rows L2
open Su86 (Abs)
section
variable {P : Program} {w : World} {K : PySem.W.Frag} {mg : Str → Option Value} {base : Heap}
theorem here_eq (a : Abs) : ofRows a.two 0 = a.here := rfl
theorem there_eq (a : Abs) : ofRows a.two 1 = a.there := rfl
theorem both_eq (a : Abs) : ofRows a.two 2 = a.both := rfl
theorem lent_eq (a : Abs) (q r : Nat) : Su86.sold a.both (q + r) = a.lent q r := by
  unfold Su86.sold Abs.both Abs.lent
  rw [List.map_map]
  rfl
/-! ### fair -/
theorem scFa : FnScope ["store", "here", "there", "refused", "demand_here", "demand_there", "apart"] ["store", "here", "there"] (defScope (top 52)) := ⟨rfl, rfl, rfl, by decide +kernel, rfl, by decide +kernel, by decide +kernel⟩
theorem has_fa {f C : Addr} (D : Def K mg "fair" (top 52) f) (L : Lib P w K mg base C) : Has P w K mg base 6 "fair" f ["store", "here", "there"] (spAt C 14 Begun) := by
  obtain ⟨_, GR⟩ := L.ref
  obtain ⟨_, GD⟩ := L.dem
  obtain ⟨_, GE⟩ := L.exp
  obtain ⟨_, GW⟩ := L.gw
  have T := L.T
  refine has_of D scFa (fun _ _ _ _ _ _ us hl => match us, hl with | [_, _, _], _ => rfl) (fun vs H Q E h => ?_) (fun cdv A outer s H vs Q E hr h => ?_)
  · obtain ⟨o, l, s, c, rfl, hc, _⟩ := h
    cases c <;> cases hc
    rfl
  · obtain ⟨o, l, s, c, rfl, hc, ⟨a, rfl⟩, ⟨hS, hA⟩, q⟩ := h
    cases c <;> cases hc
    rename_i m n
    have hr1 : Room 1 _ := hr.mono (by decide)
    have hr3 : Room 3 _ := hr.mono (by decide)
    have hr4 : Room 4 _ := hr.mono (by decide)
    refine ⟨_, pss_cons (ps_set (i := 3) scFa.nd rfl (Or.inl rfl) (pe_callH GR hr1 (pa_cons (pv 0) (pa_cons (pe_out2 (u := 60) (v := 60) (pv 1) (pe_con L.N.MOST_BOUGHT) (pv 2) (pe_con L.N.MOST_BOUGHT)) pa_nil))))
      (pss_cons (ps_if (pt_cmpR op_lt (pv 3) pe_int (nomark _)) (pss_one (ps_ret (pe_lst (pa_cons (pv 3) pa_nil)))) pss_nil)
      (pss_cons (ps_set (i := 4) scFa.nd rfl (Or.inl rfl) (pe_callH GD hr1 (pa_cons (pe_fld (pv 0) rfl) (pa_cons (pe_con L.N.HERE) pa_nil))))
      (pss_cons (ps_set (i := 5) scFa.nd rfl (Or.inl rfl) (pe_callH GD hr1 (pa_cons (pe_fld (pv 0) rfl) (pa_cons (pe_con L.N.THERE) pa_nil))))
      (pss_cons (ps_set (i := 6) scFa.nd rfl (Or.inl rfl) (pe_op op_add (pe_callH GW hr4 (pa_cons (pv 0) (pa_cons (pv 4) (pa_cons (pv 1) pa_nil)))) (pe_callH GW hr4 (pa_cons (pv 0) (pa_cons (pv 5) (pa_cons (pv 2) pa_nil))))))
      (pss_one (ps_ret (pe_op op_cat (pe_lst (pa_cons pe_int pa_nil)) (pe_callH GE hr3 (pa_cons (pv 4) (pa_cons (pv 6) pa_nil)))))))))), ?_⟩
    refine ⟨_, rfl, m, n, rfl, rfl, o, l, true, a, _, rfl, hS, ?_⟩
    refine ⟨_, rfl, _, _, rfl, rfl, _, rfl, ite2 (fun hb => ?_) (fun hb => ?_)⟩
    · refine ⟨_, rfl, small_list (by simp), fun p hp => q _ _ (After.query (does_ref (p := 60 < m ∨ 60 < n) (of_decide_eq_true hb)) hS hA (Same.new hp) hp upd_same)⟩
    · obtain ⟨hne, hout, hdo⟩ := does_ok (p := 60 < m ∨ 60 < n) (an := (a, Su86.num 0 (Su86.frac (a.apart m n) (Su86.all a.both)))) (fun z => hb (decide_eq_true z))
      obtain ⟨⟨dx, ho⟩, hR⟩ := id hS
      refine ⟨_, rfl, o, C, dx, _, _, rfl, ho, T.cl, T.nR, fs_rows, l, a.two, 0, rfl, hR, hA.len, fun H1 pd hpd s1 hD1 => ?_⟩
      refine ⟨_, rfl, o, C, dx, _, _, rfl, s1 _ _ ho, T.cl, T.nR, fs_rows, l, a.two, 1, rfl, hR.same s1, hA.len, fun H2 pe hpe s2 hD2 => ?_⟩
      refine ⟨_, rfl, _, rfl, _, rfl, o, l, pd, true, a, _, m, rfl, hS.same (s1.trans s2), hA.pok, by omega, hD1.same s2, hA.dok 0, fun H3 s3 => ?_⟩
      refine ⟨_, rfl, _, rfl, _, rfl, o, l, pe, true, a, _, n, rfl, hS.same (s1.trans (s2.trans s3)), hA.pok, by omega, hD2.same s3, hA.dok 1, fun H4 s4 => ?_⟩
      refine ⟨_, _, rfl, rfl, ?_⟩
      refine ⟨small_list (by simp), fun p5 hp5 => ?_⟩
      have s5 : Same H4 (upd H4 p5 (.lst [.int 0])) := Same.new hp5
      refine ⟨_, rfl, _, rfl, pd, _, _, rfl, hD1.same (s2.trans (s3.trans (s4.trans s5))), hA.dok 0, ofRows_ne hne 0, fun H6 p6 s6 hp6 h6 => ?_⟩
      have sall := s1.trans (s2.trans (s3.trans (s4.trans (s5.trans s6))))
      refine ⟨p5, p6, _, _, rfl, rfl, s6 _ _ upd_same, h6, ?_, fun p hp => q _ _ (After.query hdo hS hA (sall.trans (Same.new hp)) (sall.free hp) ?_)⟩
      · rw [List.length_map, frac_len]
        exact small_list (by simp)
      · rw [upd_same, all_eq, here_eq, there_eq]
        rfl
/-! ### lend -/
theorem scLe : FnScope ["store", "here", "there", "refused", "demand", "number"] ["store", "here", "there"] (defScope (top 53)) := ⟨rfl, rfl, rfl, by decide +kernel, rfl, by decide +kernel, by decide +kernel⟩
theorem has_le {f C : Addr} (D : Def K mg "lend" (top 53) f) (L : Lib P w K mg base C) : Has P w K mg base 6 "lend" f ["store", "here", "there"] (spAt C 15 Begun) := by
  obtain ⟨_, GR⟩ := L.ref
  obtain ⟨_, GD⟩ := L.dem
  obtain ⟨_, GE⟩ := L.exp
  obtain ⟨_, GG⟩ := L.eg
  obtain ⟨_, GS⟩ := L.sold
  have T := L.T
  refine has_of D scLe (fun _ _ _ _ _ _ us hl => match us, hl with | [_, _, _], _ => rfl) (fun vs H Q E h => ?_) (fun cdv A outer s H vs Q E hr h => ?_)
  · obtain ⟨o, l, s, c, rfl, hc, _⟩ := h
    cases c <;> cases hc
    rfl
  · obtain ⟨o, l, s, c, rfl, hc, ⟨a, rfl⟩, ⟨hS, hA⟩, q⟩ := h
    cases c <;> cases hc
    rename_i m n
    have hr1 : Room 1 _ := hr.mono (by decide)
    have hr3 : Room 3 _ := hr.mono (by decide)
    refine ⟨_, pss_cons (ps_set (i := 3) scLe.nd rfl (Or.inl rfl) (pe_callH GR hr1 (pa_cons (pv 0) (pa_cons (pe_out2 (u := 60) (v := 60) (pv 1) (pe_con L.N.MOST_BOUGHT) (pv 2) (pe_con L.N.MOST_BOUGHT)) pa_nil))))
      (pss_cons (ps_if (pt_cmpR op_lt (pv 3) pe_int (nomark _)) (pss_one (ps_ret (pe_lst (pa_cons (pv 3) pa_nil)))) pss_nil)
      (pss_cons (ps_set (i := 4) scLe.nd rfl (Or.inl rfl) (pe_callH GD hr1 (pa_cons (pe_fld (pv 0) rfl) (pa_cons (pe_con L.N.BOTH) pa_nil))))
      (pss_cons (ps_set (i := 5) scLe.nd rfl (Or.inl rfl) (pe_op op_add (pv 1) (pv 2)))
      (pss_one (ps_ret (pe_op op_cat (pe_op op_cat (pe_lst (pa_cons pe_int pa_nil)) (pe_callH GG hr (pa_cons (pv 0) (pa_cons (pv 4) (pa_cons (pv 5) pa_nil))))) (pe_callH GE hr3 (pa_cons (pv 4) (pa_cons (pe_callH GS hr1 (pa_cons (pv 4) (pa_cons (pv 5) pa_nil))) pa_nil))))))))), ?_⟩
    refine ⟨_, rfl, m, n, rfl, rfl, o, l, true, a, _, rfl, hS, ?_⟩
    refine ⟨_, rfl, _, _, rfl, rfl, _, rfl, ite2 (fun hb => ?_) (fun hb => ?_)⟩
    · refine ⟨_, rfl, small_list (by simp), fun p hp => q _ _ (After.query (does_ref (p := 60 < m ∨ 60 < n) (of_decide_eq_true hb)) hS hA (Same.new hp) hp upd_same)⟩
    · obtain ⟨hne, hout, hdo⟩ := does_ok (p := 60 < m ∨ 60 < n) (an := (a, Su86.num 0 (Su86.frac (a.shared m n) (Su86.all a.both) ++ Su86.frac (Su86.nat (a.lent m n)) (Su86.all a.both)))) (fun z => hb (decide_eq_true z))
      obtain ⟨⟨dx, ho⟩, hR⟩ := id hS
      refine ⟨_, rfl, o, C, dx, _, _, rfl, ho, T.cl, T.nR, fs_rows, l, a.two, 2, rfl, hR, hA.len, fun H1 pd hpd s1 hDem => ?_⟩
      refine ⟨_, rfl, _, rfl, _, _, rfl, rfl, ?_⟩
      refine ⟨small_list (by simp), fun p2 hp2 => ?_⟩
      have s2 : Same H1 (upd H1 p2 (.lst [.int 0])) := Same.new hp2
      refine ⟨_, rfl, _, rfl, _, rfl, o, l, pd, true, a, _, m + n, rfl, hS.same (s1.trans s2), hA.pok, by omega, hDem.same s2, hA.dok 2, ofRows_ne hne 2, fun H3 p3 s3 hp3 h3 => ?_⟩
      refine ⟨p2, p3, _, _, rfl, rfl, s3 _ _ upd_same, h3, ?_, fun p4 hp4 => ?_⟩
      · rw [List.length_map, frac_len]
        exact small_list (by simp)
      have s4 : Same H3 (upd H3 p4 (.lst ([.int 0] ++ (Su86.frac (a.gain (ofRows a.two 2) (m + n)) (Su86.all (ofRows a.two 2))).map V.int))) := Same.new hp4
      refine ⟨_, rfl, _, rfl, _, rfl, pd, _, m + n, rfl, by omega, hDem.same (s2.trans (s3.trans s4)), hA.dok 2, fun H5 s5 => ?_⟩
      refine ⟨pd, _, _, rfl, hDem.same (s2.trans (s3.trans (s4.trans s5))), hA.dok 2, ofRows_ne hne 2, fun H6 p6 s6 hp6 h6 => ?_⟩
      have sall := s1.trans (s2.trans (s3.trans (s4.trans (s5.trans s6))))
      refine ⟨p4, p6, _, _, rfl, rfl, s6 _ _ (s5 _ _ upd_same), h6, ?_, fun p hp => q _ _ (After.query hdo hS hA (sall.trans (Same.new hp)) (sall.free hp) ?_)⟩
      · rw [List.length_append, List.length_map, List.length_map, frac_len, frac_len]
        exact small_list (by simp)
      · rw [upd_same, both_eq, lent_eq, List.append_assoc, ← List.map_append]
        rfl
/-! ### pool -/
theorem scPo : FnScope ["store", "refused", "here", "there", "both", "best_here", "best_there", "best_both", "apart", "together"] ["store"] (defScope (top 51)) := ⟨rfl, rfl, rfl, by decide +kernel, rfl, by decide +kernel, by decide +kernel⟩
theorem has_po {f C : Addr} (D : Def K mg "pool" (top 51) f) (L : Lib P w K mg base C) : Has P w K mg base 6 "pool" f ["store"] (spAt C 13 Begun) := by
  obtain ⟨_, GR⟩ := L.ref
  obtain ⟨_, GD⟩ := L.dem
  obtain ⟨_, GE⟩ := L.exp
  obtain ⟨_, GW⟩ := L.gw
  obtain ⟨_, GB⟩ := L.bn
  have T := L.T
  refine has_of D scPo (fun _ _ _ _ _ _ us hl => match us, hl with | [_], _ => rfl) (fun vs H Q E h => ?_) (fun cdv A outer s H vs Q E hr h => ?_)
  · obtain ⟨o, l, s, c, rfl, hc, _⟩ := h
    cases c <;> cases hc
    rfl
  · obtain ⟨o, l, s, c, rfl, hc, ⟨a, rfl⟩, ⟨hS, hA⟩, q⟩ := h
    cases c <;> cases hc
    have hr1 : Room 1 _ := hr.mono (by decide)
    have hr3 : Room 3 _ := hr.mono (by decide)
    have hr4 : Room 4 _ := hr.mono (by decide)
    refine ⟨_, pss_cons (ps_set (i := 1) scPo.nd rfl (Or.inl rfl) (pe_callH GR hr1 (pa_cons (pv 0) (pa_cons pe_bl pa_nil))))
      (pss_cons (ps_if (pt_cmpR op_lt (pv 1) pe_int (nomark _)) (pss_one (ps_ret (pe_lst (pa_cons (pv 1) pa_nil)))) pss_nil)
      (pss_cons (ps_set (i := 2) scPo.nd rfl (Or.inl rfl) (pe_callH GD hr1 (pa_cons (pe_fld (pv 0) rfl) (pa_cons (pe_con L.N.HERE) pa_nil))))
      (pss_cons (ps_set (i := 3) scPo.nd rfl (Or.inl rfl) (pe_callH GD hr1 (pa_cons (pe_fld (pv 0) rfl) (pa_cons (pe_con L.N.THERE) pa_nil))))
      (pss_cons (ps_set (i := 4) scPo.nd rfl (Or.inl rfl) (pe_callH GD hr1 (pa_cons (pe_fld (pv 0) rfl) (pa_cons (pe_con L.N.BOTH) pa_nil))))
      (pss_cons (ps_set (i := 5) scPo.nd rfl (Or.inl rfl) (pe_callH GB hr (pa_cons (pv 0) (pa_cons (pv 2) pa_nil))))
      (pss_cons (ps_set (i := 6) scPo.nd rfl (Or.inl rfl) (pe_callH GB hr (pa_cons (pv 0) (pa_cons (pv 3) pa_nil))))
      (pss_cons (ps_set (i := 7) scPo.nd rfl (Or.inl rfl) (pe_callH GB hr (pa_cons (pv 0) (pa_cons (pv 4) pa_nil))))
      (pss_cons (ps_set (i := 8) scPo.nd rfl (Or.inl rfl) (pe_op op_add (pe_callH GW hr4 (pa_cons (pv 0) (pa_cons (pv 2) (pa_cons (pv 5) pa_nil)))) (pe_callH GW hr4 (pa_cons (pv 0) (pa_cons (pv 3) (pa_cons (pv 6) pa_nil))))))
      (pss_cons (ps_set (i := 9) scPo.nd rfl (Or.inl rfl) (pe_callH GW hr4 (pa_cons (pv 0) (pa_cons (pv 4) (pa_cons (pv 7) pa_nil)))))
      (pss_one (ps_ret (pe_op op_cat (pe_lst (pa_cons (pv 7) (pa_cons (pv 5) (pa_cons (pv 6) pa_nil)))) (pe_callH GE hr3 (pa_cons (pv 4) (pa_cons (pe_op op_sub (pv 9) (pv 8)) pa_nil))))))))))))))), ?_⟩
    refine ⟨_, rfl, o, l, true, a, _, rfl, hS, ?_⟩
    refine ⟨_, rfl, _, _, rfl, rfl, _, rfl, ite2 (fun hb => ?_) (fun hb => ?_)⟩
    · refine ⟨_, rfl, small_list (by simp), fun p hp => q _ _ (After.query (does_ref0 (of_decide_eq_true hb)) hS hA (Same.new hp) hp upd_same)⟩
    · obtain ⟨hne, hdo⟩ := does_ok0 (an := (a, Su86.num (a.best a.both) ([Su86.nat (a.best a.here), Su86.nat (a.best a.there)] ++ Su86.frac (a.gain a.both (a.best a.both) - (a.gain a.here (a.best a.here) + a.gain a.there (a.best a.there))) (Su86.all a.both)))) (fun z => hb (decide_eq_true z))
      obtain ⟨⟨dx, ho⟩, hR⟩ := id hS
      refine ⟨_, rfl, o, C, dx, _, _, rfl, ho, T.cl, T.nR, fs_rows, l, a.two, 0, rfl, hR, hA.len, fun H1 pd hpd s1 hD1 => ?_⟩
      refine ⟨_, rfl, o, C, dx, _, _, rfl, s1 _ _ ho, T.cl, T.nR, fs_rows, l, a.two, 1, rfl, hR.same s1, hA.len, fun H2 pe hpe s2 hD2 => ?_⟩
      have t2 := s1.trans s2
      refine ⟨_, rfl, o, C, dx, _, _, rfl, t2 _ _ ho, T.cl, T.nR, fs_rows, l, a.two, 2, rfl, hR.same t2, hA.len, fun H3 pf hpf s3 hD3 => ?_⟩
      have t3 := t2.trans s3
      have hD1 := hD1.same (s2.trans s3)
      have hD2 := hD2.same s3
      refine ⟨_, rfl, _, rfl, o, l, pd, true, a, _, rfl, hS.same t3, hA.pok, hD1, hA.dok 0, fun H4 s4 => ?_⟩
      refine ⟨_, rfl, _, rfl, o, l, pe, true, a, _, rfl, hS.same (t3.trans s4), hA.pok, hD2.same s4, hA.dok 1, fun H5 s5 => ?_⟩
      have t5 := s4.trans s5
      refine ⟨_, rfl, _, rfl, o, l, pf, true, a, _, rfl, hS.same (t3.trans t5), hA.pok, hD3.same t5, hA.dok 2, fun H6 s6 => ?_⟩
      have t6 := t5.trans s6
      refine ⟨_, rfl, _, rfl, _, rfl, o, l, pd, true, a, _, _, rfl, hS.same (t3.trans t6), hA.pok, Nat.le_trans (best_le _ _) (by decide), hD1.same t6, hA.dok 0, fun H7 s7 => ?_⟩
      have t7 := t6.trans s7
      refine ⟨_, rfl, _, rfl, _, rfl, o, l, pe, true, a, _, _, rfl, hS.same (t3.trans t7), hA.pok, Nat.le_trans (best_le _ _) (by decide), hD2.same t7, hA.dok 1, fun H8 s8 => ?_⟩
      have t8 := t7.trans s8
      refine ⟨_, _, rfl, rfl, ?_⟩
      refine ⟨_, rfl, _, rfl, _, rfl, o, l, pf, true, a, _, _, rfl, hS.same (t3.trans t8), hA.pok, Nat.le_trans (best_le _ _) (by decide), hD3.same t8, hA.dok 2, fun H9 s9 => ?_⟩
      have t9 := t8.trans s9
      refine ⟨_, rfl, _, rfl, _, rfl, small_list (by simp), fun p10 hp10 => ?_⟩
      have s10 : Same H9 (upd H9 p10 (.lst [.int (a.best (ofRows a.two 2) : Nat), .int (a.best (ofRows a.two 0) : Nat), .int (a.best (ofRows a.two 1) : Nat)])) := Same.new hp10
      refine ⟨_, rfl, _, rfl, _, rfl, _, _, rfl, rfl, pf, _, _, rfl, hD3.same (t9.trans s10), hA.dok 2, ofRows_ne hne 2, fun H11 p11 s11 hp11 h11 => ?_⟩
      have sall := t3.trans (t9.trans (s10.trans s11))
      refine ⟨p10, p11, _, _, rfl, rfl, s11 _ _ upd_same, h11, ?_, fun p hp => q _ _ (After.query hdo hS hA (sall.trans (Same.new hp)) (sall.free hp) ?_)⟩
      · rw [List.length_map, frac_len]
        exact small_list (by simp)
      · rw [upd_same, here_eq, there_eq, both_eq]
        rfl
end
end Pd
end
section
set_option Elab.async false
set_option linter.all false
set_option maxRecDepth 100000
set_option maxHeartbeats 2000000
namespace Pd
open PySem PySem.Spec PyProof.Rows L2
open Su86 (Abs)
section
variable {P : Program} {w : World} {K : PySem.W.Frag} {mg : Str → Option Value} {base : Heap}
/-- out of range of dear, as a value -/
def tDear (C : Addr) : TE := fun σ H Q => ∃ (o l : Addr) (b : Bool) (a : Abs) (wn c : Nat), σ[0]? = some (some (.ref o)) ∧ σ[1]? = some (some (.int wn)) ∧ σ[2]? = some (some (.int c)) ∧ StoreAt C H o l b a ∧
  Q (.bl (decide (2 < wn ∨ Su86.okC c a.price a.back = false))) H
/-! ### dear -/
theorem scDe : FnScope ["store", "of", "cost", "refused", "demand"] ["store", "of", "cost"] (defScope (top 54)) := ⟨rfl, rfl, rfl, by decide +kernel, rfl, by decide +kernel, by decide +kernel⟩
theorem has_de {f C : Addr} (D : Def K mg "dear" (top 54) f) (L : Lib P w K mg base C) : Has P w K mg base 6 "dear" f ["store", "of", "cost"] (spAt C 16 Begun) := by
  obtain ⟨_, GR⟩ := L.ref
  obtain ⟨_, GD⟩ := L.dem
  obtain ⟨_, GF⟩ := L.fit
  obtain ⟨_, GB⟩ := L.best
  obtain ⟨_, GN⟩ := L.bn
  have T := L.T
  refine has_of D scDe (fun _ _ _ _ _ _ us hl => match us, hl with | [_, _, _], _ => rfl) (fun vs H Q E h => ?_) (fun cdv A outer s H vs Q E hr h => ?_)
  · obtain ⟨o, l, s, c, rfl, hc, _⟩ := h
    cases c <;> cases hc
    rfl
  · obtain ⟨o, l, s, c, rfl, hc, ⟨a, rfl⟩, ⟨hS, hA⟩, q⟩ := h
    cases c <;> cases hc
    rename_i wn c
    have hr1 : Room 1 _ := hr.mono (by decide)
    have hr4 : Room 4 _ := hr.mono (by decide)
    refine ⟨_, pss_cons (ps_set (i := 3) scDe.nd rfl (Or.inl rfl) (pe_callH GR hr1 (pa_cons (pv 0) (pa_cons (pe_le (t' := tDear C) (pe_or (pe_cmpR op_gt (pv 1) (pe_con L.N.BOTH) (nomark _)) (pe_one (pe_not (pe_callH GF hr1 (pa_cons (pv 2) (pa_cons (pe_fld (pv 0) rfl) (pa_cons (pe_fld (pv 0) rfl) pa_nil)))))))
          (by
            rintro σ H Q ⟨o, l, b, a, wn, c, e0, e1, e2, ⟨⟨dx, ho⟩, _⟩, q⟩
            refine ⟨_, e1, _, _, rfl, rfl, _, rfl, ite2 (fun hb => ?_) (fun hb => ?_)⟩
            · have hb : (2 : Int) < (wn : Int) := of_decide_eq_true hb
              rw [decide_eq_true (show 2 < wn ∨ Su86.okC c a.price a.back = false from .inl (by omega))] at q
              exact q
            · have hb : ¬ (2 : Int) < (wn : Int) := fun z => hb (decide_eq_true z)
              refine ⟨_, e2, _, e0, o, C, dx, _, _, rfl, ho, T.cl, T.nP, fs_price, _, e0, o, C, dx, _, _, rfl, ho, T.cl, T.nK, fs_back, c, a.price, a.back, rfl, _, rfl, ?_⟩
              have z : (!Su86.okC c a.price a.back) = decide (2 < wn ∨ Su86.okC c a.price a.back = false) := by
                have hw : ¬ 2 < wn := by omega
                cases Su86.okC c a.price a.back <;> simp [hw]
              rw [z]
              exact q)) pa_nil))))
      (pss_cons (ps_if (pt_cmpR op_lt (pv 3) pe_int (nomark _)) (pss_one (ps_ret (pe_lst (pa_cons (pv 3) pa_nil)))) pss_nil)
      (pss_cons (ps_set (i := 4) scDe.nd rfl (Or.inl rfl) (pe_callH GD hr1 (pa_cons (pe_fld (pv 0) rfl) (pa_cons (pv 1) pa_nil))))
      (pss_one (ps_ret (pe_lst (pa_cons (pe_callH GB hr4 (pa_cons (pv 4) (pa_cons (pv 2) (pa_cons (pe_fld (pv 0) rfl) (pa_cons (pe_fld (pv 0) rfl) pa_nil))))) (pa_cons (pe_callH GN hr (pa_cons (pv 0) (pa_cons (pv 4) pa_nil))) pa_nil))))))), ?_⟩
    refine ⟨_, rfl, o, l, true, a, wn, c, rfl, rfl, rfl, hS, o, l, true, a, _, rfl, hS, ?_⟩
    refine ⟨_, rfl, _, _, rfl, rfl, _, rfl, ite2 (fun hb => ?_) (fun hb => ?_)⟩
    · refine ⟨_, rfl, small_list (by simp), fun p hp => q _ _ (After.query (does_ref (p := 2 < wn ∨ Su86.okC c a.price a.back = false) (of_decide_eq_true hb)) hS hA (Same.new hp) hp upd_same)⟩
    · obtain ⟨hne, hout, hdo⟩ := does_ok (p := 2 < wn ∨ Su86.okC c a.price a.back = false) (an := (a, Su86.num (({ a with cost := c } : Abs).best (a.of wn)) [Su86.nat (a.best (a.of wn))])) (fun z => hb (decide_eq_true z))
      have hok : Su86.okC c a.price a.back = true := by
        cases e : Su86.okC c a.price a.back with
        | true => rfl
        | false => exact absurd (.inr e) hout
      obtain ⟨h1, h2, h3, h4⟩ := okC_ok hok
      obtain ⟨⟨dx, ho⟩, hR⟩ := id hS
      refine ⟨_, rfl, o, C, dx, _, _, rfl, ho, T.cl, T.nR, fs_rows, _, rfl, l, a.two, wn, rfl, hR, hA.len, fun H1 pd hpd s1 hDem => ?_⟩
      refine ⟨_, rfl, _, rfl, _, rfl, o, C, dx, _, _, rfl, s1 _ _ ho, T.cl, T.nP, fs_price, _, rfl, o, C, dx, _, _, rfl, s1 _ _ ho, T.cl, T.nK, fs_back, pd, _, { a with cost := c }, rfl, ⟨h1, h2, h3, h4⟩, hDem, hA.dok wn, fun H2 s2 => ?_⟩
      refine ⟨_, rfl, _, rfl, o, l, pd, true, a, _, rfl, hS.same (s1.trans s2), hA.pok, hDem.same s2, hA.dok wn, fun H3 s3 => ?_⟩
      have sall := s1.trans (s2.trans s3)
      refine ⟨small_list (by simp), fun p hp => q _ _ (After.query hdo hS hA (sall.trans (Same.new hp)) (sall.free hp) ?_)⟩
      rw [upd_same]
      rfl
/-- 1 if the one is never more often met, else 0 -/
def tMet (i j : Nat) : TE := fun σ H Q => ∃ (p r : Addr) (d m : List (Nat × Nat)), σ[i]? = some (some (.ref p)) ∧ σ[j]? = some (some (.ref r)) ∧ Dem H p d ∧ DOk d ∧ Dem H r m ∧ DOk m ∧
  ∀ H', Same H H' → Q (.int (if metB d m = true then 1 else 0)) H'
/-! ### stronger -/
theorem scSr : FnScope ["store", "refused", "here", "there", "by_here", "by_there"] ["store"] (defScope (top 55)) := ⟨rfl, rfl, rfl, by decide +kernel, rfl, by decide +kernel, by decide +kernel⟩
theorem has_sr {f C : Addr} (D : Def K mg "stronger" (top 55) f) (L : Lib P w K mg base C) : Has P w K mg base 6 "stronger" f ["store"] (spAt C 17 Begun) := by
  obtain ⟨_, GR⟩ := L.ref
  obtain ⟨_, GD⟩ := L.dem
  obtain ⟨_, GM⟩ := L.met
  have T := L.T
  refine has_of D scSr (fun _ _ _ _ _ _ us hl => match us, hl with | [_], _ => rfl) (fun vs H Q E h => ?_) (fun cdv A outer s H vs Q E hr h => ?_)
  · obtain ⟨o, l, s, c, rfl, hc, _⟩ := h
    cases c <;> cases hc
    rfl
  · obtain ⟨o, l, s, c, rfl, hc, ⟨a, rfl⟩, ⟨hS, hA⟩, q⟩ := h
    cases c <;> cases hc
    have hr1 : Room 1 _ := hr.mono (by decide)
    have hr2 : Room 2 _ := hr.mono (by decide)
    refine ⟨_, pss_cons (ps_set (i := 1) scSr.nd rfl (Or.inl rfl) (pe_callH GR hr1 (pa_cons (pv 0) (pa_cons pe_bl pa_nil))))
      (pss_cons (ps_if (pt_cmpR op_lt (pv 1) pe_int (nomark _)) (pss_one (ps_ret (pe_lst (pa_cons (pv 1) pa_nil)))) pss_nil)
      (pss_cons (ps_set (i := 2) scSr.nd rfl (Or.inl rfl) (pe_callH GD hr1 (pa_cons (pe_fld (pv 0) rfl) (pa_cons (pe_con L.N.HERE) pa_nil))))
      (pss_cons (ps_set (i := 3) scSr.nd rfl (Or.inl rfl) (pe_callH GD hr1 (pa_cons (pe_fld (pv 0) rfl) (pa_cons (pe_con L.N.THERE) pa_nil))))
      (pss_cons (ps_set (i := 4) scSr.nd rfl (Or.inl rfl) (pe_le (t' := tMet 2 3) (pe_ifExp (pt_val (pe_callH GM hr2 (pa_cons (pv 2) (pa_cons (pv 3) pa_nil)))) pe_int pe_int)
          (by
            rintro σ H Q ⟨p, r, d, m, e1, e2, h1, h2, h3, h4, q⟩
            refine ⟨_, e1, _, e2, p, r, d, m, rfl, h1, h2, h3, h4, fun H' s' => ⟨_, rfl, ite2 (fun hb => ?_) (fun hb => ?_)⟩⟩
            · have := q H' s'
              rw [if_pos hb] at this
              exact this
            · have := q H' s'
              rw [if_neg hb] at this
              exact this)))
      (pss_cons (ps_set (i := 5) scSr.nd rfl (Or.inl rfl) (pe_le (t' := tMet 3 2) (pe_ifExp (pt_val (pe_callH GM hr2 (pa_cons (pv 3) (pa_cons (pv 2) pa_nil)))) pe_int pe_int)
          (by
            rintro σ H Q ⟨p, r, d, m, e1, e2, h1, h2, h3, h4, q⟩
            refine ⟨_, e1, _, e2, p, r, d, m, rfl, h1, h2, h3, h4, fun H' s' => ⟨_, rfl, ite2 (fun hb => ?_) (fun hb => ?_)⟩⟩
            · have := q H' s'
              rw [if_pos hb] at this
              exact this
            · have := q H' s'
              rw [if_neg hb] at this
              exact this)))
      (pss_one (ps_ret (pe_lst (pa_cons (pv 4) (pa_cons (pv 5) pa_nil)))))))))), ?_⟩
    refine ⟨_, rfl, o, l, true, a, _, rfl, hS, ?_⟩
    refine ⟨_, rfl, _, _, rfl, rfl, _, rfl, ite2 (fun hb => ?_) (fun hb => ?_)⟩
    · refine ⟨_, rfl, small_list (by simp), fun p hp => q _ _ (After.query (does_ref0 (of_decide_eq_true hb)) hS hA (Same.new hp) hp upd_same)⟩
    · obtain ⟨hne, hdo⟩ := does_ok0 (an := (a, Su86.num (if Su86.stronger a.here a.there then 1 else 0) [if Su86.stronger a.there a.here then 1 else 0])) (fun z => hb (decide_eq_true z))
      obtain ⟨⟨dx, ho⟩, hR⟩ := id hS
      refine ⟨_, rfl, o, C, dx, _, _, rfl, ho, T.cl, T.nR, fs_rows, l, a.two, 0, rfl, hR, hA.len, fun H1 pd hpd s1 hD1 => ?_⟩
      refine ⟨_, rfl, o, C, dx, _, _, rfl, s1 _ _ ho, T.cl, T.nR, fs_rows, l, a.two, 1, rfl, hR.same s1, hA.len, fun H2 pe hpe s2 hD2 => ?_⟩
      refine ⟨pd, pe, _, _, rfl, rfl, hD1.same s2, hA.dok 0, hD2, hA.dok 1, fun H3 s3 => ?_⟩
      refine ⟨pe, pd, _, _, rfl, rfl, hD2.same s3, hA.dok 1, hD1.same (s2.trans s3), hA.dok 0, fun H4 s4 => ?_⟩
      have sall := s1.trans (s2.trans (s3.trans s4))
      refine ⟨_, rfl, _, rfl, small_list (by simp), fun p hp => q _ _ (After.query hdo hS hA (sall.trans (Same.new hp)) (sall.free hp) ?_)⟩
      have p0 := all_pos (hA.dok 0) (ofRows_ne hne 0)
      have p1 := all_pos (hA.dok 1) (ofRows_ne hne 1)
      have e01 : Su86.all (ofRows a.two 0) = Su86.all (ofRows a.two 1) := (all_eq a 0).trans (all_eq a 1).symm
      rw [upd_same, ← stronger_eq e01 p0, ← stronger_eq e01.symm p1, here_eq, there_eq]
      cases Su86.stronger a.here a.there <;> cases Su86.stronger a.there a.here <;> rfl
end
end Pd
end
section
set_option Elab.async false
set_option linter.all false
set_option maxRecDepth 100000
set_option maxHeartbeats 2000000
namespace Pd
open PySem PySem.Spec PyProof.Rows L2
open Su86 (Abs)
/-! ### how long an answer is -/
theorem ans_len {a : Abs} (hA : a.two.length ≤ 30) (c : Su86.Call) : (ans (Su86.does a c).2).length ≤ 91 := by
  have fl := @frac_len
  cases c <;> unfold Su86.does ans <;> dsimp only <;> (repeat' split) <;> simp [Su86.no, Su86.num, fl]
  have := sum_le (f := fun _ : Nat × Nat × Nat => 3) (m := 3) (l := a.two) (fun _ _ => Nat.le_refl _)
  omega
theorem step_len {s : Option Abs} (hA : ∀ a, s = some a → a.two.length ≤ 30) (c : Su86.Call) : (ans (Su86.step s c).2).length ≤ 91 := by
  cases s with
  | none =>
    cases c <;> first | exact (by decide : (1 : Nat) ≤ 91) | exact ans_len (a := Su86.new 0 1 0) (by decide) _
  | some a => exact ans_len (hA a rfl) c
theorem step_none {c : Su86.Call} (h : code c ≠ 0) : Su86.step none c = (none, Su86.no (-11)) := by
  cases c <;> first | rfl | exact absurd rfl h
theorem args_len (c : Su86.Call) : (args c).length ≤ 3 := by
  cases c <;> simp [args]
section
variable {P : Program} {w : World} {K : PySem.W.Frag} {mg : Str → Option Value} {base : Heap}
def Fn (P : Program) (w : World) (K : PySem.W.Frag) (mg : Str → Option Value) (base : Heap) (k : Nat) (f : Addr) (ps : List Str) (sp : Sp) : Prop :=
  ∃ fd, FnOk P w K mg base CX0 k f fd ps sp ∧ PySem.W.keepIn K (.ref f) = true ∧ Binds K fd ps []
theorem Has.fn {k : Nat} {name : Str} {f : Addr} {ps : List Str} {sp : Sp} (h : Has P w K mg base k name f ps sp) : Fn P w K mg base k f ps sp := by
  obtain ⟨fd, h1, _, h3, h4⟩ := h
  exact ⟨fd, h1, h3, h4⟩
/-! ### made -/
def spMade (P : Program) (w : World) (K : PySem.W.Frag) (mg : Str → Option Value) (base : Heap) (C : Addr) : Sp := fun vs H Q _ => ∃ (f o nl l : Addr) (s : Option Abs) (c : Su86.Call) (ps : List Str) (ok : Option Abs → Prop), vs = [.ref f, .ref o, .ref nl] ∧
  Fn P w K mg base 6 f ps (spAt C (code c) ok) ∧ ok s ∧ StAt C H o l s ∧ H nl = some (.lst (nums (args c))) ∧ ∀ v H', After C H H' o l (Su86.step s c).1 (ans (Su86.step s c).2) v → Q v H'
theorem scMd : FnScope ["call", "store", "numbers"] ["call", "store", "numbers"] (defScope (top 62)) := ⟨rfl, rfl, rfl, by decide +kernel, rfl, by decide +kernel, by decide +kernel⟩
theorem has_md {f C : Addr} (D : Def K mg "made" (top 62) f) (N : Con1 mg) : Has P w K mg base 7 "made" f ["call", "store", "numbers"] (spMade P w K mg base C) := by
  refine has_of D scMd (fun _ _ _ _ _ _ us hl => match us, hl with | [_, _, _], _ => rfl) (fun vs H Q E h => ?_) (fun cdv A outer s H vs Q E hr h => ?_)
  · obtain ⟨f, o, nl, l, s, c, ps, ok, rfl, _⟩ := h
    rfl
  · obtain ⟨f, o, nl, l, s, c, ps, ok, rfl, ⟨fd, F, hk, hb⟩, hok, hS, hnl, q⟩ := h
    refine ⟨_, pss_cons (ps_if (pt_cmpR op_eq (pe_callB call_len_seq (by rfl) N.len bt_len (pa_cons (pv 2) pa_nil)) pe_int (nomark _)) (pss_one (ps_ret (pe_callV (i := 0) hr (pa_cons (pv 1) pa_nil)))) pss_nil)
      (pss_cons (ps_if (pt_cmpR op_eq (pe_callB call_len_seq (by rfl) N.len bt_len (pa_cons (pv 2) pa_nil)) pe_int (nomark _)) (pss_one (ps_ret (pe_callV (i := 0) hr (pa_cons (pv 1) (pa_cons (pe_ix ix_list (pv 2) pe_int (fun _ _ => rfl)) pa_nil))))) pss_nil)
      (pss_cons (ps_if (pt_cmpR op_eq (pe_callB call_len_seq (by rfl) N.len bt_len (pa_cons (pv 2) pa_nil)) pe_int (nomark _)) (pss_one (ps_ret (pe_callV (i := 0) hr (pa_cons (pv 1) (pa_cons (pe_ix ix_list (pv 2) pe_int (fun _ _ => rfl)) (pa_cons (pe_ix ix_list (pv 2) pe_int (fun _ _ => rfl)) pa_nil)))))) pss_nil)
      (pss_one (ps_ret (pe_callV (i := 0) hr (pa_cons (pv 1) (pa_cons (pe_ix ix_list (pv 2) pe_int (fun _ _ => rfl)) (pa_cons (pe_ix ix_list (pv 2) pe_int (fun _ _ => rfl)) (pa_cons (pe_ix ix_list (pv 2) pe_int (fun _ _ => rfl)) pa_nil))))))))), ?_⟩
    have h3 := args_len c
    have no : ∀ {m : Int} {n : Nat} {X : Prop}, ¬ (n : Int) = m → decide (V.int (n : Int) = V.int m) = true → X := fun h z => absurd (V.int.inj (of_decide_eq_true z)) h
    rcases e : args c with _ | ⟨x, _ | ⟨y, _ | ⟨z, _ | ⟨u, r⟩⟩⟩⟩
    · rw [e] at hnl
      refine ⟨_, rfl, nl, _, rfl, .inl (SqL.of hnl), rfl, _, rfl, ite2 (fun _ => ?_) (fun h => absurd (decide_eq_true rfl) h)⟩
      exact ⟨f, fd, ps, _, rfl, F, hk, hb, _, rfl, o, l, s, c, by rw [e]; rfl, rfl, hok, hS, q⟩
    · rw [e] at hnl
      refine ⟨_, rfl, nl, _, rfl, .inl (SqL.of hnl), rfl, _, rfl, ite2 (no (by simp [nums])) (fun _ => ?_)⟩
      refine ⟨_, rfl, nl, _, rfl, .inl (SqL.of hnl), rfl, _, rfl, ite2 (fun _ => ?_) (fun h => absurd (decide_eq_true rfl) h)⟩
      exact ⟨f, fd, ps, _, rfl, F, hk, hb, _, rfl, _, rfl, nl, _, 0, _, rfl, rfl, SqL.of hnl, atI_nat (j := 0) rfl, o, l, s, c, by rw [e]; rfl, rfl, hok, hS, q⟩
    · rw [e] at hnl
      refine ⟨_, rfl, nl, _, rfl, .inl (SqL.of hnl), rfl, _, rfl, ite2 (no (by simp [nums])) (fun _ => ?_)⟩
      refine ⟨_, rfl, nl, _, rfl, .inl (SqL.of hnl), rfl, _, rfl, ite2 (no (by simp [nums])) (fun _ => ?_)⟩
      refine ⟨_, rfl, nl, _, rfl, .inl (SqL.of hnl), rfl, _, rfl, ite2 (fun _ => ?_) (fun h => absurd (decide_eq_true rfl) h)⟩
      exact ⟨f, fd, ps, _, rfl, F, hk, hb, _, rfl, _, rfl, nl, _, 0, _, rfl, rfl, SqL.of hnl, atI_nat (j := 0) rfl, _, rfl, nl, _, 1, _, rfl, rfl, SqL.of hnl, atI_nat (j := 1) rfl, o, l, s, c, by rw [e]; rfl, rfl, hok, hS, q⟩
    · rw [e] at hnl
      refine ⟨_, rfl, nl, _, rfl, .inl (SqL.of hnl), rfl, _, rfl, ite2 (no (by simp [nums])) (fun _ => ?_)⟩
      refine ⟨_, rfl, nl, _, rfl, .inl (SqL.of hnl), rfl, _, rfl, ite2 (no (by simp [nums])) (fun _ => ?_)⟩
      refine ⟨_, rfl, nl, _, rfl, .inl (SqL.of hnl), rfl, _, rfl, ite2 (no (by simp [nums])) (fun _ => ?_)⟩
      exact ⟨f, fd, ps, _, rfl, F, hk, hb, _, rfl, _, rfl, nl, _, 0, _, rfl, rfl, SqL.of hnl, atI_nat (j := 0) rfl, _, rfl, nl, _, 1, _, rfl, rfl, SqL.of hnl, atI_nat (j := 1) rfl,
        _, rfl, nl, _, 2, _, rfl, rfl, SqL.of hnl, atI_nat (j := 2) rfl, o, l, s, c, by rw [e]; rfl, rfl, hok, hS, q⟩
    · rw [e] at h3
      simp at h3
/-! ### answer_to -/
/-- the calls' table: the functions' addresses in the tuple at aC -/
def Table (P : Program) (w : World) (K : PySem.W.Frag) (mg : Str → Option Value) (base : Heap) (C aC : Addr) : Prop := ∃ fs : List Addr, (∀ H, SqT K H aC (fs.map V.ref)) ∧
  ∀ c : Su86.Call, ∃ f ps, fs[code c]? = some f ∧ Fn P w K mg base 6 f ps (spAt C (code c) (if code c = 0 then AnyS else Begun))
def spTo (C : Addr) : Sp := fun vs H Q _ => ∃ (o nl l : Addr) (s : Option Abs) (c : Su86.Call), vs = [.ref o, .int (code c), .ref nl] ∧ StAt C H o l s ∧ H nl = some (.lst (nums (args c))) ∧
  ∀ v H', After C H H' o l (Su86.step s c).1 (ans (Su86.step s c).2) v → Q v H'
theorem scTo : FnScope ["store", "which", "numbers"] ["store", "which", "numbers"] (defScope (top 63)) := ⟨rfl, rfl, rfl, by decide +kernel, rfl, by decide +kernel, by decide +kernel⟩
theorem has_to {f f1 C aC : Addr} (D : Def K mg "answer_to" (top 63) f) (T : Txt K mg C) (N : Con1 mg) (hB : ∃ t, mg "BEGIN" = some (.int 0 t)) (hC : mg "CALLS" = some (.ref aC)) (TB : Table P w K mg base C aC)
    (GM : Has P w K mg base 7 "made" f1 ["call", "store", "numbers"] (spMade P w K mg base C)) : Has P w K mg base 8 "answer_to" f ["store", "which", "numbers"] (spTo C) := by
  obtain ⟨fs, hT, hF⟩ := TB
  refine has_of D scTo (fun _ _ _ _ _ _ us hl => match us, hl with | [_, _, _], _ => rfl) (fun vs H Q E h => ?_) (fun cdv A outer s H vs Q E hr h => ?_)
  · obtain ⟨o, nl, l, s, c, rfl, _⟩ := h
    rfl
  · obtain ⟨o, nl, l, s, c, rfl, hS, hnl, q⟩ := h
    refine ⟨_, pss_cons (ps_if (PW.pt (pw_and (pt_cmpR op_ne (pv 1) (pe_con hB) (nomark _)) (pw_and1 (pt_not (pt_val (pe_fld (pv 0) rfl)))))) (pss_one (ps_ret (pe_lst (pa_cons (pe_con N.NOT_BEGUN) pa_nil)))) pss_nil)
      (pss_one (ps_ret (pe_callH GM hr (pa_cons (pe_ix ix_tup (pe_glob (v := .ref aC) rfl hC rfl) (pv 1) (fun _ _ => rfl)) (pa_cons (pv 0) (pa_cons (pv 2) pa_nil)))))), ?_⟩
    obtain ⟨b, a, ⟨dx, ho⟩, hR⟩ := hS.store
    obtain ⟨f, ps, hf, hFn⟩ := hF c
    refine ⟨_, rfl, rfl, _, rfl, ite2 (fun hb => ?_) (fun hb => ?_)⟩
    · have hc0 : code c ≠ 0 := fun z => by
        rw [z] at hb
        simp at hb
      cases s with
      | none =>
        obtain ⟨⟨dx, ho⟩, _⟩ := id hS
        refine ⟨_, rfl, o, C, dx, _, _, rfl, ho, T.cl, T.nB, fs_begun, _, rfl, iteT ?_⟩
        refine ⟨small_list (by simp), fun p hp => q _ _ ?_⟩
        rw [step_none hc0]
        exact After.refused hS hp
      | some a =>
        obtain ⟨⟨⟨dx, ho⟩, _⟩, hA⟩ := id hS
        refine ⟨_, rfl, o, C, dx, _, _, rfl, ho, T.cl, T.nB, fs_begun, _, rfl, iteF ?_⟩
        refine ⟨_, rfl, aC, _, _, V.ref f, rfl, rfl, hT _, atI_nat (by rw [List.getElem?_map, hf]; rfl), _, rfl, _, rfl, f, o, nl, l, some a, c, ps, _, rfl, hFn, ?_, hS, hnl, q⟩
        rw [if_neg hc0]
        exact ⟨a, rfl⟩
    · have hc0 : code c = 0 := by
        simp at hb
        omega
      refine ⟨_, rfl, aC, _, _, V.ref f, rfl, rfl, hT _, atI_nat (by rw [List.getElem?_map, hf]; rfl), _, rfl, _, rfl, f, o, nl, l, s, c, ps, _, rfl, hFn, ?_, hS, hnl, q⟩
      rw [if_pos hc0]
      trivial
theorem StoreAt.upd {C : Addr} {H : Hp} {o l t : Addr} {b : Bool} {a : Abs} {u : HO} {d : List V} (h : StoreAt C H o l b a) (ht : H t = some (.lst d)) (n : t ≠ l) : StoreAt C (L2.upd H t u) o l b a := by
  obtain ⟨⟨dx, h1⟩, vs, h2, h3⟩ := h
  exact ⟨⟨dx, by rw [upd_ne (ne_of h1 ht (by intro z; cases z))]; exact h1⟩, vs, by rw [upd_ne n.symm]; exact h2, Tups.upd_lst ht h3⟩
theorem StAt.upd {C : Addr} {H : Hp} {o l t : Addr} {s : Option Abs} {u : HO} {d : List V} (h : StAt C H o l s) (ht : H t = some (.lst d)) (n : t ≠ l) : StAt C (L2.upd H t u) o l s := by
  cases s with
  | none => exact StoreAt.upd h ht n
  | some a => exact ⟨StoreAt.upd h.1 ht n, h.2⟩
/-! ### the store is made -/
abbrev sInit : Stmt := inClass (top 28) 0
def spInit (C : Addr) : Sp := fun vs H Q _ => ∃ (p dx : Addr), vs = [.ref p] ∧ H p = some (.ins C dx []) ∧ ∀ (H' : Hp) (l : Addr), H' p = some (.ins C dx (fsOf false 0 0 0 l)) → H' l = some (.lst []) → H l = none →
  (∀ b o, H b = some o → b ≠ p → H' b = some o) → Q .non H'
theorem scI : FnScope ["self"] ["self"] (defScope sInit) := ⟨rfl, rfl, rfl, by decide +kernel, rfl, by decide +kernel, by decide +kernel⟩
theorem ok_init {f C : Addr} {fd : FuncData} (F : Fun K "__init__" "Store.__init__" sInit f fd) (T : Txt K mg C) : FnOk P w K mg base CX0 1 f fd ["self"] (spInit C) := by
  refine F.ok scI (fun vs H Q E h => ?_) (fun cdv A outer s H vs Q E hr h => ?_)
  · obtain ⟨p, dx, rfl, _⟩ := h
    rfl
  · obtain ⟨p, dx, rfl, hp, k⟩ := h
    refine ⟨_, pss_cons (ps_fld (pv 0) pe_bl rfl) (pss_cons (ps_fld (pv 0) pe_int rfl) (pss_cons (ps_fld (pv 0) pe_int rfl) (pss_cons (ps_fld (pv 0) pe_int rfl) (pss_one (ps_fld (pv 0) (pe_lst pa_nil) rfl))))), ?_⟩
    refine ⟨_, rfl, p, C, dx, [], rfl, hp, T.cl, T.nB, (by decide), ?_⟩
    refine ⟨_, rfl, p, C, dx, _, rfl, upd_same, T.cl, T.nC, (by show 1 < 1000; decide), ?_⟩
    refine ⟨_, rfl, p, C, dx, _, rfl, upd_same, T.cl, T.nP, (by show 2 < 1000; decide), ?_⟩
    refine ⟨_, rfl, p, C, dx, _, rfl, upd_same, T.cl, T.nK, (by show 3 < 1000; decide), ?_⟩
    refine ⟨small_list (by simp), fun l hl => ?_⟩
    obtain ⟨n1, hl⟩ := upd_none hl
    obtain ⟨_, hl⟩ := upd_none hl
    obtain ⟨_, hl⟩ := upd_none hl
    obtain ⟨_, hl⟩ := upd_none hl
    refine ⟨_, rfl, p, C, dx, _, rfl, by rw [upd_ne n1.symm]; exact upd_same, T.cl, T.nR, (by show 4 < 1000; decide), ?_⟩
    refine k _ l (by rw [upd_same]; rfl) (by rw [upd_ne n1]; exact upd_same) hl fun b o e hb => ?_
    rw [upd_ne hb, upd_ne (ne_of_none e hl), upd_ne hb, upd_ne hb, upd_ne hb, upd_ne hb]
    exact e
/-! ### answers -/
def sizes : List Int := [3, 3, 2, 3, 2, 1, 1, 0, 2, 2, 2, 2, 1, 0, 2, 2, 2, 0, 0, 1, 0]
theorem sizes_at (c : Su86.Call) : sizes[code c]? = some ((args c).length : Int) := by
  cases c <;> rfl
def spAns (K : PySem.W.Frag) : Sp := fun vs H Q _ => ∃ (a : Addr) (ns : List Int) (out : List Int), vs = [.ref a] ∧ SqL K H a (ns.map V.int) ∧ ns.length ≤ 1600 ∧ Line none ns out ∧
  ∀ (H' : Hp) (p : Addr), H' p = some (.lst (out.map V.int)) → Q (.ref p) H'
theorem scA : FnScope ["calls", "store", "told", "place", "which", "end", "answer"] ["calls"] (defScope (top 64)) := ⟨rfl, rfl, rfl, by decide +kernel, rfl, by decide +kernel, by decide +kernel⟩
theorem cut_eq {ns : List Int} {i n : Nat} (h : i + 1 + n ≤ ns.length) : cutV (ns.map V.int) (some ((i : Int) + 1)) (some ((i : Int) + 1 + (n : Int))) = (((ns.drop (i + 1)).take n).map V.int) := by
  have e1 : (i : Int) + 1 = ((i + 1 : Nat) : Int) := by omega
  have e2 : (i : Int) + 1 + (n : Int) = ((i + 1 + n : Nat) : Int) := by omega
  unfold cutV
  rw [e2, e1, HT.sIx_nat, HT.sIx_nat, List.length_map, Nat.min_eq_left (by omega), Nat.min_eq_left (by omega), show i + 1 + n - (i + 1) = n by omega, ← List.map_drop, ← List.map_take]
theorem ok_ans {f f1 C fI aS : Addr} {fd fdI : FuncData} (F : Fun K "answers" "answers" (top 64) f fd) (T : Txt K mg C) (N : Con1 mg) (M : Mk K C fI) (FI : Fun K "__init__" "Store.__init__" sInit fI fdI) (bI : Binds K fdI ["self"] [])
    (hZ : mg "SIZES" = some (.ref aS)) (hZT : ∀ H, SqT K H aS (sizes.map V.int)) (GT : Has P w K mg base 8 "answer_to" f1 ["store", "which", "numbers"] (spTo C)) : FnOk P w K mg base CX0 9 f fd ["calls"] (spAns K) := by
  have GI : FnOk P w K mg base CX0 1 fI fdI ["self"] (spInit C) := ok_init FI T
  refine F.ok scA (fun vs H Q E h => ?_) (fun cdv A outer s H vs Q E hr h => ?_)
  · obtain ⟨a, ns, out, rfl, _⟩ := h
    rfl
  · obtain ⟨a, ns, out0, rfl, hSq, hlen, hLine, q⟩ := h
    have hr2 : Room 2 _ := hr.mono (by decide)
    refine ⟨_, pss_cons (ps_set (i := 1) scA.nd rfl (Or.inl rfl) (pe_make0 M GI hr2 rfl T.mgC bI .nil pass0))
      (pss_cons (ps_set (i := 2) scA.nd rfl (Or.inl rfl) (pe_lst pa_nil))
      (pss_cons (ps_set (i := 3) scA.nd rfl (Or.inl rfl) pe_int)
      (pss_cons (ps_while PassesOwn.never (pt_cmpR op_lt (pv 3) (pe_callB call_len_seq (by rfl) N.len bt_len (pa_cons (pv 0) pa_nil)) (nomark _))
        (pss_cons (ps_set (i := 4) scA.nd rfl (Or.inl rfl) (pe_ix ix_list (pv 0) (pv 3) (fun _ _ => rfl)))
        (pss_cons (ps_set (i := 5) scA.nd rfl (Or.inl rfl) (pe_op op_add (pe_op op_add (pv 3) pe_int) (pe_ix ix_tup (pe_glob (v := .ref aS) rfl hZ rfl) (pv 4) (fun _ _ => rfl))))
        (pss_cons (ps_set (i := 6) scA.nd rfl (Or.inl rfl) (pe_callH GT hr (pa_cons (pv 1) (pa_cons (pv 4) (pa_cons (pe_slice sl_list (pv 0) (po_some (pe_op op_add (pv 3) pe_int)) (po_some (pv 5))) pa_nil)))))
        (pss_cons (ps_expr (pe_bm PySem.F.plainAttrs_list PySem.F.slot_list_append PySem.F.type_list_append mt_append (pv 2) (pa_cons (pe_callB call_len_seq (by rfl) N.len bt_len (pa_cons (pv 6) pa_nil)) pa_nil)))
        (pss_cons (ps_expr (pe_bm PySem.F.plainAttrs_list PySem.F.slot_list_extend PySem.F.type_list_extend mt_extend (pv 2) (pa_cons (pv 6) pa_nil)))
        (pss_one (ps_set (i := 3) scA.nd rfl (Or.inl rfl) (pv 5)))))))))
      (pss_one (ps_ret (pv 2)))))), ?_⟩
    intro x dx nx ndx nex
    refine ⟨x, dx, rfl, upd_same, fun H1 l h1 h2 h3 k1 => ⟨rfl, ?_⟩⟩
    have s1 : Same H H1 := Same.made nx ndx k1
    have hl0 : H l = none := by
      obtain ⟨_, z⟩ := upd_none h3
      exact (upd_none z).2
    refine ⟨small_list (by simp), fun t ht => ?_⟩
    have s2 : Same H1 (upd H1 t (.lst [])) := Same.new ht
    refine while_by (fun σ H' => ∃ (i : Nat) (s : Option Abs) (out done : List Int) (l : Addr) (v4 v5 v6 : Option V), σ = [some (.ref a), some (.ref x), some (.ref t), some (.int i), v4, v5, v6] ∧ Same H H' ∧ H l = none ∧ t ≠ l ∧
        StAt C H' x l s ∧ H' t = some (.lst (done.map V.int)) ∧ i ≤ ns.length ∧ Line s (ns.drop i) out ∧ done ++ out = out0 ∧ done.length ≤ 92 * i)
      (fun σ _ => match σ with | [_, _, _, some (.int i), _, _, _] => ns.length - i.toNat | _ => 0)
      ⟨0, none, out0, [], l, none, none, none, rfl, s1.trans s2, hl0, (ne_of_none h2 ht).symm, ⟨⟨dx, s2 _ _ h1⟩, [], s2 _ _ h2, .nil⟩, upd_same, Nat.zero_le _, hLine, rfl, Nat.le_refl _⟩ ?_ ?_
    · rintro σ H' ⟨i, s, out, done, l, v4, v5, v6, rfl, sm, hl, htl, hSt, hT, hi, hL, hout, hdl⟩
      have hSq' : SqL K H' a (ns.map V.int) := sm.seq hSq
      refine ⟨_, rfl, _, rfl, a, _, rfl, .inl hSq', _, _, rfl, rfl, _, rfl, ite2 (fun hb => ?_) (fun hb => ?_)⟩
      · have hb : (i : Int) < ((ns.map V.int).length : Int) := of_decide_eq_true hb
        rw [List.length_map] at hb
        generalize hd : ns.drop i = rest at hL
        cases hL with
        | nil =>
          have := congrArg List.length hd
          rw [List.length_drop] at this
          simp at this
          omega
        | @cons _ c r out1 hL1 =>
          have hlen2 : ns.length - i = 1 + ((args c).length + r.length) := by
            have := congrArg List.length hd
            rw [List.length_drop, List.length_cons, List.length_append] at this
            unfold intsOf at this
            rw [List.length_map] at this
            omega
          have hat : ns[i]? = some (code c : Int) := by
            have := congrArg (fun z => z[0]?) hd
            simpa using this
          have hd1 : ns.drop (i + 1) = intsOf (args c) ++ r := by
            rw [← List.drop_drop, hd]
            rfl
          have hcut : (ns.drop (i + 1)).take (args c).length = intsOf (args c) := by
            rw [hd1, List.take_append_of_le_length (by unfold intsOf; rw [List.length_map]; exact Nat.le_refl _), List.take_of_length_le (by unfold intsOf; rw [List.length_map]; exact Nat.le_refl _)]
          have hd2 : ns.drop (i + 1 + (args c).length) = r := by
            rw [← List.drop_drop, hd1, List.drop_append_of_le_length (by unfold intsOf; rw [List.length_map]; exact Nat.le_refl _), List.drop_of_length_le (by unfold intsOf; rw [List.length_map]; exact Nat.le_refl _)]
            rfl
          refine ⟨_, rfl, _, rfl, a, _, _, V.int (code c : Int), rfl, rfl, hSq', atI_nat (by rw [List.getElem?_map, hat]; rfl), ?_⟩
          refine ⟨_, rfl, _, _, rfl, rfl, _, rfl, aS, _, _, V.int ((args c).length : Int), rfl, rfl, hZT _, atI_nat (by rw [List.getElem?_map, sizes_at]; rfl), _, _, rfl, rfl, ?_⟩
          refine ⟨_, rfl, _, rfl, _, rfl, _, rfl, _, _, rfl, rfl, _, rfl, _, rfl, _, rfl, a, _, rfl, hSq', fun nl hnl => ?_⟩
          rw [cut_eq (by omega), hcut]
          have s3 : Same H' (upd H' nl (.lst ((intsOf (args c)).map V.int))) := Same.new hnl
          have hnl' : upd H' nl (.lst ((intsOf (args c)).map V.int)) nl = some (.lst (nums (args c))) := by
            rw [upd_same]
            unfold intsOf nums
            rw [List.map_map]
            rfl
          refine ⟨x, nl, l, s, c, rfl, hSt.same s3, hnl', ?_⟩
          rintro v H4 ⟨p, l', rfl, hSt4, hl4, fr, hp, npl, hp4⟩
          have sH4 : Same H H4 := fun b u h => by
            refine fr b u (s3 _ _ (sm _ _ h)) (ne_of_none h nx) (ne_of_none h hl)
          have hl'0 : H l' = none := by
            rcases hl4 with z | z
            · rw [z]; exact hl
            · exact (sm.trans s3).free z
          obtain ⟨b0, a0, ⟨dx0, ho0⟩, _⟩ := hSt.store
          have ntx : t ≠ x := ne_of hT ho0 (by intro z; cases z)
          have hT3 := s3 _ _ hT
          have hT4 : H4 t = some (.lst (done.map V.int)) := fr t _ hT3 ntx htl
          have ntl' : t ≠ l' := by
            rcases hl4 with z | z
            · rw [z]; exact htl
            · exact ne_of_none hT3 z
          have ntp : t ≠ p := ne_of_none hT3 hp
          have alen : (ans (Su86.step s c).2).length ≤ 91 := step_len (fun a e => by
            subst e
            exact hSt.2.len) c
          have hdl2 : done.length ≤ 92 * 1600 := Nat.le_trans hdl (Nat.mul_le_mul_left _ (by omega))
          refine ⟨_, rfl, .inl ⟨rfl, _, SqL.of hT4⟩, _, rfl, p, _, rfl, .inl (SqL.of hp4), t, _, _, rfl, rfl, hT4, by rw [List.length_map]; exact Nat.lt_of_le_of_lt hdl2 (by decide), ?_⟩
          refine ⟨_, rfl, .inl ⟨rfl, _, SqL.of upd_same⟩, _, rfl, t, p, _, _, rfl, rfl, upd_same, by rw [upd_ne ntp.symm]; exact hp4, ?_, ?_⟩
          · rw [List.length_append, List.length_map, List.length_map, List.length_singleton]
            exact Nat.le_trans (Nat.add_le_add (Nat.add_le_add_right hdl2 1) alen) (by decide)
          · refine ⟨_, rfl, ⟨i + 1 + (args c).length, _, out1, done ++ (((ans (Su86.step s c).2).length : Int) :: ans (Su86.step s c).2), l', _, _, _, rfl, ?_, hl'0, ntl', ?_, ?_, by omega, by rw [hd2]; exact hL1, ?_, ?_⟩, ?_⟩
            · have hHt : H t = none := by
                have z : H1 t = none := ht
                exact s1.free z
              rw [upd_upd]
              exact Same.upd_new sH4 hHt
            · rw [upd_upd]
              exact hSt4.upd hT4 ntl'
            · rw [upd_same, List.map_append, List.length_map, List.append_assoc]
              rfl
            · rw [← hout, List.append_assoc]
              rfl
            · rw [List.length_append, List.length_cons]
              omega
            · show ns.length - ((i : Int) + 1 + ((args c).length : Int)).toNat < ns.length - (i : Int).toNat
              omega
      · have hb : ¬ (i : Int) < ((ns.map V.int).length : Int) := fun z => hb (decide_eq_true z)
        rw [List.length_map] at hb
        have ei : i = ns.length := by omega
        rw [ei, List.drop_length] at hL
        cases hL
        refine ⟨_, rfl, q H' t ?_⟩
        rw [List.append_nil] at hout
        rw [← hout]
        exact hT
    · rintro σ H' Q1 Q2 hq ⟨v, e1, v2, e2, p, ys, r1, r2, i, j, r3, r4, b, r5, qq⟩
      exact ⟨v, e1, v2, e2, p, ys, r1, r2, i, j, r3, r4, b, r5, hq _ _ qq⟩
end
end Pd
end
section
set_option Elab.async false
set_option linter.all false
set_option maxRecDepth 100000
set_option maxHeartbeats 4000000
namespace Pd
open PySem PySem.Spec PyProof.Rows L2
open Su86 (Abs)
def DefIn (K : PySem.W.Frag) (name : Str) (st : Stmt) (f : Addr) : Prop := PySem.W.nsIn K mainGlobals name = some (some (.ref f)) ∧ ∃ fd, Fun K name name st f fd
theorem def_in {K : PySem.W.Frag} {x : Str} {st : Stmt} {f : Addr} {oc : Value} {od an : Option Addr} {osl : Array (Option Value)} {kV doc pm cdv ct : Value} (a : PySem.W.nsIn K mainGlobals x = some (some (.ref f)))
    (l : K.lookup f = some ⟨oc, od, .func (PySem.W.fnOf x x (defArgs st) (defBody st) (defScope st) .none kV doc pm an cdv ct), osl⟩)
    (c : PySem.W.codeIn K cdv x = true) (k : PySem.W.keepIn K (.ref f) = true) : DefIn K x st f := ⟨a, _, fun_mk l c k⟩
theorem DefIn.of {K : PySem.W.Frag} {h : Heap} {mg : Str → Option Value} {x : Str} {st : Stmt} {f : Addr} (D : DefIn K x st f) (X : K.In h) (G : h.Ns mainGlobals mg) : Def K mg x st f := by
  obtain ⟨a, fd, F⟩ := D
  exact ⟨fd, F, PySem.W.mg_of X G a⟩
def ConIn (K : PySem.W.Frag) (name : Str) (i : Int) : Prop := ∃ t, PySem.W.nsIn K mainGlobals name = some (some (.int i t))
theorem con_in {K : PySem.W.Frag} {x : Str} {i : Int} {t : Tok} (a : PySem.W.nsIn K mainGlobals x = some (some (.int i t))) : ConIn K x i := ⟨t, a⟩
theorem ConIn.of {K : PySem.W.Frag} {h : Heap} {mg : Str → Option Value} {x : Str} {i : Int} (D : ConIn K x i) (X : K.In h) (G : h.Ns mainGlobals mg) : ∃ t, mg x = some (.int i t) := by
  obtain ⟨t, a⟩ := D
  exact ⟨t, PySem.W.mg_of X G a⟩
theorem all_mk {P : Program} {w : World} {K : PySem.W.Frag} {h : Heap} {mg : Str → Option Value} {fa C fI aC aS f5 f6 f7 f8 f9 f10 f11 f12 f13 f14 f15 f16 f17 f18 f29 f30 f31 f32 f33 f34 f35 f36 f37 f38 f39 f40 f41 f42 f43 f44 f45 f46 f47 f48 f49 f50 f51 f52 f53 f54 f55 f56 f57 f58 f62 f63 f64 : Addr} (X : K.In h) (G : h.Ns mainGlobals mg) (hfa : mg "answers" = some (.ref fa))
    (d5 : DefIn K "greatest_common" (top 5) f5)
    (d6 : DefIn K "fraction" (top 6) f6)
    (d7 : DefIn K "demand_of" (top 7) f7)
    (d8 : DefIn K "often_in_all" (top 8) f8)
    (d9 : DefIn K "often_up_to" (top 9) f9)
    (d10 : DefIn K "wanted_in_all" (top 10) f10)
    (d11 : DefIn K "sold_in_all" (top 11) f11)
    (d12 : DefIn K "left_in_all" (top 12) f12)
    (d13 : DefIn K "lost_in_all" (top 13) f13)
    (d14 : DefIn K "gain_in_all" (top 14) f14)
    (d15 : DefIn K "known_gain_in_all" (top 15) f15)
    (d16 : DefIn K "best_number" (top 16) f16)
    (d17 : DefIn K "critical_number" (top 17) f17)
    (d18 : DefIn K "never_more_often_met" (top 18) f18)
    (d29 : DefIn K "prices_fit" (top 29) f29)
    (d30 : DefIn K "row_fits" (top 30) f30)
    (d31 : DefIn K "rows_in_all" (top 31) f31)
    (d32 : DefIn K "set_prices" (top 32) f32)
    (d33 : DefIn K "refusal" (top 33) f33)
    (d34 : DefIn K "expected" (top 34) f34)
    (d35 : DefIn K "gain_with" (top 35) f35)
    (d36 : DefIn K "expected_gain" (top 36) f36)
    (d37 : DefIn K "best_now" (top 37) f37)
    (d38 : DefIn K "begin" (top 38) f38)
    (d39 : DefIn K "chance" (top 39) f39)
    (d40 : DefIn K "never" (top 40) f40)
    (d41 : DefIn K "prices" (top 41) f41)
    (d42 : DefIn K "gain" (top 42) f42)
    (d43 : DefIn K "best" (top 43) f43)
    (d44 : DefIn K "critical" (top 44) f44)
    (d45 : DefIn K "share" (top 45) f45)
    (d46 : DefIn K "sold" (top 46) f46)
    (d47 : DefIn K "lost" (top 47) f47)
    (d48 : DefIn K "upto" (top 48) f48)
    (d49 : DefIn K "one_more" (top 49) f49)
    (d50 : DefIn K "known" (top 50) f50)
    (d51 : DefIn K "pool" (top 51) f51)
    (d52 : DefIn K "fair" (top 52) f52)
    (d53 : DefIn K "lend" (top 53) f53)
    (d54 : DefIn K "dear" (top 54) f54)
    (d55 : DefIn K "stronger" (top 55) f55)
    (d56 : DefIn K "chances" (top 56) f56)
    (d57 : DefIn K "mean" (top 57) f57)
    (d58 : DefIn K "state" (top 58) f58)
    (d62 : DefIn K "made" (top 62) f62)
    (d63 : DefIn K "answer_to" (top 63) f63)
    (d64 : DefIn K "answers" (top 64) f64)
    (cHERE : ConIn K "HERE" (0))
    (cTHERE : ConIn K "THERE" (1))
    (cBOTH : ConIn K "BOTH" (2))
    (cMOST_BOUGHT : ConIn K "MOST_BOUGHT" (60))
    (cNONE_THERE : ConIn K "NONE_THERE" (-6))
    (cNOT_BEGUN : ConIn K "NOT_BEGUN" (-11))
    (cOUT_OF_RANGE : ConIn K "OUT_OF_RANGE" (-22))
    (cTOO_MANY : ConIn K "TOO_MANY" (-28))
    (cMOST_PRICE : ConIn K "MOST_PRICE" (1000))
    (cMOST_WANTED : ConIn K "MOST_WANTED" (30))
    (cMOST_OFTEN : ConIn K "MOST_OFTEN" (1000))
    (cMOST_ROWS : ConIn K "MOST_ROWS" (30))
    (cBEGIN : ConIn K "BEGIN" (0))
    (zsum : PySem.W.nsIn K mainGlobals "sum" = some none)
    (zabs : PySem.W.nsIn K mainGlobals "abs" = some none)
    (zmin : PySem.W.nsIn K mainGlobals "min" = some none)
    (zmax : PySem.W.nsIn K mainGlobals "max" = some none)
    (zlen : PySem.W.nsIn K mainGlobals "len" = some none)
    (zrange : PySem.W.nsIn K mainGlobals "range" = some none)
    {odI anI : Option Addr} {slI : Array (Option Value)} {ocI kVI dcI pmI cdI ctI : Value}
    (sC : PySem.W.nsIn K mainGlobals "Store" = some (some (.ref C)))
    (aI : PySem.W.findIn K (.ref C) "__init__" = some (some (.ref fI))) (iI : PySem.W.isFn K (.ref fI) = true) (lI : K.lookup fI = some ⟨ocI, odI, .func (PySem.W.fnOf "__init__" "Store.__init__" (defArgs sInit) (defBody sInit) (defScope sInit) .none kVI dcI pmI anI cdI ctI), slI⟩) (cI : PySem.W.codeIn K cdI "Store.__init__" = true) (kI : PySem.W.keepIn K (.ref fI) = true)
    (pg : PySem.W.plainGet K C Str.empty = true) (hd : PySem.W.hasDictIn K C = true) (po : PySem.W.plainOver K C = true) (sa : PySem.W.findIn K (.ref C) "__setattr__" = some (some (.builtin "object.__setattr__"))) (mk : PySem.W.makesIn K C = true) (kc : PySem.W.keepIn K (.ref C) = true)
    (nB : PySem.W.findIn K (.ref C) "begun" = some none) (nC : PySem.W.findIn K (.ref C) "cost" = some none) (nP : PySem.W.findIn K (.ref C) "price" = some none) (nK : PySem.W.findIn K (.ref C) "back" = some none) (nR : PySem.W.findIn K (.ref C) "rows" = some none)
    {odC odS : Option Addr} {slC slS : Array (Option Value)} {nCt nSt : Nat} {t0 t1 t2 t3 t4 t5 t6 t7 t8 t9 t10 t11 t12 t13 t14 t15 t16 t17 t18 t19 t20 : Tok}
    (xC : PySem.W.nsIn K mainGlobals "CALLS" = some (some (.ref aC))) (tC : K.lookup aC = some ⟨.type "tuple", odC, .seq #[.ref f38, .ref f39, .ref f40, .ref f41, .ref f42, .ref f43, .ref f44, .ref f45, .ref f46, .ref f47, .ref f48, .ref f49, .ref f50, .ref f51, .ref f52, .ref f53, .ref f54, .ref f55, .ref f56, .ref f57, .ref f58] nCt, slC⟩)
    (xS : PySem.W.nsIn K mainGlobals "SIZES" = some (some (.ref aS))) (tS : K.lookup aS = some ⟨.type "tuple", odS, .seq #[.int 3 t0, .int 3 t1, .int 2 t2, .int 3 t3, .int 2 t4, .int 1 t5, .int 1 t6, .int 0 t7, .int 2 t8, .int 2 t9, .int 2 t10, .int 2 t11, .int 1 t12, .int 0 t13, .int 2 t14, .int 2 t15, .int 2 t16, .int 0 t17, .int 0 t18, .int 1 t19, .int 0 t20] nSt, slS⟩) :
    ∃ fd : FuncData, (∀ (s : Shared) (us : List Value), us.length = (["calls"] : List Str).length → BindsTo s fd ⟨us, []⟩ ((["calls"] : List Str).zip us)) ∧ ∀ base : Heap, K.In base → base.Ns mainGlobals mg → FnOk P w K mg base CX0 9 fa fd ["calls"] (spAns K) := by
  have N : Con1 mg := ⟨⟨PySem.W.mg_none_of X G zsum, PySem.W.mg_none_of X G zabs, PySem.W.mg_none_of X G zmin, PySem.W.mg_none_of X G zmax, PySem.W.mg_none_of X G zlen, PySem.W.mg_none_of X G zrange, cHERE.of X G, cTHERE.of X G, cBOTH.of X G, cMOST_BOUGHT.of X G⟩, cNONE_THERE.of X G, cNOT_BEGUN.of X G, cOUT_OF_RANGE.of X G, cTOO_MANY.of X G, cMOST_PRICE.of X G, cMOST_WANTED.of X G, cMOST_OFTEN.of X G, cMOST_ROWS.of X G⟩
  have T : Txt K mg C := ⟨⟨pg, hd, po, sa⟩, nB, nC, nP, nK, nR, PySem.W.mg_of X G sC⟩
  have FI := fun_mk (st := sInit) lI cI kI
  have bI := FI.binds (ps := ["self"]) fun _ _ _ _ _ _ us hl => match us, hl with | [_], _ => rfl
  obtain ⟨aA, fdA, FA⟩ := d64
  have e := hfa.symm.trans (PySem.W.mg_of X G aA)
  cases e
  obtain ⟨oc, od, kV, doc, pm, an, cdv, ct, osl, efd, lk, hcd⟩ := id FA.ex
  refine ⟨fdA, fun s us hu => ?_, fun base _ _ => ?_⟩
  · subst efd
    exact match us, hu with | [_], _ => .of_eq rfl
  have gGcd : Has P w K mg base 1 "greatest_common" _ _ _ := has_gcd (d5.of X G)
  have gFrac : Has P w K mg base 2 "fraction" _ _ _ := has_frac (d6.of X G) N.toCon0 gGcd
  have gDem : Has P w K mg base 1 "demand_of" _ _ _ := has_dem (d7.of X G) N.toCon0
  have gAll : Has P w K mg base 1 "often_in_all" _ _ _ := has_all (d8.of X G) N.toCon0
  have gUp : Has P w K mg base 1 "often_up_to" _ _ _ := has_up (d9.of X G) N.toCon0
  have gWant : Has P w K mg base 1 "wanted_in_all" _ _ _ := has_want (d10.of X G) N.toCon0
  have gSold : Has P w K mg base 1 "sold_in_all" _ _ _ := has_sold (d11.of X G) N.toCon0
  have gLeft : Has P w K mg base 2 "left_in_all" _ _ _ := has_left (d12.of X G) gAll gSold
  have gLost : Has P w K mg base 1 "lost_in_all" _ _ _ := has_lost (d13.of X G) N.toCon0
  have gGain : Has P w K mg base 3 "gain_in_all" _ _ _ := has_gain (d14.of X G) gAll gSold gLeft
  have gKnow : Has P w K mg base 2 "known_gain_in_all" _ _ _ := has_know (d15.of X G) gWant
  have gBest : Has P w K mg base 4 "best_number" _ _ _ := has_best (d16.of X G) N.toCon0 gGain
  have gCrit : Has P w K mg base 2 "critical_number" _ _ _ := has_crit (d17.of X G) gAll gUp
  have gMet : Has P w K mg base 2 "never_more_often_met" _ _ _ := has_met (d18.of X G) N.toCon0 gUp
  have gFit : Has P w K mg base 1 "prices_fit" _ _ _ := has_fit (d29.of X G) N
  have gRow : Has P w K mg base 1 "row_fits" _ _ _ := has_row (d30.of X G) N
  have gRAll : Has P w K mg base 1 "rows_in_all" _ _ _ := has_rall (d31.of X G) N.toCon0
  have gSet : Has P w K mg base 1 "set_prices" _ _ _ := has_set (d32.of X G) T
  have gRef : Has P w K mg base 1 "refusal" _ _ _ := has_ref (d33.of X G) T N
  have gExp : Has P w K mg base 3 "expected" _ _ _ := has_exp (d34.of X G) gFrac gAll
  have gGW : Has P w K mg base 4 "gain_with" _ _ _ := has_gw (d35.of X G) T gGain
  have gEG : Has P w K mg base 5 "expected_gain" _ _ _ := has_eg (d36.of X G) gExp gGW
  have gBN : Has P w K mg base 5 "best_now" _ _ _ := has_bn (d37.of X G) T gBest
  have L : Lib P w K mg base C := ⟨N, T, ⟨_, gFrac⟩, ⟨_, gDem⟩, ⟨_, gAll⟩, ⟨_, gUp⟩, ⟨_, gWant⟩, ⟨_, gKnow⟩, ⟨_, gMet⟩, ⟨_, gSold⟩, ⟨_, gLeft⟩, ⟨_, gLost⟩, ⟨_, gGain⟩, ⟨_, gBest⟩, ⟨_, gCrit⟩, ⟨_, gFit⟩, ⟨_, gRow⟩, ⟨_, gRAll⟩, ⟨_, gSet⟩, ⟨_, gRef⟩, ⟨_, gExp⟩, ⟨_, gGW⟩, ⟨_, gBN⟩, ⟨_, gEG⟩⟩
  have TB : Table P w K mg base C aC := by
    refine ⟨[f38, f39, f40, f41, f42, f43, f44, f45, f46, f47, f48, f49, f50, f51, f52, f53, f54, f55, f56, f57, f58], fun H => sqT_K tC rfl rfl (by show 21 ≤ sizeLine; decide) (.cons rfl (.cons rfl (.cons rfl (.cons rfl (.cons rfl (.cons rfl (.cons rfl (.cons rfl (.cons rfl (.cons rfl (.cons rfl (.cons rfl (.cons rfl (.cons rfl (.cons rfl (.cons rfl (.cons rfl (.cons rfl (.cons rfl (.cons rfl (.cons rfl (.nil)))))))))))))))))))))), fun c => ?_⟩
    cases c with
    | begin_ => exact ⟨_, _, rfl, (has_bg (d38.of X G) L).fn⟩
    | chance => exact ⟨_, _, rfl, (has_ch (d39.of X G) L).fn⟩
    | never => exact ⟨_, _, rfl, (has_n (d40.of X G) L).fn⟩
    | prices => exact ⟨_, _, rfl, (has_pr (d41.of X G) L).fn⟩
    | gain => exact ⟨_, _, rfl, (has_g (d42.of X G) L).fn⟩
    | best => exact ⟨_, _, rfl, (has_b (d43.of X G) L).fn⟩
    | critical => exact ⟨_, _, rfl, (has_c (d44.of X G) L).fn⟩
    | share => exact ⟨_, _, rfl, (has_sh (d45.of X G) L).fn⟩
    | sold => exact ⟨_, _, rfl, (has_s (d46.of X G) L).fn⟩
    | lost => exact ⟨_, _, rfl, (has_l (d47.of X G) L).fn⟩
    | upTo => exact ⟨_, _, rfl, (has_u (d48.of X G) L).fn⟩
    | next => exact ⟨_, _, rfl, (has_om (d49.of X G) L).fn⟩
    | known => exact ⟨_, _, rfl, (has_k (d50.of X G) L).fn⟩
    | pool => exact ⟨_, _, rfl, (has_po (d51.of X G) L).fn⟩
    | fair => exact ⟨_, _, rfl, (has_fa (d52.of X G) L).fn⟩
    | lend => exact ⟨_, _, rfl, (has_le (d53.of X G) L).fn⟩
    | dear => exact ⟨_, _, rfl, (has_de (d54.of X G) L).fn⟩
    | stronger => exact ⟨_, _, rfl, (has_sr (d55.of X G) L).fn⟩
    | chances => exact ⟨_, _, rfl, (has_hs (d56.of X G) L).fn⟩
    | mean => exact ⟨_, _, rfl, (has_mn (d57.of X G) L).fn⟩
    | state => exact ⟨_, _, rfl, (has_st (d58.of X G) L).fn⟩
  have gMd : Has P w K mg base 7 "made" _ _ _ := has_md (C := C) (d62.of X G) N
  have gTo : Has P w K mg base 8 "answer_to" _ _ _ := has_to (d63.of X G) T N (cBEGIN.of X G) (PySem.W.mg_of X G xC) TB gMd
  have hZT : ∀ H, SqT K H aS (sizes.map V.int) := fun H => sqT_K tS rfl rfl (by show 21 ≤ sizeLine; decide) (.cons ⟨_, rfl⟩ (.cons ⟨_, rfl⟩ (.cons ⟨_, rfl⟩ (.cons ⟨_, rfl⟩ (.cons ⟨_, rfl⟩ (.cons ⟨_, rfl⟩ (.cons ⟨_, rfl⟩ (.cons ⟨_, rfl⟩ (.cons ⟨_, rfl⟩ (.cons ⟨_, rfl⟩ (.cons ⟨_, rfl⟩ (.cons ⟨_, rfl⟩ (.cons ⟨_, rfl⟩ (.cons ⟨_, rfl⟩ (.cons ⟨_, rfl⟩ (.cons ⟨_, rfl⟩ (.cons ⟨_, rfl⟩ (.cons ⟨_, rfl⟩ (.cons ⟨_, rfl⟩ (.cons ⟨_, rfl⟩ (.cons ⟨_, rfl⟩ (.nil))))))))))))))))))))))
  exact ok_ans FA T N ⟨mk, aI, iI, kc⟩ FI bI (PySem.W.mg_of X G xS) hZT gTo
end Pd
open PySem PySem.W PyProof.Rows
set_option maxRecDepth 100000 in
set_option maxHeartbeats 0 in
theorem PySem.Challenge.cw_perishingday_s01_answers_holds : PySem.Challenge.rw_perishingday_s01_answers.Holds := by
  w_on; k_headS; (case hw => exact ⟨[.list [.int 7]], by decide +kernel, by decide +kernel⟩)
  k_fillS
  refine L2.walk_specK (r := PySem.Challenge.rw_perishingday_s01_answers) (k := 9) (CX := L2.CX0) (ps := ["calls"]) (sp := Pd.spAns) (by decide +kernel) rfl rfl ⟨rfl, by decide, by decide⟩ (fun w h Y => PySem.W.kIn_of Y) ?F ?S (fun _ _ _ _ z => z)
  case F =>
    intro w mg fa h Y KX G hmg
    refine' Pd.all_mk KX G hmg ?d5 ?d6 ?d7 ?d8 ?d9 ?d10 ?d11 ?d12 ?d13 ?d14 ?d15 ?d16 ?d17 ?d18 ?d29 ?d30 ?d31 ?d32 ?d33 ?d34 ?d35 ?d36 ?d37 ?d38 ?d39 ?d40 ?d41 ?d42 ?d43 ?d44 ?d45 ?d46 ?d47 ?d48 ?d49 ?d50 ?d51 ?d52 ?d53 ?d54 ?d55 ?d56 ?d57 ?d58 ?d62 ?d63 ?d64 ?cHERE ?cTHERE ?cBOTH ?cMOST_BOUGHT ?cNONE_THERE ?cNOT_BEGUN ?cOUT_OF_RANGE ?cTOO_MANY ?cMOST_PRICE ?cMOST_WANTED ?cMOST_OFTEN ?cMOST_ROWS ?cBEGIN ?zsum ?zabs ?zmin ?zmax ?zlen ?zrange ?sC ?aI ?iI ?lI ?cI ?kI ?pg ?hd ?po ?sa ?mk ?kc ?nB ?nC ?nP ?nK ?nR ?xC ?tC ?xS ?tS
    (case d5 => refine' Pd.def_in ?a ?l ?c ?k; (case a => k_is); (case l => k_is); (case c => k_is); (case k => k_is))
    (case d6 => refine' Pd.def_in ?a ?l ?c ?k; (case a => k_is); (case l => k_is); (case c => k_is); (case k => k_is))
    (case d7 => refine' Pd.def_in ?a ?l ?c ?k; (case a => k_is); (case l => k_is); (case c => k_is); (case k => k_is))
    (case d8 => refine' Pd.def_in ?a ?l ?c ?k; (case a => k_is); (case l => k_is); (case c => k_is); (case k => k_is))
    (case d9 => refine' Pd.def_in ?a ?l ?c ?k; (case a => k_is); (case l => k_is); (case c => k_is); (case k => k_is))
    (case d10 => refine' Pd.def_in ?a ?l ?c ?k; (case a => k_is); (case l => k_is); (case c => k_is); (case k => k_is))
    (case d11 => refine' Pd.def_in ?a ?l ?c ?k; (case a => k_is); (case l => k_is); (case c => k_is); (case k => k_is))
    (case d12 => refine' Pd.def_in ?a ?l ?c ?k; (case a => k_is); (case l => k_is); (case c => k_is); (case k => k_is))
    (case d13 => refine' Pd.def_in ?a ?l ?c ?k; (case a => k_is); (case l => k_is); (case c => k_is); (case k => k_is))
    (case d14 => refine' Pd.def_in ?a ?l ?c ?k; (case a => k_is); (case l => k_is); (case c => k_is); (case k => k_is))
    (case d15 => refine' Pd.def_in ?a ?l ?c ?k; (case a => k_is); (case l => k_is); (case c => k_is); (case k => k_is))
    (case d16 => refine' Pd.def_in ?a ?l ?c ?k; (case a => k_is); (case l => k_is); (case c => k_is); (case k => k_is))
    (case d17 => refine' Pd.def_in ?a ?l ?c ?k; (case a => k_is); (case l => k_is); (case c => k_is); (case k => k_is))
    (case d18 => refine' Pd.def_in ?a ?l ?c ?k; (case a => k_is); (case l => k_is); (case c => k_is); (case k => k_is))
    (case d29 => refine' Pd.def_in ?a ?l ?c ?k; (case a => k_is); (case l => k_is); (case c => k_is); (case k => k_is))
    (case d30 => refine' Pd.def_in ?a ?l ?c ?k; (case a => k_is); (case l => k_is); (case c => k_is); (case k => k_is))
    (case d31 => refine' Pd.def_in ?a ?l ?c ?k; (case a => k_is); (case l => k_is); (case c => k_is); (case k => k_is))
    (case d32 => refine' Pd.def_in ?a ?l ?c ?k; (case a => k_is); (case l => k_is); (case c => k_is); (case k => k_is))
    (case d33 => refine' Pd.def_in ?a ?l ?c ?k; (case a => k_is); (case l => k_is); (case c => k_is); (case k => k_is))
    (case d34 => refine' Pd.def_in ?a ?l ?c ?k; (case a => k_is); (case l => k_is); (case c => k_is); (case k => k_is))
    (case d35 => refine' Pd.def_in ?a ?l ?c ?k; (case a => k_is); (case l => k_is); (case c => k_is); (case k => k_is))
    (case d36 => refine' Pd.def_in ?a ?l ?c ?k; (case a => k_is); (case l => k_is); (case c => k_is); (case k => k_is))
    (case d37 => refine' Pd.def_in ?a ?l ?c ?k; (case a => k_is); (case l => k_is); (case c => k_is); (case k => k_is))
    (case d38 => refine' Pd.def_in ?a ?l ?c ?k; (case a => k_is); (case l => k_is); (case c => k_is); (case k => k_is))
    (case d39 => refine' Pd.def_in ?a ?l ?c ?k; (case a => k_is); (case l => k_is); (case c => k_is); (case k => k_is))
    (case d40 => refine' Pd.def_in ?a ?l ?c ?k; (case a => k_is); (case l => k_is); (case c => k_is); (case k => k_is))
    (case d41 => refine' Pd.def_in ?a ?l ?c ?k; (case a => k_is); (case l => k_is); (case c => k_is); (case k => k_is))
    (case d42 => refine' Pd.def_in ?a ?l ?c ?k; (case a => k_is); (case l => k_is); (case c => k_is); (case k => k_is))
    (case d43 => refine' Pd.def_in ?a ?l ?c ?k; (case a => k_is); (case l => k_is); (case c => k_is); (case k => k_is))
    (case d44 => refine' Pd.def_in ?a ?l ?c ?k; (case a => k_is); (case l => k_is); (case c => k_is); (case k => k_is))
    (case d45 => refine' Pd.def_in ?a ?l ?c ?k; (case a => k_is); (case l => k_is); (case c => k_is); (case k => k_is))
    (case d46 => refine' Pd.def_in ?a ?l ?c ?k; (case a => k_is); (case l => k_is); (case c => k_is); (case k => k_is))
    (case d47 => refine' Pd.def_in ?a ?l ?c ?k; (case a => k_is); (case l => k_is); (case c => k_is); (case k => k_is))
    (case d48 => refine' Pd.def_in ?a ?l ?c ?k; (case a => k_is); (case l => k_is); (case c => k_is); (case k => k_is))
    (case d49 => refine' Pd.def_in ?a ?l ?c ?k; (case a => k_is); (case l => k_is); (case c => k_is); (case k => k_is))
    (case d50 => refine' Pd.def_in ?a ?l ?c ?k; (case a => k_is); (case l => k_is); (case c => k_is); (case k => k_is))
    (case d51 => refine' Pd.def_in ?a ?l ?c ?k; (case a => k_is); (case l => k_is); (case c => k_is); (case k => k_is))
    (case d52 => refine' Pd.def_in ?a ?l ?c ?k; (case a => k_is); (case l => k_is); (case c => k_is); (case k => k_is))
    (case d53 => refine' Pd.def_in ?a ?l ?c ?k; (case a => k_is); (case l => k_is); (case c => k_is); (case k => k_is))
    (case d54 => refine' Pd.def_in ?a ?l ?c ?k; (case a => k_is); (case l => k_is); (case c => k_is); (case k => k_is))
    (case d55 => refine' Pd.def_in ?a ?l ?c ?k; (case a => k_is); (case l => k_is); (case c => k_is); (case k => k_is))
    (case d56 => refine' Pd.def_in ?a ?l ?c ?k; (case a => k_is); (case l => k_is); (case c => k_is); (case k => k_is))
    (case d57 => refine' Pd.def_in ?a ?l ?c ?k; (case a => k_is); (case l => k_is); (case c => k_is); (case k => k_is))
    (case d58 => refine' Pd.def_in ?a ?l ?c ?k; (case a => k_is); (case l => k_is); (case c => k_is); (case k => k_is))
    (case d62 => refine' Pd.def_in ?a ?l ?c ?k; (case a => k_is); (case l => k_is); (case c => k_is); (case k => k_is))
    (case d63 => refine' Pd.def_in ?a ?l ?c ?k; (case a => k_is); (case l => k_is); (case c => k_is); (case k => k_is))
    (case d64 => refine' Pd.def_in ?a ?l ?c ?k; (case a => k_is); (case l => k_is); (case c => k_is); (case k => k_is))
    (case cHERE => refine' Pd.con_in ?a; (case a => k_is))
    (case cTHERE => refine' Pd.con_in ?a; (case a => k_is))
    (case cBOTH => refine' Pd.con_in ?a; (case a => k_is))
    (case cMOST_BOUGHT => refine' Pd.con_in ?a; (case a => k_is))
    (case cNONE_THERE => refine' Pd.con_in ?a; (case a => k_is))
    (case cNOT_BEGUN => refine' Pd.con_in ?a; (case a => k_is))
    (case cOUT_OF_RANGE => refine' Pd.con_in ?a; (case a => k_is))
    (case cTOO_MANY => refine' Pd.con_in ?a; (case a => k_is))
    (case cMOST_PRICE => refine' Pd.con_in ?a; (case a => k_is))
    (case cMOST_WANTED => refine' Pd.con_in ?a; (case a => k_is))
    (case cMOST_OFTEN => refine' Pd.con_in ?a; (case a => k_is))
    (case cMOST_ROWS => refine' Pd.con_in ?a; (case a => k_is))
    (case cBEGIN => refine' Pd.con_in ?a; (case a => k_is))
    (case zsum => k_is)
    (case zabs => k_is)
    (case zmin => k_is)
    (case zmax => k_is)
    (case zlen => k_is)
    (case zrange => k_is)
    (case sC => k_is)
    (case aI => k_is)
    (case iI => k_is)
    (case lI => k_is)
    (case cI => k_is)
    (case kI => k_is)
    (case pg => k_is)
    (case hd => k_is)
    (case po => k_is)
    (case sa => k_is)
    (case mk => k_is)
    (case kc => k_is)
    (case nB => k_is)
    (case nC => k_is)
    (case nP => k_is)
    (case nK => k_is)
    (case nR => k_is)
    (case xC => k_is)
    (case tC => k_is)
    (case xS => k_is)
    (case tS => k_is)
  case S =>
    intro K H xs a hO hwi hask hx
    cases hx with
    | cons h1 h2 =>
      cases h2
      cases h1 with
      | lst hs ha =>
        have e := L2.ints_dw a.1 _ ha
        subst e
        have q : ((Codec.inLen 0 1600 a.1 && a.1.all (Codec.inInt 0 4294967295)) && true) = true := hwi
        rw [Bool.and_eq_true, Bool.and_eq_true] at q
        exact ⟨_, a.1, PySu86.answers a.1, rfl, hs, (Codec.inNat_iff.mp q.1.1).2, Pd.line_asked hask (fun x hx => (Codec.inInt_iff.mp (List.all_eq_true.mp q.1.2 x hx)).1), fun H' p hp => .lst (L2.SqL.of hp) (L2.dw_ints _)⟩
end
