import PyProof.Rows.All
import Wide.All
import OpenK.AllK
import Wide.FinOn
import PyProof.EqAt
import PyProof.EqKinds
import PyProof.TupleCall
import KE.BitLaws
import Open.SpecLaws
import KE.OsHead
import KE.OsGo
import KE.KSortAsk
import KE.KSortTup
import KE.KLam
import KE.KNest
import PyProof.ListRange
import PyProof.Rows.IntRules
import PyProof.Rows.TupReads
import PyProof.FactsAll.list_2
import PyProof.Rows.SortLt
import PySem.Challenge.RW_textendings_s01_answers
set_option linter.all false
section
set_option Elab.async false
set_option linter.all false
set_option maxRecDepth 100000
/-! THE HAND LAYER, for ints, bools, texts, own classes, lists, tuples, dicts, comprehensions, walks over dicts, enumerate, zip, reversed, texts, calls, loops. Paste it whole ahead of your own text; what your proof does not reach may be deleted. -/
namespace L2
open PySem PySem.Spec PyProof.Rows

/-- a key: an int or a str -/
abbrev Key := Sum Int Str
def keyIs : Key → Value → Bool
  | .inl k, v => Value.isInt k v
  | .inr x, v => Value.isStrOf x v
def keyH (w : World) : Key → Int
  | .inl k => hashInt k
  | .inr x => hashStr w x
theorem keyIs_shape : ∀ {k : Key} {v : Value}, keyIs k v = true → (∃ i t, k = Sum.inl i ∧ v = Value.int i t) ∨ (∃ x t, k = Sum.inr x ∧ v = Value.str x t)
  | .inl i, v, h => by
    obtain ⟨t, e⟩ := Value.isInt_shape (k := i) (v := v) h
    exact .inl ⟨i, t, rfl, e⟩
  | .inr x, v, h => by
    obtain ⟨t, e⟩ := Value.isStrOf_shape (x := x) (v := v) h
    exact .inr ⟨x, t, rfl, e⟩
theorem key_ll (a b : Int) : decide ((Sum.inl a : Key) = Sum.inl b) = (a == b) := by
  by_cases e : a = b
  · subst e; simp
  · have h : ¬ (Sum.inl a : Key) = Sum.inl b := fun q => e (Sum.inl.inj q)
    rw [decide_eq_false h]
    exact (beq_eq_false_iff_ne.mpr e).symm
theorem key_rr (a b : Str) : decide ((Sum.inr a : Key) = Sum.inr b) = decide (a = b) := by
  by_cases e : a = b
  · subst e; simp
  · have h : ¬ (Sum.inr a : Key) = Sum.inr b := fun q => e (Sum.inr.inj q)
    rw [decide_eq_false h, decide_eq_false e]
theorem key_lr (a : Int) (b : Str) : decide ((Sum.inl a : Key) = Sum.inr b) = false := decide_eq_false (fun q => nomatch q)
theorem key_rl (a : Str) (b : Int) : decide ((Sum.inr a : Key) = Sum.inl b) = false := decide_eq_false (fun q => nomatch q)

def mixKind (prog : Program) (w : World) : PySem.KeyKind prog w Key where
  is := keyIs
  hash := keyH w
  inj := fun v a b ha hb => by
    rcases keyIs_shape ha with ⟨i, t, rfl, rfl⟩ | ⟨x, t, rfl, rfl⟩
    · rcases keyIs_shape hb with ⟨j, u, rfl, e⟩ | ⟨y, u, rfl, e⟩
      · injection e with e1 _; rw [e1]
      · exact nomatch e
    · rcases keyIs_shape hb with ⟨j, u, rfl, e⟩ | ⟨y, u, rfl, e⟩
      · exact nomatch e
      · injection e with e1 _; rw [e1]
  byValue := fun k v h => by
    rcases keyIs_shape h with ⟨i, t, rfl, rfl⟩ | ⟨x, t, rfl, rfl⟩ <;> rfl
  pyHash := fun hv h => by
    rcases keyIs_shape hv with ⟨i, t, rfl, rfl⟩ | ⟨x, t, rfl, rfl⟩
    · exact wpAny_pyHash_int h
    · exact wpAny_pyHash_str h
  eqBool := fun hu hv h => by
    rcases keyIs_shape hu with ⟨i, t, rfl, rfl⟩ | ⟨x, t, rfl, rfl⟩
    · rcases keyIs_shape hv with ⟨j, u, rfl, rfl⟩ | ⟨y, u, rfl, rfl⟩
      · rw [key_ll] at h; exact wpAny_eqBool_int h
      · rw [key_lr] at h; exact SeqAt.EqAt.int_str i t y u _ _ _ _ h
    · rcases keyIs_shape hv with ⟨j, u, rfl, rfl⟩ | ⟨y, u, rfl, rfl⟩
      · rw [key_rl] at h; exact SeqAt.EqAt.str_int x t j u _ _ _ _ h
      · rw [key_rr] at h; exact wpAny_eqBool_str h
  «strs» := fun k x t v h => by
    rcases keyIs_shape h with ⟨i, u, rfl, e⟩ | ⟨y, u, rfl, e⟩
    · exact nomatch e
    · injection e with e1 _
      subst e1
      cases v <;> rfl

end L2

namespace L2
open PySem PySem.Spec PyProof.Rows

/-- a value, without the heap -/
inductive V where
  | non | bl (b : Bool) | int (i : Int) | str (x : Str) | byt (b : Array UInt8) | flt (b : UInt64) | ref (a : Addr) | ty (n : String)
  deriving DecidableEq

def RelV : V → Value → Prop
  | .non, u => u = Value.none
  | .bl b, u => u = Value.bool b
  | .int i, u => ∃ t, u = Value.int i t
  | .str x, u => ∃ t, u = Value.str x t
  | .byt b, u => ∃ t, u = Value.bytes b t
  | .flt b, u => ∃ t, u = Value.float b t
  | .ref a, u => u = Value.ref a
  | .ty n, u => u = Value.type n

abbrev Vals : List V → List Value → Prop := Paired RelV
theorem Vals.length {xs : List V} {us : List Value} (r : Vals xs us) : xs.length = us.length := Paired.length r
theorem Vals.get : ∀ {xs : List V} {us : List Value} {i : Nat} {x : V}, Vals xs us → xs[i]? = some x → ∃ u, us[i]? = some u ∧ RelV x u
  | _, _, _, _, .nil, e => by simp at e
  | _, _, 0, _, .cons r _, e => by simp at e; subst e; exact ⟨_, rfl, r⟩
  | _, _, i + 1, x, .cons _ t, e => by
    obtain ⟨u, h1, h2⟩ := Vals.get (i := i) (x := x) t (by simpa using e)
    exact ⟨u, by simpa using h1, h2⟩
theorem Vals.append : ∀ {xs ys : List V} {us ws : List Value}, Vals xs us → Vals ys ws → Vals (xs ++ ys) (us ++ ws)
  | _, _, _, _, .nil, s => s
  | _, _, _, _, .cons r t, s => .cons r (Vals.append t s)
theorem Vals.take : ∀ {xs : List V} {us : List Value} (n : Nat), Vals xs us → Vals (xs.take n) (us.take n)
  | _, _, 0, _ => .nil
  | _, _, _ + 1, .nil => .nil
  | _, _, n + 1, .cons r t => .cons r (Vals.take n t)
theorem Vals.drop : ∀ {xs : List V} {us : List Value} (n : Nat), Vals xs us → Vals (xs.drop n) (us.drop n)
  | _, _, 0, r => r
  | _, _, _ + 1, .nil => .nil
  | _, _, n + 1, .cons _ t => Vals.drop n t
def RelO : Option V → Option Value → Prop
  | some v, some u => RelV v u
  | none, none => True
  | _, _ => False
def KV {κ : Type} : List (κ × V) → List (κ × Value) → Prop := Paired fun (p : κ × V) (q : κ × Value) => p.1 = q.1 ∧ RelV p.2 q.2

/-- a key of a dict (00_mix): an int or a text -/
def kV : Key → V
  | .inl i => .int i
  | .inr x => .str x

/-- what stands at a tracked address -/
inductive HO where
  /-- a list -/
  | lst (xs : List V)
  /-- a tuple (never changes) -/
  | tup (xs : List V)
  /-- a dict whose keys are ints and texts; one whose keys are tuples of ints and texts (the empty one is both) -/
  | dK (kvs : List (Key × V)) | dT (kvs : List (List Key × V))
  /-- a set of ints: its members, its size -/
  | set (S : Int → Bool) (n : Nat)
  /-- an instance of the class at C, its dict at dx, its attributes -/
  | ins (C dx : Addr) (fs : List (Str × V))
  /-- the dict of the instance at x -/
  | own (x : Addr)
  /-- the dict of an exception -/
  | xd (fs : List (Str × V))
  /-- a bound method, f of x -/
  | met (f x : Addr)
  /-- a range object lo, lo + 1, .. below hi -/
  | rng (lo hi : Int)
  /-- a thing that is known to the object (the script; a dict while a loop walks it): read, never written while it is so -/
  | frz (o : Obj) (u : HO)
  /-- a code object's table -/
  | tbl (ps : Array Value)
  /-- any other thing, by what is true of its one object (a def of one's own: SetO a S n := HO.ext fun h => ..) -/
  | ext (φ : Heap → Prop)

abbrev Hp := Addr → Option HO
def upd (H : Hp) (a : Addr) (o : HO) : Hp := fun b => if b = a then some o else H b
theorem upd_same {H : Hp} {a : Addr} {o : HO} : upd H a o a = some o := by unfold upd; rw [if_pos rfl]
theorem upd_ne {H : Hp} {a b : Addr} {o : HO} (h : b ≠ a) : upd H a o b = H b := by unfold upd; rw [if_neg h]
theorem ne_of_none {H : Hp} {a b : Addr} {o : HO} (h : H a = some o) (h' : H b = none) : a ≠ b := by
  intro e; subst e; rw [h] at h'; cases h'

section
variable (P : Program) (w : World)
def ObjOk (H : Hp) (h : Heap) (a : Addr) : HO → Prop
  | .lst xs => xs.length ≤ sizeLine ∧ ∃ (its : List Value) (n : Nat), Vals xs its ∧ h.get? a = some { cls := .type "list", data := .seq its.toArray n }
  | .tup xs => xs.length ≤ sizeLine ∧ ∃ its : List Value, Vals xs its ∧ IsTup h a its.toArray
  | .dK kvs => kvs.length ≤ sizeLine ∧ (a == sysModules) = false ∧ ∃ vs, KV kvs vs ∧ h.DictOf (mixKind P w) a vs
  | .dT kvs => kvs.length ≤ sizeLine ∧ (a == sysModules) = false ∧ ∃ xs : List (List Key × Addr × Value),
      Paired (fun (p : List Key × V) (q : List Key × Addr × Value) => p.1 = q.1 ∧ H q.2.1 = some (.tup (p.1.map kV)) ∧ RelV p.2 q.2.2) kvs xs ∧
      ∃ o es ep, h.get? a = some o ∧ o.ExactDict ∧ o.data = .dict es ep ∧ es.toList = xs.map (entryOfKey (tupleKind (mixKind P w))) ∧ (xs.map (·.1)).Nodup
  | .set S n => h.SetOf (intKind P w) a S n
  | .ins C dx fs => H dx = some (.own a) ∧ fs.length ≤ 1000 ∧ dx ≠ a ∧ h.get? a = some (PySem.W.instObj C dx) ∧
      ∃ mA, h.Ns1 dx mA ∧ (∀ f, RelO (fs.lookup f) (mA f)) ∧ PySem.Within mA (fs.map (·.1))
  | .own _ => ∃ o, h.get? a = some o
  | .xd fs => ∃ mA, h.Ns1 a mA ∧ ∀ f, RelO (fs.lookup f) (mA f)
  | .rng lo hi => ∃ t u v, h.get? a = some { cls := .type "range", data := .fields #[.int lo t, .int hi u, .int 1 v] }
  | .frz o u => h.get? a = some o ∧ ObjOk H h a u
  | .tbl ps => h.get? a = some { cls := .none, data := .fields ps }
  | .met f x => h.get? a = some (PySem.W.methodObj (.ref f) (.ref x))
  | .ext φ => φ h ∧ (∃ o, h.get? a = some o) ∧ ∀ h1 h2 : Heap, φ h1 → (∀ o, h1.get? a = some o → h2.get? a = some o) → φ h2
/-- the abstract heap is held -/
def HOk (H : Hp) (h : Heap) : Prop := ∀ a o, H a = some o → ObjOk P w H h a o
end

section
variable {P : Program} {w : World} {H H' : Hp} {h h' : Heap} {a : Addr} {o : HO}
theorem ObjOk.lt (x : ObjOk P w H h a o) : a < h.objs.size := by
  cases o with
  | lst xs => obtain ⟨_, _, _, _, e⟩ := x; exact Heap.lt_size e
  | tup xs => obtain ⟨_, _, _, p⟩ := x; exact p.lt
  | dK kvs => obtain ⟨_, _, _, _, o, _, _, e, _⟩ := x; exact Heap.lt_size e
  | dT kvs => obtain ⟨_, _, _, _, o, _, _, e, _⟩ := x; exact Heap.lt_size e
  | set S n => obtain ⟨o, _, _, _, e, _⟩ := x; exact Heap.lt_size e
  | ins C dx fs => obtain ⟨_, _, _, e, _⟩ := x; exact Heap.lt_size e
  | own y => obtain ⟨_, e⟩ := x; exact Heap.lt_size e
  | xd fs => obtain ⟨_, ⟨_, _, _, e, _⟩, _⟩ := x; exact Heap.lt_size e
  | rng lo hi => obtain ⟨_, _, _, e⟩ := x; exact Heap.lt_size e
  | frz ob u => obtain ⟨e, _⟩ := x; exact Heap.lt_size e
  | tbl ps => exact Heap.lt_size (show h.get? a = some _ from x)
  | met f y => exact Heap.lt_size (show h.get? a = some _ from x)
  | ext φ => obtain ⟨_, ⟨_, e⟩, _⟩ := x; exact Heap.lt_size e
theorem Paired.mapP {α β : Type} {F G : α → β → Prop} : ∀ {l₁ : List α} {l₂ : List β}, Paired F l₁ l₂ → (∀ a b, F a b → G a b) → Paired G l₁ l₂
  | _, _, .nil, _ => .nil
  | _, _, .cons r t, f => .cons (f _ _ r) (Paired.mapP t f)
/-- what an object's description leans on: its own object, its own dict, the tuples -/
theorem ObjOk.stay (x : ObjOk P w H h a o) (k : ∀ b u, (b = a ∨ H b = some (.own a)) → h.get? b = some u → h'.get? b = some u)
    (ho : ∀ b, H b = some (.own a) → H' b = some (.own a)) (ht : ∀ b xs, H b = some (.tup xs) → H' b = some (.tup xs)) : ObjOk P w H' h' a o := by
  induction o with
  | lst xs => obtain ⟨z, its, n, r, e⟩ := x; exact ⟨z, its, n, r, k _ _ (.inl rfl) e⟩
  | tup xs => obtain ⟨z, its, r, ob, e, c⟩ := x; exact ⟨z, its, r, ob, k _ _ (.inl rfl) e, c⟩
  | dK kvs => obtain ⟨z, y, vs, r, ob, es, ep, e, c⟩ := x; exact ⟨z, y, vs, r, ob, es, ep, k _ _ (.inl rfl) e, c⟩
  | dT kvs =>
    obtain ⟨z, y, xs, r, ob, es, ep, e, c⟩ := x
    exact ⟨z, y, xs, Paired.mapP r fun p q z => ⟨z.1, ht _ _ z.2.1, z.2.2⟩, ob, es, ep, k _ _ (.inl rfl) e, c⟩
  | set S n => obtain ⟨ob, es, ep, t, e, c⟩ := x; exact ⟨ob, es, ep, t, k _ _ (.inl rfl) e, c⟩
  | ins C dx fs =>
    obtain ⟨d, z, ne, e, mA, ⟨od, es, ep, e2, c⟩, r⟩ := x
    exact ⟨ho _ d, z, ne, k _ _ (.inl rfl) e, mA, ⟨od, es, ep, k _ _ (.inr d) e2, c⟩, r⟩
  | own y => obtain ⟨ob, e⟩ := x; exact ⟨ob, k _ _ (.inl rfl) e⟩
  | xd fs => obtain ⟨mA, ⟨od, es, ep, e, c⟩, r⟩ := x; exact ⟨mA, ⟨od, es, ep, k _ _ (.inl rfl) e, c⟩, r⟩
  | rng lo hi => obtain ⟨t, u, v, e⟩ := x; exact ⟨t, u, v, k _ _ (.inl rfl) e⟩
  | frz ob u ih => obtain ⟨e, q⟩ := x; exact ⟨k _ _ (.inl rfl) e, ih q⟩
  | tbl ps =>
    have e : h.get? a = some { cls := .none, data := .fields ps } := x
    show h'.get? a = some { cls := .none, data := .fields ps }
    exact k a _ (.inl rfl) e
  | met f y =>
    have e : h.get? a = some (PySem.W.methodObj (.ref f) (.ref y)) := x
    show h'.get? a = some (PySem.W.methodObj (.ref f) (.ref y))
    exact k a _ (.inl rfl) e
  | ext φ => obtain ⟨p, ⟨o, e⟩, st⟩ := x; exact ⟨st _ _ p fun o q => k _ _ (.inl rfl) q, ⟨o, k _ _ (.inl rfl) e⟩, st⟩
theorem HOk.lt (x : HOk P w H h) (e : H a = some o) : a < h.objs.size := (x a o e).lt
theorem HOk.fresh (x : HOk P w H h) (e : h.objs.size ≤ a) : H a = none := by
  cases q : H a with
  | none => rfl
  | some u => exact absurd (Nat.lt_of_lt_of_le (x.lt q) e) (Nat.lt_irrefl _)
/-- every object of the heap is kept -/
theorem HOk.kept (x : HOk P w H h) (k : ∀ b u, h.get? b = some u → h'.get? b = some u) : HOk P w H h' := fun a o e =>
  (x a o e).stay (fun b u _ q => k b u q) (fun _ q => q) fun _ _ q => q
/-- a new object is laid and tracked -/
theorem HOk.laid (x : HOk P w H h) (k : ∀ b u, h.get? b = some u → h'.get? b = some u) (hp : h.objs.size ≤ a) (new : ObjOk P w (upd H a o) h' a o) : HOk P w (upd H a o) h' := fun b u e => by
  have hn := x.fresh hp
  by_cases hb : b = a
  · subst hb; rw [upd_same] at e; cases e; exact new
  · rw [upd_ne hb] at e
    exact (x b u e).stay (fun c v _ q => k c v q) (fun c q => by rw [upd_ne (ne_of_none q hn)]; exact q) fun c xs q => by rw [upd_ne (ne_of_none q hn)]; exact q
end

/-- what may be read as u: it is u, or a known u -/
def Rd (H : Hp) (a : Addr) (u : HO) : Prop := H a = some u ∨ ∃ o, H a = some (.frz o u)
theorem Rd.ok {P : Program} {w : World} {H : Hp} {h : Heap} {a : Addr} {u : HO} (r : Rd H a u) (x : HOk P w H h) : ObjOk P w H h a u := by
  rcases r with r | ⟨o, r⟩
  · exact x a u r
  · obtain ⟨_, q⟩ := x a _ r
    exact q
/-- what may be written -/
def Mut : Option HO → Prop
  | some (.lst _) => True
  | some (.dK _) => True
  | some (.dT _) => True
  | some (.set _ _) => True
  | some (.ins _ _ _) => True
  | some (.ext _) => True
  | _ => False
section
variable {P : Program} {w : World} {H : Hp} {h h' : Heap} {x e : Addr} {o' : HO}
/-- the object at e is changed: x itself, or the dict of the instance x -/
theorem HOk.write (ok : HOk P w H h) (mu : Mut (H x)) (he : e = x ∨ H e = some (.own x)) (k : ∀ b u, b ≠ e → h.get? b = some u → h'.get? b = some u) (heo : ∃ u, h'.get? e = some u)
    (new : ObjOk P w (upd H x o') h' x o') : HOk P w (upd H x o') h' := fun b u q => by
  have nown : ∀ c y, H c = some (.own y) → c ≠ x := fun c y r z => by subst z; rw [r] at mu; exact mu
  have ntup : ∀ c xs, H c = some (.tup xs) → c ≠ x := fun c xs r z => by subst z; rw [r] at mu; exact mu
  by_cases hb : b = x
  · subst hb; rw [upd_same] at q; cases q; exact new
  · rw [upd_ne hb] at q
    by_cases hbe : b = e
    · have q' : H b = some (.own x) := by
        rcases he with z | z
        · exact absurd (hbe.trans z) hb
        · rw [hbe]; exact z
      rw [q] at q'; cases q'
      obtain ⟨v, hv⟩ := heo
      exact ⟨v, by rw [hbe]; exact hv⟩
    · refine (ok b u q).stay (fun c v hc r => k c v ?_ r) (fun c r => by rw [upd_ne (nown c b r)]; exact r) fun c xs r => by rw [upd_ne (ntup c xs r)]; exact r
      rcases hc with rfl | hc
      · exact hbe
      · rintro rfl
        rcases he with z | z
        · exact nown c b hc z
        · rw [hc] at z; cases z; exact hb rfl
end

/-! ### kept unless tracked; of the frames at fs (the callers') the slots may change (an exception that passes writes there); of the records at ex (iterators) nothing is said -/
structure Un (fs ex : List Addr) (H H' : Hp) (h h' : Heap) : Prop where
  keep : ∀ b o, h.get? b = some o → H b = none → b ∉ fs → b ∉ ex → h'.get? b = some o
  slot : ∀ b o, h.get? b = some o → H b = none → b ∈ fs → b ∉ ex → ∃ sl, h'.get? b = some { o with slots := sl }
  free : ∀ b o, h.get? b = some o → H b = none → b ∉ ex → H' b = none
  there : ∀ b o, h.get? b = some o → b ∉ ex → ∃ o', h'.get? b = some o'
  tups : ∀ b xs, H b = some (.tup xs) → H' b = some (.tup xs)
  frzs : ∀ b o u, H b = some (.frz o u) → H' b = some (.frz o u)
  tbls : ∀ b ps, H b = some (.tbl ps) → ∃ more, H' b = some (.tbl (ps ++ more))
section
variable {fs fs' ex ex' : List Addr} {H H1 H2 : Hp} {h h1 h2 h' : Heap} {a x e : Addr} {o : HO}
theorem Un.any (u : Un fs ex H H1 h h1) {b : Addr} {ob : Obj} (q : h.get? b = some ob) (n : H b = none) (hx : b ∉ ex) : ∃ sl, h1.get? b = some { ob with slots := sl } := by
  by_cases hb : b ∈ fs
  · exact u.slot b ob q n hb hx
  · exact ⟨ob.slots, u.keep b ob q n hb hx⟩
theorem Un.kept (k : ∀ b u, h.get? b = some u → h'.get? b = some u) : Un fs ex H H h h' :=
  ⟨fun b ob q _ _ _ => k b ob q, fun b ob q _ _ _ => ⟨ob.slots, k b ob q⟩, fun _ _ _ n _ => n, fun b ob q _ => ⟨ob, k b ob q⟩, fun _ _ q => q, fun _ _ _ q => q, fun _ ps q => ⟨#[], by rw [q]; simp⟩⟩
theorem Un.refl : Un fs ex H H h h := Un.kept fun _ _ q => q
theorem Un.laid (k : ∀ b u, h.get? b = some u → h'.get? b = some u) (hp : h.objs.size ≤ a) (hn : H a = none) : Un fs ex H (upd H a o) h h' where
  keep := fun b u q _ _ _ => k b u q
  slot := fun b u q _ _ _ => ⟨u.slots, k b u q⟩
  free := fun b u q n _ => by rw [upd_ne (Nat.ne_of_lt (Nat.lt_of_lt_of_le (Heap.lt_size q) hp))]; exact n
  there := fun b u q _ => ⟨u, k b u q⟩
  tups := fun b xs q => by rw [upd_ne (ne_of_none q hn)]; exact q
  frzs := fun b u xs q => by rw [upd_ne (ne_of_none q hn)]; exact q
  tbls := fun b ps q => ⟨#[], by rw [upd_ne (ne_of_none q hn), q]; simp⟩
theorem Un.write (mu : Mut (H x)) (he : e = x ∨ H e = some (.own x)) (k : ∀ b u, b ≠ e → h.get? b = some u → h'.get? b = some u) (heo : ∃ u, h'.get? e = some u) : Un fs ex H (upd H x o) h h' := by
  have hx : ∀ b, H b = none → b ≠ x := fun b n z => by subst z; rw [n] at mu; exact mu
  have hb : ∀ b, H b = none → b ≠ e := fun b n z => by
    subst z
    rcases he with r | r
    · exact hx b n r
    · rw [n] at r; cases r
  have hm : ∀ b u, H b = some u → ¬ Mut (some u) → b ≠ x := fun b u q nm z => by subst z; rw [q] at mu; exact nm mu
  refine ⟨fun b u q n _ _ => k b u (hb b n) q, fun b u q n _ _ => ⟨u.slots, k b u (hb b n) q⟩, fun b u q n _ => by rw [upd_ne (hx b n)]; exact n, fun b u q _ => ?_,
    fun b xs q => by rw [upd_ne (hm b _ q fun z => z)]; exact q, fun b u xs q => by rw [upd_ne (hm b _ q fun z => z)]; exact q, fun b ps q => ⟨#[], by rw [upd_ne (hm b _ q fun z => z), q]; simp⟩⟩
  by_cases hbe : b = e
  · subst hbe; exact heo
  · exact ⟨u, k b u hbe q⟩
end

/-! ### the heap without what is tracked -/
def trk (h : Heap) (H : Hp) : List Addr := (List.range h.objs.size).filter fun a => (H a).isSome
def hidT (h : Heap) (H : Hp) : Heap := PySem.W.hideAll h (trk h H)
theorem hidT_size (h : Heap) (H : Hp) : (hidT h H).objs.size = h.objs.size := PySem.W.hideAll_size _ _
theorem hidT_get {h : Heap} {H : Hp} {b : Addr} {o : Obj} (e : h.get? b = some o) (n : H b = none) : (hidT h H).get? b = some o :=
  PySem.W.hideAll_get _ e fun hm => by
    have q : (H b).isSome = true := (List.mem_filter.mp hm).2
    rw [n] at q; simp at q
theorem of_hidT {h : Heap} {H : Hp} {b : Addr} {o : Obj} (e : (hidT h H).get? b = some o) : h.get? b = some o ∧ H b = none := by
  have e' : h.get? b = some o := PySem.W.of_hideAll (trk h H) e
  refine ⟨e', ?_⟩
  cases q : H b with
  | none => rfl
  | some x =>
    have hm : b ∈ trk h H := List.mem_filter.mpr ⟨List.mem_range.mpr (Heap.lt_size e'), by simp [q]⟩
    have z : (hidT h H).get? b = none := PySem.W.hideAll_none (trk h H) hm
    rw [z] at e; cases e

/-! ### OpenK's ledger, filled with every new object but one -/
end L2

namespace L2
open PySem PySem.Spec PyProof.Rows

/-- the module's facts, over the base: the heap at the law's entry without what is tracked there -/
structure Mod (K : PySem.W.Frag) (mg : Str → Option Value) (base : Heap) : Prop where
  kin : K.In base
  glob : base.Ns mainGlobals mg
  blt : ∃ mb, base.Ns builtinsNs mb ∧ ∀ x : Str, x ≠ "__name__" → mb x = bootBuiltins x
  nolimit : base.NoLimit

/-- the context: a def's body (or a comprehension's block) running. base: fixed through the whole law; s₀, H₀: the entry; outer: the frames whose slots others may change (a def's callers); stack: all frames that run;
   ex: iterators that were made ahead of the entry and are walked here (a comprehension's); fn: the names whose cells were made at the entry (a def: all; a comprehension's block: its own); calm: not within an except suite; pn: pins that every state bears; xe: what is wanted of an exception that leaves the code -/
structure Cx where
  prog : Program
  w : World
  K : PySem.W.Frag
  mg : Str → Option Value
  base : Heap
  A : Around
  N : List Str
  s_0 : Shared
  H_0 : Hp
  env : Env
  outer : List Env
  stack : List Env
  ex : List Addr
  fn : Str → Bool
  calm : Bool
  pn : List (Addr × Obj)
  xe : Value → Shared → Prop
/-- the callers' frames -/
def frs (l : List Env) : List Addr := l.filterMap (·.frame)
abbrev Cx.fs (X : Cx) : List Addr := frs X.outer

def Vis (sc : Scope) (x : Str) : Prop := sc.names.lookup x = some .local ∨ sc.names.lookup x = some .cell ∨ sc.names.lookup x = some .free
def Loc (sc : Scope) (x : Str) : Prop := sc.names.lookup x = some .local ∨ sc.names.lookup x = some .cell
def Look (env : Env) (h : Heap) (m : Str → Option Value) (x : Str) (u : Value) : Prop :=
  (env.kindOf x = some .local ∧ m x = some u) ∨ ((env.kindOf x = some .cell ∨ env.kindOf x = some .free) ∧ ∃ c, env.cells.lookup x = some c ∧ h.IsCell c (some u))

structure Cx.Ok (X : Cx) : Prop where
  mod : Mod X.K X.mg X.base
  kind : X.env.scope.kind = .function
  glob : X.env.globals = mainGlobals
  blt : X.env.builtins = builtinsNs
  above : X.s_0.heap.objs.size ≤ X.env.locals
  inj : ∀ x y c, X.env.cells.lookup x = some c → X.env.cells.lookup y = some c → x = y
  has : ∀ x, (X.env.kindOf x = some .cell ∨ X.env.kindOf x = some .free) → ∃ c, X.env.cells.lookup x = some c
  cab : ∀ x c, X.fn x = true → X.env.cells.lookup x = some c → X.s_0.heap.objs.size ≤ c
  hd : X.calm = true → X.A.handled = none
  frames : X.A.frames = some X.stack
  stk : X.stack = X.outer ∨ (X.stack = X.env :: X.outer ∧ X.env.frame = some X.env.locals)
  exf : ∀ b ∈ X.ex, b ≠ X.env.locals ∧ ∀ x c, X.env.cells.lookup x = some c → c ≠ b
  bs : ∀ b o, X.base.get? b = some o → X.s_0.heap.get? b = some o ∧ X.H_0 b = none
  bsz : X.base.objs.size ≤ X.s_0.heap.objs.size
  noex : ∀ b o, X.base.get? b = some o → b ∉ X.ex
  exfs : ∀ b ∈ X.ex, b ∉ X.fs
  funs : X.s_0.heap.FunFrames X.base X.outer
  frf : ∀ b ∈ X.fs, X.H_0 b = none

structure Inv (X : Cx) (pins : List (Addr × Obj)) (σ : List (Option V)) (H : Hp) (s : Shared) : Prop where
  ok : X.Ok
  os : s.os = X.s_0.os
  bare : AllBare s.gens
  base : Un X.fs X.ex X.H_0 H X.s_0.heap s.heap
  loc : ∃ m, s.heap.Ns X.env.locals m ∧ ∀ (i : Nat) (x : Str) (v : V), X.N[i]? = some x → σ[i]? = some (some v) → Vis X.env.scope x → ∃ u, RelV v u ∧ Look X.env s.heap m x u
  cell : ∀ x c, X.env.cells.lookup x = some c → ∃ v, s.heap.IsCell c v
  free : H X.env.locals = none
  freeC : ∀ x c, X.env.cells.lookup x = some c → H c = none
  pin : ∀ p ∈ X.pn ++ pins, s.heap.get? p.1 = some p.2 ∧ H p.1 = none ∧ p.1 ≠ X.env.locals ∧ p.1 ∉ X.fs ∧ ∀ v, p.2.data ≠ .cell v
  hok : HOk X.prog X.w H s.heap
  len : σ.length = X.N.length

section
variable {X : Cx} {pins : List (Addr × Obj)} {σ : List (Option V)} {H H' : Hp} {s : Shared} {h' : Heap}

theorem Cx.Ok.nofr (ok : X.Ok) {b : Addr} {o : Obj} (e : X.base.get? b = some o) : b ∉ X.fs := fun hb => by
  have := (ok.funs.mem hb).1
  rw [e] at this; cases this
theorem Inv.bs (I : Inv X pins σ H s) : ∀ b o, X.base.get? b = some o → s.heap.get? b = some o ∧ H b = none := fun b o e =>
  ⟨I.base.keep b o (I.ok.bs b o e).1 (I.ok.bs b o e).2 (I.ok.nofr e) (I.ok.noex b o e), I.base.free b o (I.ok.bs b o e).1 (I.ok.bs b o e).2 (I.ok.noex b o e)⟩
theorem Inv.bk (I : Inv X pins σ H s) : ∀ b o, X.base.get? b = some o → s.heap.get? b = some o := fun b o e => (I.bs b o e).1
theorem Inv.mod (I : Inv X pins σ H s) : Mod X.K X.mg X.base := I.ok.mod
theorem Inv.kIn (I : Inv X pins σ H s) : X.K.In s.heap := I.ok.mod.kin.keeps I.bk
theorem Inv.nolimit (I : Inv X pins σ H s) : s.heap.NoLimit := I.ok.mod.nolimit.keeps I.bk
theorem Inv.lt (I : Inv X pins σ H s) : X.env.locals < s.heap.objs.size := let ⟨_, hn, _⟩ := I.loc; hn.lt
theorem Inv.sz (I : Inv X pins σ H s) : X.s_0.heap.objs.size ≤ s.heap.objs.size := Nat.le_trans I.ok.above (Nat.le_of_lt I.lt)
theorem Inv.nofs (I : Inv X pins σ H s) {a : Addr} (h : s.heap.objs.size ≤ a) : a ∉ X.fs := fun hb => by
  obtain ⟨_, o, ho, _⟩ := I.ok.funs.mem hb
  exact absurd (Nat.lt_of_lt_of_le (Heap.lt_size ho) (Nat.le_trans I.sz h)) (Nat.lt_irrefl _)
theorem Inv.cne (I : Inv X pins σ H s) : ∀ x c, X.env.cells.lookup x = some c → c ≠ X.env.locals := fun x c e z => by
  obtain ⟨v, o, ho, hd⟩ := I.cell x c e
  obtain ⟨m, ⟨o', es, ep, ho', hd', _⟩, _⟩ := I.loc
  rw [z, ho'] at ho; cases ho; rw [hd'] at hd; cases hd
theorem Inv.funs (I : Inv X pins σ H s) : s.heap.FunFrames X.base X.outer := by
  have all : ∀ (l : List Env), (∀ b ∈ frs l, b ∈ X.fs) → X.s_0.heap.FunFrames X.base l → s.heap.FunFrames X.base l := by
    intro l
    induction l with
    | nil => intro _ _; trivial
    | cons env r ih =>
      intro hs hl
      obtain ⟨hk, ⟨L, o, hf, hn, ho, hd⟩, hr⟩ := hl
      have hL : L ∈ X.fs := hs L (by unfold frs; rw [List.filterMap_cons, hf]; exact List.mem_cons_self)
      obtain ⟨sl, e⟩ := I.base.slot L o ho (I.ok.frf L hL) hL fun z => I.ok.exfs L z hL
      exact ⟨hk, ⟨L, _, hf, hn, e, hd⟩, ih (fun b hb => hs b (by unfold frs; rw [List.filterMap_cons, hf]; exact List.mem_cons_of_mem _ hb)) hr⟩
  exact all X.outer (fun _ hb => hb) I.ok.funs

/-- the frames that run, for a call -/
theorem Inv.stack (I : Inv X pins σ H s) : s.heap.FunFrames X.base X.stack := by
  rcases I.ok.stk with e | ⟨e, hf⟩
  · rw [e]; exact I.funs
  · rw [e]
    obtain ⟨m, hn, _⟩ := I.loc
    refine .cons (by rw [I.ok.kind]; decide) hf hn ?_ I.funs
    exact Heap.get?_none_of_le (Nat.le_trans I.ok.bsz I.ok.above)
theorem Inv.stkSub (I : Inv X pins σ H s) : ∀ b ∈ frs X.stack, b ∈ X.env.locals :: X.fs := fun b hb => by
  rcases I.ok.stk with e | ⟨e, hf⟩
  · rw [e] at hb; exact List.mem_cons_of_mem _ hb
  · rw [e] at hb
    unfold frs at hb
    rw [List.filterMap_cons, hf] at hb
    exact hb
theorem Inv.stkFree (I : Inv X pins σ H s) : ∀ b ∈ frs X.stack, H b = none := fun b hb => by
  rcases List.mem_cons.mp (I.stkSub b hb) with e | hb
  · rw [e]; exact I.free
  · obtain ⟨_, o, ho, _⟩ := I.ok.funs.mem hb
    exact I.base.free b o ho (I.ok.frf b hb) fun z => I.ok.exfs b z hb

/-- THE STEP: the untracked objects but the frame and the records at ch are kept (the callers' frames up to slots), the frame's map is kept, the new abstract heap is held -/
theorem Inv.step {g' : Array GenState} {t' : Nat} {d' : Drawn} {ch : List Addr} (I : Inv X pins σ H s)
    (hch : ∀ b ∈ ch, (b ∈ X.ex ∨ X.s_0.heap.objs.size ≤ b) ∧ b ≠ X.env.locals ∧ (∀ x c, X.env.cells.lookup x = some c → c ≠ b) ∧ ∀ p ∈ X.pn ++ pins, p.1 ≠ b)
    (keep : ∀ b o, b ≠ X.env.locals → b ∉ X.fs → b ∉ ch → s.heap.get? b = some o → H b = none → h'.get? b = some o)
    (slot : ∀ b o, b ≠ X.env.locals → b ∈ X.fs → b ∉ ch → s.heap.get? b = some o → H b = none → ∃ sl, h'.get? b = some { o with slots := sl }) (free : ∀ b o, b ∉ ch → s.heap.get? b = some o → H b = none → H' b = none)
    (there : ∀ b o, b ∉ ch → s.heap.get? b = some o → ∃ o', h'.get? b = some o')
    (tups : ∀ b xs, H b = some (.tup xs) → H' b = some (.tup xs)) (frzs : ∀ b o u, H b = some (.frz o u) → H' b = some (.frz o u)) (tbls : ∀ b ps, H b = some (.tbl ps) → ∃ more, H' b = some (.tbl (ps ++ more)))
    (ns : ∀ m, s.heap.Ns X.env.locals m → h'.Ns X.env.locals m) (hok : HOk X.prog X.w H' h') (hg : AllBare g') :
    Inv X pins σ H' { s with heap := h', gens := g', drawn := d', toks := t' } := by
  have neL : ∀ b o, X.s_0.heap.get? b = some o → b ≠ X.env.locals := fun b o e => Nat.ne_of_lt (Nat.lt_of_lt_of_le (Heap.lt_size e) I.ok.above)
  have neC : ∀ b o, X.s_0.heap.get? b = some o → b ∉ X.ex → b ∉ ch := fun b o e hx hb => by
    rcases (hch b hb).1 with z | z
    · exact hx z
    · exact absurd (Nat.lt_of_lt_of_le (Heap.lt_size e) z) (Nat.lt_irrefl _)
  have cellK : ∀ x c, X.env.cells.lookup x = some c → ∀ v, s.heap.IsCell c v → h'.IsCell c v := fun x c e v ⟨o, ho, hd⟩ => by
    have nch : c ∉ ch := fun z => (hch c z).2.2.1 x c e rfl
    by_cases hc : c ∈ X.fs
    · obtain ⟨sl, q⟩ := slot c o (I.cne x c e) hc nch ho (I.freeC x c e)
      exact ⟨_, q, hd⟩
    · exact ⟨o, keep c o (I.cne x c e) hc nch ho (I.freeC x c e), hd⟩
  refine ⟨I.ok, I.os, hg, ⟨fun b o e n hb hx => ?_, fun b o e n hb hx => ?_, fun b o e n hx => ?_, fun b o e hx => ?_, fun b xs e => tups b xs (I.base.tups b xs e), fun b o xs e => frzs b o xs (I.base.frzs b o xs e), fun b ps e => ?_⟩, ?_, fun x c e => ?_, ?_, fun x c e => ?_, fun p hp => ?_, hok, I.len⟩
  · exact keep b o (neL b o e) hb (neC b o e hx) (I.base.keep b o e n hb hx) (I.base.free b o e n hx)
  · obtain ⟨sl, e1⟩ := I.base.slot b o e n hb hx
    obtain ⟨sl', e2⟩ := slot b _ (neL b o e) hb (neC b o e hx) e1 (I.base.free b o e n hx)
    exact ⟨sl', e2⟩
  · obtain ⟨o', e1⟩ := I.base.there b o e hx
    exact free b o' (neC b o e hx) e1 (I.base.free b o e n hx)
  · obtain ⟨o', e1⟩ := I.base.there b o e hx
    exact there b o' (neC b o e hx) e1
  · obtain ⟨m1, e1⟩ := I.base.tbls b ps e
    obtain ⟨m2, e2⟩ := tbls b _ e1
    exact ⟨m1 ++ m2, by rw [e2, Array.append_assoc]⟩
  · obtain ⟨m, hn, hl⟩ := I.loc
    refine ⟨m, ns m hn, fun i x v e1 e2 e3 => ?_⟩
    obtain ⟨u, r, l⟩ := hl i x v e1 e2 e3
    refine ⟨u, r, ?_⟩
    rcases l with l | ⟨k, c, e, z⟩
    · exact .inl l
    · exact .inr ⟨k, c, e, cellK x c e _ z⟩
  · obtain ⟨v, z⟩ := I.cell x c e
    exact ⟨v, cellK x c e v z⟩
  · obtain ⟨m, ⟨o, _, _, ho, _⟩, _⟩ := I.loc
    exact free _ o (fun z => (hch _ z).2.1 rfl) ho I.free
  · obtain ⟨v, o, ho, hd⟩ := I.cell x c e
    exact free c o (fun z => (hch c z).2.2.1 x c e rfl) ho (I.freeC x c e)
  · obtain ⟨e, n, ne, nf, d⟩ := I.pin p hp
    have nch : p.1 ∉ ch := fun z => (hch p.1 z).2.2.2 p hp rfl
    exact ⟨keep p.1 p.2 ne nf nch e n, free p.1 p.2 nch e n, ne, nf, d⟩
/-- .. where the frame's own object is kept too -/
theorem Inv.un {t' : Nat} (I : Inv X pins σ H s) (u : Un X.fs [] H H' s.heap h') (hok : HOk X.prog X.w H' h') : Inv X pins σ H' { s with heap := h', toks := t' } := by
  obtain ⟨m, ⟨o, es, ep, ho, r⟩, _⟩ := id I.loc
  obtain ⟨sl, hL⟩ := u.any ho I.free (by simp)
  exact I.step (g' := s.gens) (d' := s.drawn) (ch := []) (fun _ z => nomatch z) (fun b o _ hb _ e n => u.keep b o e n hb (by simp)) (fun b o _ hb _ e n => u.slot b o e n hb (by simp)) (fun b o _ e n => u.free b o e n (by simp)) (fun b o _ e => u.there b o e (by simp)) u.tups u.frzs u.tbls (fun m' hm => by
    obtain ⟨o', es', ep', ho', r'⟩ := hm
    rw [ho] at ho'; cases ho'
    exact ⟨_, es', ep', hL, r'⟩) hok I.bare
/-- behind a call (or a comprehension's block): the slots of this frame may have changed too, the records at ch may have turned -/
theorem Inv.call {g' : Array GenState} {t' : Nat} {d' : Drawn} {ch : List Addr} (I : Inv X pins σ H s) (u : Un (frs X.stack) ch H H' s.heap h') (hok : HOk X.prog X.w H' h') (hg : AllBare g')
    (hch : ∀ b ∈ ch, (b ∈ X.ex ∨ X.s_0.heap.objs.size ≤ b) ∧ b ≠ X.env.locals ∧ (∀ x c, X.env.cells.lookup x = some c → c ≠ b) ∧ ∀ p ∈ X.pn ++ pins, p.1 ≠ b) :
    Inv X pins σ H' { s with heap := h', gens := g', drawn := d', toks := t' } := by
  obtain ⟨m, ⟨o, es, ep, ho, r⟩, _⟩ := id I.loc
  obtain ⟨sl, hL⟩ := u.any ho I.free fun z => (hch _ z).2.1 rfl
  exact I.step (ch := ch) hch (fun b o hL hb hc e n => u.keep b o e n (fun z => (List.mem_cons.mp (I.stkSub b z)).elim hL hb) hc) (fun b o _ _ hc e n => u.any e n hc) (fun b o hc e n => u.free b o e n hc) (fun b o hc e => u.there b o e hc) u.tups u.frzs u.tbls (fun m' hm => by
    obtain ⟨o', es', ep', ho', r'⟩ := hm
    rw [ho] at ho'; cases ho'
    exact ⟨_, es', ep', hL, r'⟩) hok hg
/-- an untracked record of ours (an iterator) has turned -/
theorem Inv.turned {t' : Nat} {it : Addr} (I : Inv X pins σ H s) (k : ∀ b o, b ≠ it → s.heap.get? b = some o → h'.get? b = some o) (hn : H it = none) (hL : it ≠ X.env.locals)
    (h1 : it ∈ X.ex ∨ X.s_0.heap.objs.size ≤ it) (h2 : ∀ x c, X.env.cells.lookup x = some c → c ≠ it) (h3 : ∀ p ∈ X.pn ++ pins, p.1 ≠ it) : Inv X pins σ H { s with heap := h', toks := t' } := by
  have nit : ∀ b u, H b = some u → b ≠ it := fun b u e z => by rw [z, hn] at e; cases e
  refine I.step (g' := s.gens) (d' := s.drawn) (ch := [it]) (fun b hb => ?_) (fun b o _ _ hc e _ => k b o (fun z => hc (by simp [z])) e) (fun b o _ _ hc e _ => ⟨o.slots, k b o (fun z => hc (by simp [z])) e⟩) (fun _ _ _ _ n => n)
    (fun b o hc e => ⟨o, k b o (fun z => hc (by simp [z])) e⟩) (fun _ _ e => e) (fun _ _ _ e => e) (fun b ps e => ⟨#[], by rw [e]; simp⟩) (fun m hm => ?_) (fun b u e => ?_) I.bare
  · have e : b = it := by simpa using hb
    subst e
    exact ⟨h1, hL, h2, h3⟩
  · obtain ⟨o, es, ep, ho, r⟩ := hm
    exact ⟨o, es, ep, k _ o (Ne.symm hL) ho, r⟩
  · refine (I.hok b u e).stay (fun c v hc q => k c v ?_ q) (fun _ q => q) fun _ _ q => q
    rcases hc with z | z
    · rw [z]; exact nit b u e
    · exact nit c _ z
theorem Inv.tok (I : Inv X pins σ H s) (t : Nat) : Inv X pins σ H { s with toks := t } := I.un (h' := s.heap) (t' := t) Un.refl I.hok
/-- all objects kept -/
theorem Inv.kept {t' : Nat} (I : Inv X pins σ H s) (k : ∀ b u, s.heap.get? b = some u → h'.get? b = some u) : Inv X pins σ H { s with heap := h', toks := t' } := I.un (Un.kept k) (I.hok.kept k)
/-- a new object laid and tracked -/
theorem Inv.laid {a : Addr} {o : HO} {t' : Nat} (I : Inv X pins σ H s) (k : ∀ b u, s.heap.get? b = some u → h'.get? b = some u) (hp : s.heap.objs.size ≤ a) (new : ObjOk X.prog X.w (upd H a o) h' a o) :
    Inv X pins σ (upd H a o) { s with heap := h', toks := t' } := I.un (Un.laid k hp (I.hok.fresh hp)) (I.hok.laid k hp new)
/-- an object written -/
theorem Inv.write {x e : Addr} {o : HO} {t' : Nat} (I : Inv X pins σ H s) (mu : Mut (H x)) (he : e = x ∨ H e = some (.own x)) (k : ∀ b u, b ≠ e → s.heap.get? b = some u → h'.get? b = some u) (heo : ∃ u, h'.get? e = some u)
    (new : ObjOk X.prog X.w (upd H x o) h' x o) : Inv X pins σ (upd H x o) { s with heap := h', toks := t' } := I.un (Un.write mu he k heo) (I.hok.write mu he k heo new)
/-- forgetting slots, pins -/
theorem Inv.weak {σ' : List (Option V)} (I : Inv X pins σ H s) (hl : σ'.length = σ.length) (w : ∀ (i : Nat) v, σ'[i]? = some (some v) → σ[i]? = some (some v)) : Inv X pins σ' H s :=
  ⟨I.ok, I.os, I.bare, I.base, let ⟨m, hn, hl'⟩ := I.loc; ⟨m, hn, fun i x v e1 e2 e3 => hl' i x v e1 (w i v e2) e3⟩, I.cell, I.free, I.freeC, I.pin, I.hok, hl.trans I.len⟩
theorem Inv.pins_of {pins' : List (Addr × Obj)} (I : Inv X pins σ H s) (h : ∀ p ∈ pins', s.heap.get? p.1 = some p.2 ∧ H p.1 = none ∧ p.1 ≠ X.env.locals ∧ p.1 ∉ X.fs ∧ ∀ v, p.2.data ≠ .cell v) : Inv X pins' σ H s :=
  ⟨I.ok, I.os, I.bare, I.base, I.loc, I.cell, I.free, I.freeC, fun p hp => (List.mem_append.mp hp).elim (fun z => I.pin p (List.mem_append_left _ z)) (h p), I.hok, I.len⟩

theorem nodup_ix {N : List Str} (hN : N.Nodup) {i j : Nat} {x : Str} (a : N[i]? = some x) (b : N[j]? = some x) : i = j := by
  obtain ⟨h1, e1⟩ := List.getElem?_eq_some_iff.mp a
  obtain ⟨h2, e2⟩ := List.getElem?_eq_some_iff.mp b
  exact (List.getElem_inj hN).mp (e1.trans e2.symm)

/-- a name is stored; what changed -/
theorem store_ok2 {M : Model} {A : Around} {E : Value → Shared → Prop} {i : Nat} {x : Str} {v : V} {u : Value} {Q : Unit → Shared → Prop} (I : Inv X pins σ H s) (hN : X.N.Nodup) (hi : X.N[i]? = some x) (hx : Loc X.env.scope x) (r : RelV v u)
    (h : ∀ s', Inv X pins (σ.set i (some v)) H s' → (∃ a, Heap.SameBut a s.heap s'.heap ∧ (a = X.env.locals ∨ X.env.cells.lookup x = some a)) → Q () s') (hf : X.fn x = true ∨ X.env.scope.names.lookup x = some .local := by first | exact .inl rfl | exact .inr rfl | assumption) : wpAny M A (storeName X.env x u) Q E s := by
  obtain ⟨m, hn, hl⟩ := id I.loc
  have hcls : (X.env.scope.kind == .class || (X.env.scope.kind == .module && X.env.locals != X.env.globals)) = false := by rw [I.ok.kind]; rfl
  have hiσ : i < σ.length := by rw [I.len]; exact (List.getElem?_eq_some_iff.mp hi).1
  have cne := I.cne
  have tracked : ∀ {a : Addr} {h' : Heap}, (∃ o, s.heap.get? a = some o ∧ H a = none) → Heap.SameBut a s.heap h' → HOk X.prog X.w H h' := fun {a h'} ha hs b ob e => by
    obtain ⟨_, _, hfree⟩ := ha
    refine (I.hok b ob e).stay (fun c w' hc q => (hs.2 c ?_).trans q) (fun _ q => q) fun _ _ q => q
    rintro rfl
    rcases hc with rfl | hc
    · rw [hfree] at e; cases e
    · rw [hfree] at hc; cases hc
  rcases hx with hk | hk
  · refine wpAny_storeName_local hk hn (fun h' hn' hs => ?_) hcls
    obtain ⟨oL, _, _, hoL, _⟩ := id hn
    refine h _ ⟨I.ok, I.os, I.bare, ⟨fun b o e n hb hx => ?_, fun b o e n hb hx => ?_, I.base.free, fun b o e hx => ?_, I.base.tups, I.base.frzs, I.base.tbls⟩, ⟨_, hn', fun j y v' e1 e2 e3 => ?_⟩, fun y c e => ?_, I.free, I.freeC, fun p hp => ?_, tracked ⟨oL, hoL, I.free⟩ hs, by simpa using I.len⟩ ⟨_, hs, .inl rfl⟩
    · exact (hs.2 b (Nat.ne_of_lt (Nat.lt_of_lt_of_le (Heap.lt_size e) I.ok.above))).trans (I.base.keep b o e n hb hx)
    · obtain ⟨sl, e1⟩ := I.base.slot b o e n hb hx
      exact ⟨sl, (hs.2 b (Nat.ne_of_lt (Nat.lt_of_lt_of_le (Heap.lt_size e) I.ok.above))).trans e1⟩
    · obtain ⟨o', e1⟩ := I.base.there b o e hx
      exact ⟨o', (hs.2 b (Nat.ne_of_lt (Nat.lt_of_lt_of_le (Heap.lt_size e) I.ok.above))).trans e1⟩
    · by_cases hj : j = i
      · subst hj
        rw [hi] at e1; cases e1
        rw [List.getElem?_set_self hiσ] at e2
        cases e2
        exact ⟨u, r, .inl ⟨hk, by simp⟩⟩
      · rw [List.getElem?_set_ne (Ne.symm hj)] at e2
        obtain ⟨u', r', q⟩ := hl j y v' e1 e2 e3
        refine ⟨u', r', ?_⟩
        rcases q with ⟨k, e⟩ | ⟨k, c, e, z⟩
        · refine .inl ⟨k, ?_⟩
          have : y ≠ x := fun e => hj (nodup_ix hN e1 (e ▸ hi))
          simp [this, e]
        · exact .inr ⟨k, c, e, z.sameBut hs (cne y c e)⟩
    · obtain ⟨w', z⟩ := I.cell y c e
      exact ⟨w', z.sameBut hs (cne y c e)⟩
    · obtain ⟨e, n, ne, nf, d⟩ := I.pin p hp
      exact ⟨(hs.2 p.1 ne).trans e, n, ne, nf, d⟩
  · have hfn : X.fn x = true := by
      rcases hf with z | z
      · exact z
      · rw [z] at hk; cases hk
    obtain ⟨c, hc⟩ := I.ok.has x (.inl hk)
    obtain ⟨w', z⟩ := I.cell x c hc
    refine wpAny_storeName_cell I.ok.kind hk hc z (fun h' hc' hs => ?_)
    obtain ⟨oc, hoc, hocd⟩ := id z
    refine h { s with heap := h' } ⟨I.ok, I.os, I.bare, ⟨fun b o e n hb hx => ?_, fun b o e n hb hx => ?_, I.base.free, fun b o e hx => ?_, I.base.tups, I.base.frzs, I.base.tbls⟩, ⟨m, hn.sameBut hs (Ne.symm (cne x c hc)), fun j y v' e1 e2 e3 => ?_⟩, fun y c' e => ?_, I.free, I.freeC, fun p hp => ?_, tracked ⟨oc, hoc, I.freeC x c hc⟩ hs, by simpa using I.len⟩ ⟨c, hs, .inr hc⟩
    · exact (hs.2 b (Nat.ne_of_lt (Nat.lt_of_lt_of_le (Heap.lt_size e) (I.ok.cab x c hfn hc)))).trans (I.base.keep b o e n hb hx)
    · obtain ⟨sl, e1⟩ := I.base.slot b o e n hb hx
      exact ⟨sl, (hs.2 b (Nat.ne_of_lt (Nat.lt_of_lt_of_le (Heap.lt_size e) (I.ok.cab x c hfn hc)))).trans e1⟩
    · obtain ⟨o', e1⟩ := I.base.there b o e hx
      exact ⟨o', (hs.2 b (Nat.ne_of_lt (Nat.lt_of_lt_of_le (Heap.lt_size e) (I.ok.cab x c hfn hc)))).trans e1⟩
    · by_cases hj : j = i
      · subst hj
        rw [hi] at e1; cases e1
        rw [List.getElem?_set_self hiσ] at e2
        cases e2
        exact ⟨u, r, .inr ⟨.inl hk, c, hc, hc'⟩⟩
      · rw [List.getElem?_set_ne (Ne.symm hj)] at e2
        obtain ⟨u', r', q⟩ := hl j y v' e1 e2 e3
        refine ⟨u', r', ?_⟩
        rcases q with q | ⟨k, c', e, z'⟩
        · exact .inl q
        · refine .inr ⟨k, c', e, z'.sameBut hs ?_⟩
          rintro rfl
          exact hj (nodup_ix hN e1 (I.ok.inj _ _ _ e hc ▸ hi))
    · by_cases hcc : c' = c
      · subst hcc; exact ⟨_, hc'⟩
      · obtain ⟨w2, z2⟩ := I.cell y c' e
        exact ⟨w2, z2.sameBut hs hcc⟩
    · obtain ⟨e, n, ne, nf, d⟩ := I.pin p hp
      refine ⟨(hs.2 p.1 ?_).trans e, n, ne, nf, d⟩
      intro q
      rw [q, hoc] at e
      have q' : oc = p.2 := Option.some.inj e
      exact d w' (by rw [← q']; exact hocd)
theorem store_ok {M : Model} {A : Around} {E : Value → Shared → Prop} {i : Nat} {x : Str} {v : V} {u : Value} {Q : Unit → Shared → Prop} (I : Inv X pins σ H s) (hN : X.N.Nodup) (hi : X.N[i]? = some x) (hx : Loc X.env.scope x) (r : RelV v u)
    (h : ∀ s', Inv X pins (σ.set i (some v)) H s' → Q () s') (hf : X.fn x = true ∨ X.env.scope.names.lookup x = some .local := by first | exact .inl rfl | exact .inr rfl | assumption) : wpAny M A (storeName X.env x u) Q E s :=
  store_ok2 I hN hi hx r (fun s' I' _ => h s' I') hf
/-- behind a call or a block, the state as it is -/
theorem Inv.call' {s' : Shared} {ch : List Addr} (I : Inv X pins σ H s) (ho : s'.os = s.os) (u : Un (frs X.stack) ch H H' s.heap s'.heap) (hok : HOk X.prog X.w H' s'.heap) (hg : AllBare s'.gens)
    (hch : ∀ b ∈ ch, (b ∈ X.ex ∨ X.s_0.heap.objs.size ≤ b) ∧ b ≠ X.env.locals ∧ (∀ x c, X.env.cells.lookup x = some c → c ≠ b) ∧ ∀ p ∈ X.pn ++ pins, p.1 ≠ b) : Inv X pins σ H' s' := by
  obtain ⟨h', g', d', t', o'⟩ := s'
  have e : o' = s.os := ho
  subst e
  exact I.call (g' := g') (t' := t') (d' := d') u hok hg hch
end

/-! ### the judgements -/
/-- an exception: its class, its own dict's address (where it has one), the abstract heap behind it -/
abbrev XK := Value → Option Addr → Hp → Prop
abbrev St := List (Option V)
abbrev VK := V → Hp → Prop
/-- an expression's reading; a test's; an argument list's -/
abbrev TE := St → Hp → VK → Prop
abbrev TT := St → Hp → (Bool → Hp → Prop) → Prop
abbrev TA := St → Hp → (List V → Hp → Prop) → Prop
/-- what is wanted behind a statement -/
structure Ends where
  nx : St → Hp → Prop
  rt : VK
  bk : St → Hp → Prop := fun _ _ => False
  ct : St → Hp → Prop := fun _ _ => False
abbrev TS := Ends → St → Hp → Prop

def EP (X : Cx) (pins : List (Addr × Obj)) (σ : St) (Q : VK) (u : Value) (s' : Shared) : Prop := ∃ v H', Inv X pins σ H' s' ∧ RelV v u ∧ Q v H'
def TP (X : Cx) (pins : List (Addr × Obj)) (σ : St) (Q : Bool → Hp → Prop) (b : Bool) (s' : Shared) : Prop := ∃ H', Inv X pins σ H' s' ∧ Q b H'
def AP (X : Cx) (pins : List (Addr × Obj)) (σ : St) (Q : List V → Hp → Prop) (us : List Value) (s' : Shared) : Prop := ∃ vs H', Inv X pins σ H' s' ∧ Vals vs us ∧ Q vs H'
def SP (X : Cx) (pins : List (Addr × Obj)) (D : Ends) (f : Flow) (s' : Shared) : Prop :=
  match f with
  | .next => ∃ σ' H', Inv X pins σ' H' s' ∧ D.nx σ' H'
  | .brk => ∃ σ' H', Inv X pins σ' H' s' ∧ D.bk σ' H'
  | .cont => ∃ σ' H', Inv X pins σ' H' s' ∧ D.ct σ' H'
  | .ret u => ∃ v σ' H', Inv X pins σ' H' s' ∧ RelV v u ∧ D.rt v H'

def PE (X : Cx) (e : Expr) (t : TE) : Prop :=
  ∀ (pins : List (Addr × Obj)) (s : Shared) (σ : St) (H : Hp) (Q : VK), Inv X pins σ H s → t σ H Q → wpAny (model X.prog X.w) X.A (eval e X.env) (EP X pins σ Q) X.xe s
def PT (X : Cx) (e : Expr) (t : TT) : Prop :=
  ∀ (pins : List (Addr × Obj)) (s : Shared) (σ : St) (H : Hp) (Q : Bool → Hp → Prop), Inv X pins σ H s → t σ H Q → wpAny (model X.prog X.w) X.A (isTrue e X.env (eval e X.env)) (TP X pins σ Q) X.xe s
/-- a test whatever its 'whole' is (and, or) -/
def PW (X : Cx) (e : Expr) (t : TT) : Prop :=
  ∀ (whole : Sem Value) (pins : List (Addr × Obj)) (s : Shared) (σ : St) (H : Hp) (Q : Bool → Hp → Prop), Inv X pins σ H s → t σ H Q → wpAny (model X.prog X.w) X.A (isTrue e X.env whole) (TP X pins σ Q) X.xe s
theorem PW.pt {X : Cx} {e : Expr} {t : TT} (h : PW X e t) : PT X e t := h _
/-- an argument list (no star), from the left -/
def PA (X : Cx) (es : List Expr) (t : TA) : Prop :=
  ∀ (pos : Pos) (pins : List (Addr × Obj)) (s : Shared) (σ : St) (H : Hp) (Q : List V → Hp → Prop), Inv X pins σ H s → t σ H Q → wpAny (model X.prog X.w) X.A (spliced (backTo pos (starEach es X.env))) (AP X pins σ Q) X.xe s
def PS (X : Cx) (st : Stmt) (t : TS) : Prop :=
  ∀ (pins : List (Addr × Obj)) (s : Shared) (σ : St) (H : Hp) (D : Ends), Inv X pins σ H s → t D σ H → wpAny (model X.prog X.w) X.A (exec st X.env) (SP X pins D) X.xe s
def PSs (X : Cx) (st : List Stmt) (t : TS) : Prop :=
  ∀ (pins : List (Addr × Obj)) (s : Shared) (σ : St) (H : Hp) (D : Ends), Inv X pins σ H s → t D σ H → wpAny (model X.prog X.w) X.A (execs st X.env) (SP X pins D) X.xe s
/-- weaken the end -/
theorem thn {α : Type} {t : Sem α} {Q Q' : α → Shared → Prop} {M : Model} {A : Around} {E : Value → Shared → Prop} {s : Shared} (h : wpAny M A t Q E s) (hQ : ∀ a s, Q a s → Q' a s) : wpAny M A t Q' E s := wpAny_mono h hQ fun _ _ x => x
end L2

namespace L2
open PySem PySem.Spec PyProof.Rows
section
variable {X : Cx}

/-! ### names and constants -/
def tVar (i : Nat) : TE := fun σ H Q => ∃ v, σ[i]? = some (some v) ∧ Q v H
def tC (v : V) : TE := fun _ H Q => Q v H
theorem pe_var {i : Nat} {x : Str} {pos : Pos} (hN : X.N[i]? = some x) (hv : Vis X.env.scope x) (hd : (x == ("__debug__" : Str)) = false := by decide) (hcd : (x == ("__classdict__" : Str)) = false := by decide) : PE X (.Name x pos) (tVar i) := by
  intro pins s σ H Q I h
  obtain ⟨v, e, h⟩ := h
  obtain ⟨m, hn, hl⟩ := I.loc
  obtain ⟨u, r, l⟩ := hl i x v hN e hv
  have fin : EP X pins σ Q u s := ⟨v, H, I, r, h⟩
  rcases l with ⟨hk, hm⟩ | ⟨hk, c, hc, hcell⟩
  · exact wpAny_Name (wpAny_loadName_local I.ok.kind hk hn hm fin) hd
  · rcases hk with hk | hk
    · exact wpAny_Name (wpAny_loadName_cell I.ok.kind hk hc hcell fin) hd
    · exact wpAny_Name (wpAny_loadName_free I.ok.kind hk hc hcell fin hcd) hd
theorem pe_int {i j pos} : PE X (.Constant (.int i) j pos) (tC (.int i)) := fun _ _ _ H _ I h => wpAny_Constant_int ⟨.int i, H, I.tok _, ⟨_, rfl⟩, h⟩
/-- a global name of the def -/
def Gl (X : Cx) (x : Str) : Prop := X.env.kindOf x = some .globalImplicit
theorem ld_glob {E : Value → Shared → Prop} {pins : List (Addr × Obj)} {s : Shared} {σ : St} {H : Hp} {x : Str} {u : Value} {pos : Pos} {Q : Value → Shared → Prop} (I : Inv X pins σ H s) (hg : Gl X x) (hm : X.mg x = some u) (h : Q u s)
    (hd : (x == ("__debug__" : Str)) = false := by decide) : wpAny (model X.prog X.w) X.A (eval (.Name x pos) X.env) Q E s :=
  Calls.Name_function_global I.ok.kind hg (Calls.loadGlobal_global (by rw [I.ok.glob]; exact I.mod.glob.keeps I.bk) hm h) hd
theorem ld_blt {E : Value → Shared → Prop} {pins : List (Addr × Obj)} {s : Shared} {σ : St} {H : Hp} {x : Str} {u : Value} {pos : Pos} {Q : Value → Shared → Prop} (I : Inv X pins σ H s) (hg : Gl X x) (hm : X.mg x = none) (hv : bootBuiltins x = some u) (h : Q u s)
    (hn : x ≠ "__name__" := by decide) (hd : (x == ("__debug__" : Str)) = false := by decide) : wpAny (model X.prog X.w) X.A (eval (.Name x pos) X.env) Q E s := by
  obtain ⟨mb, h1, h2⟩ := I.mod.blt
  exact Calls.Name_function_global I.ok.kind hg (Calls.loadGlobal_builtin (by rw [I.ok.glob]; exact I.mod.glob.keeps I.bk) hm (by rw [I.ok.blt]; exact h1.keeps I.bk) ((h2 x hn).trans hv) h) hd
/-- a module's constant, a class, a function, as a value -/
theorem pe_glob {x : Str} {v : V} {u : Value} {pos : Pos} (hg : Gl X x) (hm : X.mg x = some u) (r : RelV v u) (hd : (x == ("__debug__" : Str)) = false := by decide) : PE X (.Name x pos) (tC v) :=
  fun _ _ _ H _ I h => ld_glob I hg hm ⟨v, H, I, r, h⟩ hd
/-! ### arithmetic -/
variable {a b : Expr} {ta tb : TE} {pos : Pos}
/-! ### comparisons -/
/-- a comparison as a value, as a test -/
def tB (t : TE) : TT := fun σ H Q => t σ H fun x H1 => ∃ c, x = .bl c ∧ Q c H1
/-- an expression whose value is a bool, as a test -/
theorem pt_val {e : Expr} {t : TE} (h : PE X e t) (he : ∀ whole, isTrue e X.env whole = (do let v ← whole; standAt e.pos; holding [v] (truthy v)) := by intro _; rfl) : PT X e (tB t) := by
  intro pins s σ H Q I hw
  refine isTrue_plain (thn (h pins s σ H _ I hw) fun v s1 ⟨x, H1, I1, r1, q1⟩ => ?_) (he _)
  obtain ⟨d, rfl, q⟩ := q1
  cases r1
  exact wpAny_truthy_bool ⟨H1, I1, q⟩

/-! ### and, or, not -/
variable {tA tB' : TT} {rest : List Expr}
def tAnd (t u : TT) : TT := fun σ H Q => t σ H fun c H1 => if c = true then u σ H1 Q else Q false H1
def tOr (t u : TT) : TT := fun σ H Q => t σ H fun c H1 => if c = true then Q true H1 else u σ H1 Q
theorem pw_and1 (ha : PT X a tA) : PW X (.BoolOp .And [a] pos) tA := by
  intro wh pins s σ H Q I h
  refine isTrue_and (thn (ha pins s σ H Q I h) fun c s1 e => ?_)
  cases c with
  | true => exact isTrue_and_nil e
  | false => exact e
theorem pw_or1 (ha : PT X a tA) : PW X (.BoolOp .Or [a] pos) tA := by
  intro wh pins s σ H Q I h
  refine isTrue_or (thn (ha pins s σ H Q I h) fun c s1 e => ?_)
  cases c with
  | false => exact isTrue_or_nil e
  | true => exact e
theorem pw_and (ha : PT X a tA) (hb : PW X (.BoolOp .And (b :: rest) pos) tB') : PW X (.BoolOp .And (a :: b :: rest) pos) (tAnd tA tB') := by
  intro wh pins s σ H Q I h
  refine isTrue_and (thn (ha pins s σ H _ I h) fun c s1 ⟨H1, I1, q1⟩ => ?_)
  cases c with
  | true => exact hb wh pins s1 σ H1 Q I1 q1
  | false => exact ⟨H1, I1, q1⟩
theorem pw_or (ha : PT X a tA) (hb : PW X (.BoolOp .Or (b :: rest) pos) tB') : PW X (.BoolOp .Or (a :: b :: rest) pos) (tOr tA tB') := by
  intro wh pins s σ H Q I h
  refine isTrue_or (thn (ha pins s σ H _ I h) fun c s1 ⟨H1, I1, q1⟩ => ?_)
  cases c with
  | true => exact ⟨H1, I1, q1⟩
  | false => exact hb wh pins s1 σ H1 Q I1 q1
end
end L2

namespace L2
open PySem PySem.Spec PyProof.Rows

/-! ### a list, a tuple that is read: tracked, frozen, or an object of the module -/
def SqL (K : PySem.W.Frag) (H : Hp) (a : Addr) (xs : List V) : Prop :=
  Rd H a (.lst xs) ∨
    ∃ (o : Obj) (its : Array Value) (n : Nat), K.lookup a = some o ∧ o.cls = .type "list" ∧ o.dict = none ∧ o.data = .seq its n ∧ its.size ≤ sizeLine ∧ Vals xs its.toList
def SqT (K : PySem.W.Frag) (H : Hp) (a : Addr) (xs : List V) : Prop :=
  Rd H a (.tup xs) ∨
    ∃ (o : Obj) (its : Array Value) (n : Nat), K.lookup a = some o ∧ o.cls = .type "tuple" ∧ o.data = .seq its n ∧ its.size ≤ sizeLine ∧ Vals xs its.toList
def absV : Value → Option V
  | .none => some .non
  | .bool b => some (.bl b)
  | .int i _ => some (.int i)
  | .str x _ => some (.str x)
  | .bytes b _ => some (.byt b)
  | .float b _ => some (.flt b)
  | .ref a => some (.ref a)
  | .type n => some (.ty n)
  | _ => none
theorem RelV.abs {x : V} {u : Value} (r : RelV x u) : absV u = some x := by
  cases x with
  | non => cases r; rfl
  | bl _ => cases r; rfl
  | int _ => obtain ⟨t, rfl⟩ := r; rfl
  | str _ => obtain ⟨t, rfl⟩ := r; rfl
  | byt _ => obtain ⟨t, rfl⟩ := r; rfl
  | flt _ => obtain ⟨t, rfl⟩ := r; rfl
  | ref _ => cases r; rfl
  | ty _ => cases r; rfl
theorem RelV.inj {x y : V} {u : Value} (r : RelV x u) (q : RelV y u) : x = y := Option.some.inj (r.abs.symm.trans q.abs)
theorem Vals.inj : ∀ {xs ys : List V} {us : List Value}, Vals xs us → Vals ys us → xs = ys
  | _, _, _, .nil, .nil => rfl
  | _, _, _, .cons r t, .cons r' t' => by rw [r.inj r', Vals.inj t t']
section
variable {X : Cx} {pins : List (Addr × Obj)} {σ : St} {H : Hp} {s : Shared} {a : Addr} {xs ys : List V}
theorem SqL.of {K : PySem.W.Frag} (h : H a = some (.lst xs)) : SqL K H a xs := .inl (.inl h)
theorem Inv.list (I : Inv X pins σ H s) (h : SqL X.K H a xs) : ∃ its : List Value, Vals xs its ∧ PlainL s.heap a its.toArray ∧ xs.length ≤ sizeLine := by
  rcases h with h | ⟨o, its, n, hk, hc, hd, hs, hz, r⟩
  · obtain ⟨z, its, n, r, e⟩ := h.ok I.hok
    exact ⟨its, r, ⟨_, n, e, rfl, rfl, rfl⟩, z⟩
  · refine ⟨its.toList, r, ⟨o, n, I.kIn a o hk, hc, hd, by simpa using hs⟩, ?_⟩
    have e := r.length
    simp only [Array.length_toList] at e
    omega
theorem Inv.tuple (I : Inv X pins σ H s) (h : SqT X.K H a xs) : ∃ its : List Value, Vals xs its ∧ IsTup s.heap a its.toArray ∧ xs.length ≤ sizeLine := by
  rcases h with h | ⟨o, its, n, hk, hc, hs, hz, r⟩
  · obtain ⟨z, its, r, p⟩ := h.ok I.hok
    exact ⟨its, r, p, z⟩
  · refine ⟨its.toList, r, ⟨o, I.kIn a o hk, hc, n, by simpa using hs⟩, ?_⟩
    have e := r.length
    simp only [Array.length_toList] at e
    omega
theorem Inv.list_inj (I : Inv X pins σ H s) (h : SqL X.K H a xs) (h' : SqL X.K H a ys) : xs = ys := by
  obtain ⟨its, r, ⟨o, n, e, _, _, d⟩, _⟩ := I.list h
  obtain ⟨its', r', ⟨o', n', e', _, _, d'⟩, _⟩ := I.list h'
  rw [e] at e'; cases e'
  rw [d] at d'
  injection d' with d1 _
  have : its = its' := by simpa using congrArg Array.toList d1
  subst this
  exact r.inj r'
end

/-! ### another wish about exceptions -/
abbrev Cx.wish (X : Cx) (E : Value → Shared → Prop) : Cx := { X with xe := E }
/-- no exception leaves -/
abbrev Cx.nox (X : Cx) : Cx := X.wish fun _ _ => False
theorem Cx.Ok.wish {X : Cx} (ok : X.Ok) (E : Value → Shared → Prop) : (X.wish E).Ok :=
  ⟨ok.mod, ok.kind, ok.glob, ok.blt, ok.above, ok.inj, ok.has, ok.cab, ok.hd, ok.frames, ok.stk, ok.exf, ok.bs, ok.bsz, ok.noex, ok.exfs, ok.funs, ok.frf⟩
theorem Cx.Ok.unwish {X : Cx} {E : Value → Shared → Prop} (ok : (X.wish E).Ok) : X.Ok :=
  ⟨ok.mod, ok.kind, ok.glob, ok.blt, ok.above, ok.inj, ok.has, ok.cab, ok.hd, ok.frames, ok.stk, ok.exf, ok.bs, ok.bsz, ok.noex, ok.exfs, ok.funs, ok.frf⟩
section
variable {X : Cx} {pins : List (Addr × Obj)} {σ : St} {H : Hp} {s : Shared} {E : Value → Shared → Prop}
theorem Inv.wish (I : Inv X pins σ H s) (E : Value → Shared → Prop) : Inv (X.wish E) pins σ H s := ⟨I.ok.wish E, I.os, I.bare, I.base, I.loc, I.cell, I.free, I.freeC, I.pin, I.hok, I.len⟩
theorem Inv.unwish (I : Inv (X.wish E) pins σ H s) : Inv X pins σ H s := ⟨I.ok.unwish, I.os, I.bare, I.base, I.loc, I.cell, I.free, I.freeC, I.pin, I.hok, I.len⟩
theorem SP.unwish {D : Ends} {f : Flow} {s' : Shared} (h : SP (X.wish E) pins D f s') : SP X pins D f s' := by
  cases f with
  | next => obtain ⟨σ', H', I, q⟩ := h; exact ⟨σ', H', I.unwish, q⟩
  | brk => obtain ⟨σ', H', I, q⟩ := h; exact ⟨σ', H', I.unwish, q⟩
  | cont => obtain ⟨σ', H', I, q⟩ := h; exact ⟨σ', H', I.unwish, q⟩
  | ret u => obtain ⟨v, σ', H', I, r, q⟩ := h; exact ⟨v, σ', H', I.unwish, r, q⟩
theorem PSs.nox {st : List Stmt} {t : TS} (h : PSs X.nox st t) : PSs X st t := fun pins s σ H D I hw =>
  wpAny_mono (h pins s σ H D (I.wish _) hw) (fun _ _ q => q.unwish) fun _ _ z => False.elim z
end

/-! ### blocks and small statements -/
section
variable {X : Cx} {st : Stmt} {rest : List Stmt} {t u : TS} {e : Expr} {te : TE} {pos : Pos}
def tNext : TS := fun D σ H => D.nx σ H
def tSeq (t u : TS) : TS := fun D σ H => t { D with nx := u D } σ H
theorem pss_nil : PSs X [] tNext := fun _ _ σ H _ I h => wpAny_execs_nil ⟨σ, H, I, h⟩
theorem pss_cons (h1 : PS X st t) (h2 : PSs X rest u) : PSs X (st :: rest) (tSeq t u) := by
  intro pins s σ H D I h
  refine wpAny_execs_cons (thn (h1 pins s σ H { D with nx := u D } I h) fun f s1 q => ?_)
  cases f with
  | next =>
    obtain ⟨σ', H', I', q⟩ := q
    exact h2 pins s1 σ' H' D I' q
  | ret v => exact q
  | brk => exact q
  | cont => exact q
theorem pss_one (h1 : PS X st t) : PSs X [st] t := by
  intro pins s σ H D I h
  refine wpAny_execs_cons (thn (h1 pins s σ H D I h) fun f s1 q => ?_)
  cases f with
  | next => exact wpAny_execs_nil q
  | ret v => exact q
  | brk => exact q
  | cont => exact q
/-- in a def's body nothing is shown -/
theorem Inv.quiet {pins : List (Addr × Obj)} {σ : St} {H : Hp} {s : Shared} (I : Inv X pins σ H s) : interactive X.env = false := by simp [interactive, I.ok.kind]
/-- an expression whose value is dropped -/
def tDrop (te : TE) : TS := fun D σ H => te σ H fun _ H1 => D.nx σ H1
theorem ps_expr (he : PE X e te) (hs : swapsWith e none pos.line X.env = pure false := by rfl) : PS X (.Expr e pos) (tDrop te) := by
  intro pins s σ H D I h
  exact wpAny_Expr_any (thn (he pins s σ H _ I h) fun v s1 ⟨x, H1, I1, r1, q1⟩ => ⟨σ, H1, I1, q1⟩) I.quiet hs
def tRet (te : TE) : TS := fun D σ H => te σ H D.rt
theorem ps_ret (he : PE X e te) : PS X (.Return (some e) pos) (tRet te) := by
  intro pins s σ H D I h
  exact wpAny_Return_some (thn (he pins s σ H _ I h) fun v s1 ⟨x, H1, I1, r1, q1⟩ => ⟨x, σ, H1, I1, r1, q1⟩)
def tIfS (c : TT) (t u : TS) : TS := fun D σ H => c σ H fun b H1 => if b = true then t D σ H1 else u D σ H1
theorem ps_if {c : Expr} {a b : List Stmt} {tc : TT} (hc : PT X c tc) (ha : PSs X a t) (hb : PSs X b u) : PS X (.If c a b pos) (tIfS tc t u) := by
  intro pins s σ H D I h
  refine wpAny_If (thn (hc pins s σ H _ I h) fun d s1 ⟨H1, I1, q1⟩ => ?_)
  cases d with
  | true => exact ha pins s1 σ H1 D I1 q1
  | false => exact hb pins s1 σ H1 D I1 q1
end

/-! ### targets -/
abbrev TG := V → St → Hp → (St → Hp → Prop) → Prop
def PG (X : Cx) (target : Expr) (t : TG) : Prop :=
  ∀ (pins : List (Addr × Obj)) (s : Shared) (σ : St) (H : Hp) (v : V) (u : Value) (Q : St → Hp → Prop), Inv X pins σ H s → RelV v u → t v σ H Q →
    wpAny (model X.prog X.w) X.A (assign target X.env u) (fun _ s' => ∃ σ' H', Inv X pins σ' H' s' ∧ Q σ' H') X.xe s
section
variable {X : Cx} {pos : Pos}
def gName (i : Nat) : TG := fun v σ H Q => Q (σ.set i (some v)) H
theorem pg_name {i : Nat} {x : Str} (hN : X.N.Nodup) (hi : X.N[i]? = some x) (hx : Loc X.env.scope x) (hf : X.fn x = true ∨ X.env.scope.names.lookup x = some .local := by first | exact .inl rfl | exact .inr rfl | assumption) : PG X (.Name x pos) (gName i) := by
  intro pins s σ H v u Q I r h
  exact wpAny_assign_Name (store_ok I hN hi hx r (fun s' I' => ⟨_, H, I', h⟩) hf)
/-- target = value -/
def tAsg (te : TE) (g : TG) : TS := fun D σ H => te σ H fun x H1 => g x σ H1 D.nx
/-- name = value -/
theorem ps_set {i : Nat} {x : Str} {e : Expr} {te : TE} {pos' : Pos} (hN : X.N.Nodup) (hi : X.N[i]? = some x) (hx : Loc X.env.scope x) (he : PE X e te) (hs : swapsWith e (some (.Name x pos')) pos.line X.env = pure false := by rfl) (hf : X.fn x = true ∨ X.env.scope.names.lookup x = some .local := by first | exact .inl rfl | exact .inr rfl | assumption) :
    PS X (.Assign [.Name x pos'] e pos) (tAsg te (gName i)) := by
  intro pins s σ H D I h
  refine wpAny_Assign_Name (thn (he pins s σ H _ I h) fun v s1 ⟨y, H1, I1, r1, q1⟩ => ?_) hs
  exact store_ok I1 hN hi hx r1 (fun s2 I2 => ⟨_, H1, I2, q1⟩) hf
end

/-! ### while -/
section
variable {X : Cx} {pos : Pos}
/-- the invariant W with its measure -/
def tWhile (c : TT) (tb : TS) : TS := fun D σ H => ∃ W : Nat → St → Hp → Prop, (∃ m, W m σ H) ∧ ∀ m σ H, W m σ H →
  c σ H fun b H1 => if b = true then ∃ N : St → Hp → Prop, (∀ σ' H', N σ' H' → ∃ m', m' < m ∧ W m' σ' H') ∧ tb { D with nx := N, ct := N, bk := D.nx } σ H1 else D.nx σ H1
theorem ps_while {c : Expr} {body : List Stmt} {tc : TT} {tb : TS} (hp : PassesOwn (model X.prog X.w) X.A X.env X.xe) (hc : PT X c tc) (hb : PSs X body tb) : PS X (.While c body [] pos) (tWhile tc tb) := by
  intro pins s σ H D I h
  obtain ⟨W, ⟨m0, w0⟩, turn⟩ := h
  refine wpAny_While (codeAny_whileLoop (fun n s' => ∃ σ' H', Inv X pins σ' H' s' ∧ W n σ' H') ?_ m0 ⟨σ, H, I, w0⟩)
  rintro n s1 ⟨σ1, H1, I1, w1⟩
  refine wpAny_passesOwn hp (thn (hc pins s1 σ1 H1 _ I1 (turn n σ1 H1 w1)) fun b s2 ⟨H2, I2, q2⟩ => ?_)
  cases b with
  | true =>
    obtain ⟨N, hN, q2⟩ := q2
    rw [if_pos rfl]
    refine wpAny_passesOwn hp (thn (hb pins s2 σ1 H2 _ I2 q2) fun f s3 q3 => ?_)
    cases f with
    | next =>
      obtain ⟨σ3, H3, I3, n3⟩ := q3
      obtain ⟨m', hm, w3⟩ := hN σ3 H3 n3
      exact ⟨m', hm, σ3, H3, I3, w3⟩
    | cont =>
      obtain ⟨σ3, H3, I3, n3⟩ := q3
      obtain ⟨m', hm, w3⟩ := hN σ3 H3 n3
      exact ⟨m', hm, σ3, H3, I3, w3⟩
    | brk => exact q3
    | ret v => exact q3
  | false =>
    rw [if_neg Bool.false_ne_true]
    exact wpAny_execs_nil ⟨σ1, H2, I2, q2⟩
end

/-! ### what a loop or a comprehension walks -/
/-- at turn i: it yields x (the heap may grow), or it stops -/
structure It where
  go : Nat → Hp → Prop
  yld : Nat → Hp → V → Hp → Prop
  stop : Nat → Hp → Prop
/-- the iterator's own objects may turn: they are not the frame's, not pinned, younger than the entry (or a comprehension's own) -/
def FpOk (X : Cx) (pins : List (Addr × Obj)) (H : Hp) (b : Addr) : Prop :=
  H b = none ∧ b ≠ X.env.locals ∧ b ∉ X.fs ∧ (b ∈ X.ex ∨ X.s_0.heap.objs.size ≤ b) ∧ (∀ x c, X.env.cells.lookup x = some c → c ≠ b) ∧ ∀ p ∈ X.pn ++ pins, p.1 ≠ b
theorem Inv.fpOk {X : Cx} {pins : List (Addr × Obj)} {σ : St} {H H' : Hp} {s : Shared} {b : Addr} (I : Inv X pins σ H s) (hb : s.heap.objs.size ≤ b) (hn : H' b = none) : FpOk X pins H' b := by
  refine ⟨hn, Nat.ne_of_gt (Nat.lt_of_lt_of_le I.lt hb), I.nofs hb, .inr (Nat.le_trans I.sz hb), fun x c e z => ?_, fun p hp z => ?_⟩
  · obtain ⟨v, q⟩ := I.cell x c e
    exact absurd (Nat.lt_of_lt_of_le q.lt (by rw [z]; exact hb)) (Nat.lt_irrefl _)
  · exact absurd (Nat.lt_of_lt_of_le (Heap.lt_size (I.pin p hp).1) (by rw [z]; exact hb)) (Nat.lt_irrefl _)
structure Turn (P : Program) (w : World) (K : PySem.W.Frag) (tg : Expr) (J : It) (fp : List Addr) (it : Addr) (tn : Nat → Heap → Prop) : Prop where
  mem : it ∈ fp
  obj : ∀ i h, tn i h → ∀ b ∈ fp, ∃ o, h.get? b = some o ∧ ∀ v, o.data ≠ .cell v
  keep : ∀ i h h', tn i h → (∀ b ∈ fp, ∀ o, h.get? b = some o → h'.get? b = some o) → tn i h'
  item : ∀ (X : Cx), X.prog = P → X.w = w → X.K = K → X.calm = true → ∀ (i : Nat) (pins : List (Addr × Obj)) (s : Shared) (σ : St) (H : Hp) (E : Value → Shared → Prop), Inv X pins σ H s → (∀ b ∈ fp, FpOk X pins H b) → tn i s.heap → J.go i H →
    wpAny (model P w) X.A (pyNext (.ref it)) (fun r s1 => ∃ u, r = some u ∧
      wpAny (model P w) X.A (letOwnedTupleGo tg (.ref it) u) (fun _ s2 => ∃ x H', Inv X pins σ H' s2 ∧ RelV x u ∧ J.yld i H x H' ∧ tn (i + 1) s2.heap ∧ ∀ b ∈ fp, H' b = none) E s1) E s
  done : ∀ (X : Cx), X.prog = P → X.w = w → X.K = K → X.calm = true → ∀ (i : Nat) (pins : List (Addr × Obj)) (s : Shared) (σ : St) (H : Hp) (E : Value → Shared → Prop), Inv X pins σ H s → (∀ b ∈ fp, FpOk X pins H b) → tn i s.heap → J.stop i H →
    wpAny (model P w) X.A (pyNext (.ref it)) (fun r s1 => r = none ∧ Inv X pins σ H s1) E s
  self : ∀ (A : Around) (i : Nat) (s : Shared) (Q : Value → Shared → Prop) (E : Value → Shared → Prop), tn i s.heap → Q (.ref it) s → wpAny (model P w) A (pyIter (.ref it)) Q E s
abbrev TI := St → Hp → (It → Hp → Prop) → Prop
/-- an iterator has come -/
def PIE (X : Cx) (pins : List (Addr × Obj)) (σ : St) (tg : Expr) (R : It → Hp → Prop) (itv : Value) (s2 : Shared) : Prop :=
  ∃ (it : Addr) (fp : List Addr) (tn : Nat → Heap → Prop) (J : It) (H' : Hp), itv = .ref it ∧ Inv X pins σ H' s2 ∧ Turn X.prog X.w X.K tg J fp it tn ∧ tn 0 s2.heap ∧ (∀ b ∈ fp, FpOk X pins H' b) ∧ R J H'
def PI (X : Cx) (tg iter : Expr) (wi : TI) : Prop :=
  ∀ (pins : List (Addr × Obj)) (s : Shared) (σ : St) (H : Hp) (R : It → Hp → Prop), Inv X pins σ H s → wi σ H R →
    wpAny (model X.prog X.w) X.A (eval iter X.env) (fun v s1 => wpAny (model X.prog X.w) X.A (pyIter v) (PIE X pins σ tg R) X.xe s1) X.xe s

/-- the step ahead of the store is nothing for an iterator that keeps no tuple -/
theorem go_of {M : Model} {A : Around} {E : Value → Shared → Prop} {s : Shared} {tg : Expr} {it : Addr} {u : Value} {o : Obj} {n : String} {vs : Array Value} {Q : Unit → Shared → Prop} (ho : s.heap.get? it = some o) (hc : o.cls = .type n) (hd : o.data = .fields vs)
    (hn : ["enumerate", "zip", "dict_itemiterator", "dict_reverseitemiterator", "odict_iterator", "itertools.zip_longest", "itertools.pairwise"].contains n = false) (hQ : Q () s) : wpAny M A (letOwnedTupleGo tg (.ref it) u) Q E s := by
  unfold letOwnedTupleGo
  cases tg <;> first
    | exact wpAny_pure hQ
    | (cases u <;> first
        | exact wpAny_pure hQ
        | (refine wpAny_bind (wpAny_load ho ?_)
           rw [hc, hd]
           show wpAny M A (if (["enumerate", "zip", "dict_itemiterator", "dict_reverseitemiterator", "odict_iterator", "itertools.zip_longest", "itertools.pairwise"].contains n && vs[0]? == some (rawInt _)) = true then _ else _) Q E s
           rw [if_neg (by intro h; rw [hn, Bool.false_and] at h; cases h)]
           exact wpAny_pure hQ))

/-- the list at a, as it stands at each turn (a loop may append to it) -/
def Itl (K : PySem.W.Frag) (a : Addr) : It :=
  ⟨fun i H => ∃ xs x, SqL K H a xs ∧ xs[i]? = some x, fun i H x H' => H' = H ∧ ∀ xs, SqL K H a xs → xs[i]? = some x, fun i H => ∃ xs, SqL K H a xs ∧ xs.length ≤ i⟩
/-- lo, lo + 1, .. (n of them) -/
def Itr (lo : Int) (n : Nat) : It := ⟨fun i _ => i < n, fun i H x H' => H' = H ∧ x = .int (lo + i), fun i _ => n ≤ i⟩
theorem turn_list {P : Program} {w : World} {K : PySem.W.Frag} {tg : Expr} (a it : Addr) : Turn P w K tg (Itl K a) [it] it (fun i h => h.IsListIter it a i) where
  mem := by simp
  obj := fun i h st b hb => by
    have e : b = it := by simpa using hb
    subst e
    obtain ⟨o, e, c, d⟩ := st
    exact ⟨o, e, fun v z => by rw [d] at z; cases z⟩
  keep := fun i h h' st k => st.at fun o e => k it (by simp) o e
  item := by
    intro X hP hw hK hc i pins s σ H E I hf st hg
    subst hP hw hK
    obtain ⟨xs, x, hq, hx⟩ := hg
    obtain ⟨its, rv, p, hz⟩ := I.list hq
    obtain ⟨u, hu, ru⟩ := rv.get hx
    obtain ⟨f0, f1, f2, f3, f4, f5⟩ := hf it (by simp)
    refine wpAny_pyNext_list_item st p.isList (x := u) (by simpa using hu) fun h' st' sb => ?_
    have I1 : Inv X pins σ H { s with heap := h' } := I.turned (t' := s.toks) (fun b o hb e => (sb.2 b hb).trans e) f0 f1 f3 f4 f5
    obtain ⟨o, e, c, d⟩ := id st'
    exact ⟨u, rfl, go_of (s := { s with heap := h' }) e c d (by decide) ⟨x, H, I1, ru, ⟨rfl, fun ys hy => by rw [I.list_inj hy hq]; exact hx⟩, st', fun b hb => (hf b hb).1⟩⟩
  done := by
    intro X hP hw hK hc i pins s σ H E I hf st hg
    subst hP hw hK
    obtain ⟨xs, hq, hx⟩ := hg
    obtain ⟨its, rv, p, hz⟩ := I.list hq
    obtain ⟨f0, f1, f2, f3, f4, f5⟩ := hf it (by simp)
    have hl := rv.length
    exact wpAny_pyNext_list_end (I.ok.hd hc) st p.isList (by simp; omega) fun h' eb => ⟨rfl, I.turned (t' := s.toks) (fun b o hb e => eb b o hb e) f0 f1 f3 f4 f5⟩
  self := fun _ _ _ _ _ st h => wpAny_pyIter_listiter st h
theorem turn_range {P : Program} {w : World} {K : PySem.W.Frag} {tg : Expr} (it : Addr) (lo : Int) (n : Nat) : Turn P w K tg (Itr lo n) [it] it (fun i h => IsRangeIter h it (lo + (i : Nat) * 1) ((n : Int) - (i : Nat)) 1) where
  mem := by simp
  obj := fun i h st b hb => by
    have e : b = it := by simpa using hb
    subst e
    exact ⟨_, st, fun v z => by
      have z' : Data.fields _ = Data.cell v := z
      cases z'⟩
  keep := fun i h h' st k => k it (by simp) _ st
  item := by
    intro X hP hw hK hc i pins s σ H E I hf st hg
    subst hP hw hK
    obtain ⟨f0, f1, f2, f3, f4, f5⟩ := hf it (by simp)
    have W := Walks.range (prog := X.prog) (w := X.w) (I.ok.hd hc) it lo 1 n
    refine W.item i s _ _ hg st fun v h' tk hv st' kk => ?_
    obtain ⟨t, rfl⟩ := hv
    have I1 : Inv X pins σ H { s with heap := h', toks := tk } := I.turned (fun b o hb e => kk b o (by simpa using hb) e) f0 f1 f3 f4 f5
    refine ⟨_, rfl, go_of (s := { s with heap := h', toks := tk }) (n := "range_iterator") st' rfl rfl (by decide) ⟨.int (lo + i), H, I1, ⟨t, ?_⟩, ⟨rfl, rfl⟩, st', fun b hb => (hf b hb).1⟩⟩
    rw [Int.mul_one]
  done := by
    intro X hP hw hK hc i pins s σ H E I hf st hg
    subst hP hw hK
    obtain ⟨f0, f1, f2, f3, f4, f5⟩ := hf it (by simp)
    exact wpAny_pyNext_range_end (I.ok.hd hc) st (by have : n ≤ i := hg; omega) fun h' eb => ⟨rfl, I.turned (t' := s.toks) (fun b o hb e => eb b o hb e) f0 f1 f3 f4 f5⟩
  self := fun _ _ _ _ _ st h => wpAny_pyIter_rangeiter st h
end L2

namespace L2
open PySem PySem.Spec PyProof.Rows
section
variable {X : Cx} {tg : Expr}
def iList (K : PySem.W.Frag) (tl : TE) : TI := fun σ H R => tl σ H fun x H1 => ∃ a, x = .ref a ∧ (∃ xs, SqL K H1 a xs) ∧ R (Itl K a) H1
theorem pi_list {l : Expr} {tl : TE} (hl : PE X l tl) : PI X tg l (iList X.K tl) := by
  intro pins s σ H R I h
  refine thn (hl pins s σ H _ I h) fun v s1 ⟨x, H1, I1, r1, q1⟩ => ?_
  obtain ⟨a, e, ⟨xs, hq⟩, q⟩ := q1
  subst e
  cases r1
  obtain ⟨its, rv, p, hz⟩ := I1.list hq
  refine wpAny_pyIter_list p.isList ?_
  refine ⟨s1.heap.objs.size, [s1.heap.objs.size], _, _, H1, rfl, I1.kept (t' := s1.toks) fun b o e => Heap.get?_push_of_some _ e, turn_list a _, ⟨_, Heap.get?_push_size _ rfl, rfl, rfl⟩, fun b hb => ?_, q⟩
  have e : b = s1.heap.objs.size := by simpa using hb
  subst e
  exact I1.fpOk (Nat.le_refl _) (I1.hok.fresh (Nat.le_refl _))
/-- a range object just made, walked -/
theorem range_it {pins : List (Addr × Obj)} {σ : St} {H : Hp} {s : Shared} {R : It → Hp → Prop} {E : Value → Shared → Prop} {lo hi : Int} {t u v : Tok} {tk : Nat} (I : Inv X pins σ H s) (h1 : -(2 ^ 62) ≤ lo) (h2 : lo < 2 ^ 62) (h3 : -(2 ^ 62) ≤ hi) (h4 : hi < 2 ^ 62)
    (q : R (Itr lo (hi - lo).toNat) H) : wpAny (model X.prog X.w) X.A (pyIter (.ref s.heap.objs.size)) (PIE X pins σ tg R) E { s with heap := s.heap.push { cls := .type "range", data := .fields #[.int lo t, .int hi u, .int 1 v] }, toks := tk } := by
  refine wpAny_pyIter_range (IsRange.new ..) (small_one h1 h2 h3 h4) ?_
  have I1 : Inv X pins σ H { s with heap := s.heap.push { cls := .type "range", data := .fields #[.int lo t, .int hi u, .int 1 v] }, toks := tk } := I.kept fun b o e => Heap.get?_push_of_some _ e
  refine ⟨(s.heap.push { cls := .type "range", data := .fields #[.int lo t, .int hi u, .int 1 v] }).objs.size, [(s.heap.push { cls := .type "range", data := .fields #[.int lo t, .int hi u, .int 1 v] }).objs.size], _, _, H, rfl,
    I1.kept (t' := tk) fun b o e => Heap.get?_push_of_some _ e, turn_range _ lo (hi - lo).toNat, ?_, fun b hb => ?_, q⟩
  · have e1 : lo + ((0 : Nat) : Int) * 1 = lo := by simp
    have e2 : (((hi - lo).toNat : Nat) : Int) - ((0 : Nat) : Int) = Builtin.Range.rangeSize lo hi 1 := by rw [rangeSize_one]; split <;> omega
    show IsRangeIter _ _ (lo + ((0 : Nat) : Int) * 1) ((((hi - lo).toNat : Nat) : Int) - ((0 : Nat) : Int)) 1
    rw [e1, e2]
    exact Heap.get?_push_size _ rfl
  · have e : b = (s.heap.push { cls := .type "range", data := .fields #[.int lo t, .int hi u, .int 1 v] }).objs.size := by simpa using hb
    subst e
    exact I1.fpOk (Nat.le_refl _) (I1.hok.fresh (Nat.le_refl _))
def iRng1 (ta : TA) : TI := fun σ H R => ta σ H fun vs H1 => ∃ j : Int, vs = [.int j] ∧ -(2 ^ 62) ≤ j ∧ j < 2 ^ 62 ∧ R (Itr 0 j.toNat) H1
def iRng2 (ta : TA) : TI := fun σ H R => ta σ H fun vs H1 => ∃ i j : Int, vs = [.int i, .int j] ∧ (-(2 ^ 62) ≤ i ∧ i < 2 ^ 62 ∧ -(2 ^ 62) ≤ j ∧ j < 2 ^ 62) ∧ R (Itr i (j - i).toNat) H1
theorem pi_range1 {a : Expr} {ta : TA} {p pos : Pos} (hg : Gl X "range") (hm : X.mg "range" = none) (ha : PA X [a] ta) (hs : starEach [a] X.env = [(false, eval a X.env)] := by rfl) : PI X tg (.Call (.Name "range" p) [a] [] pos) (iRng1 ta) := by
  intro pins s σ H R I h
  refine Call_ (ld_blt I hg hm boot_range (PyProof.Rows.callWith_type1 (thn (ha pos pins s σ H _ I h) fun us s1 ⟨vs, H1, I1, r1, q1⟩ => ?_) hs rfl))
  obtain ⟨j, e, q1, q2, q⟩ := q1
  subst e
  cases r1 with
  | cons r rr =>
    cases rr
    obtain ⟨t, rfl⟩ := r
    exact call_range_1 (range_it I1 (by omega) (by omega) q1 q2 (by simpa using q))
theorem pi_range2 {a b : Expr} {ta : TA} {p pos : Pos} (hg : Gl X "range") (hm : X.mg "range" = none) (ha : PA X [a, b] ta) (hs : starEach [a, b] X.env = [(false, eval a X.env), (false, eval b X.env)] := by rfl) (hs2 : starEach [b] X.env = [(false, eval b X.env)] := by rfl) :
    PI X tg (.Call (.Name "range" p) [a, b] [] pos) (iRng2 ta) := by
  intro pins s σ H R I h
  refine Call_ (ld_blt I hg hm boot_range (PyProof.Rows.callWith_type1 (thn (ha pos pins s σ H _ I h) fun us s1 ⟨vs, H1, I1, r1, q1⟩ => ?_) (by rw [hs, hs2]) (by rw [hs2]; rfl)))
  obtain ⟨i, j, e, ⟨q1, q2, q3, q4⟩, q⟩ := q1
  subst e
  cases r1 with
  | cons r rr =>
    cases rr with
    | cons r' rr =>
      cases rr
      obtain ⟨t, rfl⟩ := r
      obtain ⟨t', rfl⟩ := r'
      exact call_range_2 (range_it I1 q1 q2 q3 q4 q)

/-! ### for -/
/-- W: the invariant by the turn and a measure; N: what the body is to reach -/
def tFor (wi : TI) (g : TG) (tb : TS) : TS := fun D σ H => wi σ H fun J H1 => ∃ W : Nat → Nat → St → Hp → Prop, (∃ m, W 0 m σ H1) ∧ ∀ i m σ H, W i m σ H →
  (J.stop i H ∧ D.nx σ H) ∨ (J.go i H ∧ ∃ N : St → Hp → Prop, (∀ σ' H', N σ' H' → ∃ m', m' < m ∧ W (i + 1) m' σ' H') ∧ ∀ x H', J.yld i H x H' → g x σ H' fun σ2 H2 => tb { D with nx := N, ct := N, bk := D.nx } σ2 H2)
/-- the records at fp as they stand -/
def pinsAt (fp : List Addr) (h : Heap) : List (Addr × Obj) := fp.filterMap fun b => (h.get? b).map fun o => (b, o)
theorem mem_pinsAt {fp : List Addr} {h : Heap} {b : Addr} {o : Obj} (hb : b ∈ fp) (e : h.get? b = some o) : (b, o) ∈ pinsAt fp h := List.mem_filterMap.mpr ⟨b, hb, by rw [e]; rfl⟩
theorem of_pinsAt {fp : List Addr} {h : Heap} {p : Addr × Obj} (hp : p ∈ pinsAt fp h) : p.1 ∈ fp ∧ h.get? p.1 = some p.2 := by
  obtain ⟨b, hb, e⟩ := List.mem_filterMap.mp hp
  cases q : h.get? b with
  | none => rw [q] at e; cases e
  | some o =>
    rw [q] at e
    have e' : (b, o) = p := Option.some.inj e
    subst e'
    exact ⟨hb, q⟩
theorem Inv.pinned {pins : List (Addr × Obj)} {σ : St} {H : Hp} {s : Shared} {fp : List Addr} (I : Inv X pins σ H s) (hf : ∀ b ∈ fp, FpOk X pins H b) (ho : ∀ b ∈ fp, ∃ o, s.heap.get? b = some o ∧ ∀ v, o.data ≠ .cell v) : Inv X (pins ++ pinsAt fp s.heap) σ H s :=
  I.pins_of fun p hp => (List.mem_append.mp hp).elim (fun z => I.pin p (List.mem_append_right _ z)) fun z => by
    obtain ⟨hb, e⟩ := of_pinsAt z
    obtain ⟨f0, f1, f2, _⟩ := hf p.1 hb
    obtain ⟨o, e', d⟩ := ho p.1 hb
    rw [e] at e'; cases e'
    exact ⟨e, f0, f1, f2, d⟩
theorem Inv.unpinned {pins pl : List (Addr × Obj)} {σ : St} {H : Hp} {s : Shared} (I : Inv X (pins ++ pl) σ H s) : Inv X pins σ H s := I.pins_of fun p hp => I.pin p (List.mem_append_right _ (List.mem_append_left _ hp))
theorem ps_for {iter : Expr} {body : List Stmt} {wi : TI} {g : TG} {tb : TS} {pos : Pos} (hp : PassesOwn (model X.prog X.w) X.A X.env X.xe) (hc : X.calm = true) (hi : PI X tg iter wi) (hg : PG X tg g) (hb : PSs X body tb)
    (hs : ∀ x, foldedSetIterable iter X.env x = pure x := by intro _; rfl) : PS X (.For tg iter body [] pos) (tFor wi g tb) := by
  intro pins s σ H D I h
  refine wpAny_For (thn (hi pins s σ H _ I h) fun v s1 h1 => thn h1 fun itv s2 h2 => ?_) hs
  obtain ⟨it, fp, tn, J, H2, e, I2, T, st2, f2, W, ⟨m0, w0⟩, turn⟩ := h2
  subst e
  -- what stays true of the iterator's objects through the loop
  have stat : ∀ {H' : Hp}, (∀ b ∈ fp, H' b = none) → ∀ b ∈ fp, FpOk X pins H' b := fun hn b hb => ⟨hn b hb, (f2 b hb).2⟩
  refine codeAny_forLoop_any (fun n s' => ∃ i σ' H', Inv X pins σ' H' s' ∧ tn i s'.heap ∧ (∀ b ∈ fp, H' b = none) ∧ W i n σ' H') ?_ m0 ⟨0, σ, H2, I2, st2, fun b hb => (f2 b hb).1, w0⟩
  rintro n s3 ⟨i, σ3, H3, I3, st3, fr3, w3⟩
  rcases turn i n σ3 H3 w3 with ⟨stop, qn⟩ | ⟨go, N, hN, step⟩
  · refine wpAny_passesOwn hp (thn (T.done X rfl rfl rfl hc i pins s3 σ3 H3 X.xe I3 (stat fr3) st3 stop) fun r s4 ⟨hr, I4⟩ => ?_)
    subst hr
    exact wpAny_execs_nil ⟨σ3, H3, I4, qn⟩
  · refine wpAny_passesOwn hp (thn (T.item X rfl rfl rfl hc i pins s3 σ3 H3 X.xe I3 (stat fr3) st3 go) fun r s4 ⟨u, hr, h4⟩ => ?_)
    subst hr
    refine wpAny_passesOwn hp (thn h4 fun _ s5 ⟨x, H5, I5, r5, y5, st5, fr5⟩ => ?_)
    have I5' := I5.pinned (stat fr5) (T.obj _ _ st5)
    refine wpAny_passesOwn hp (thn (hg _ s5 σ3 H5 x u _ I5' r5 (step x H5 y5)) fun _ s6 ⟨σ6, H6, I6, q6⟩ => ?_)
    refine wpAny_passesOwn hp (thn (hb _ s6 σ6 H6 _ I6 q6) fun f s7 q7 => ?_)
    have again : ∀ {σ7 : St} {H7 : Hp}, Inv X (pins ++ pinsAt fp s5.heap) σ7 H7 s7 → N σ7 H7 → ∃ m, m < n ∧ ∃ i σ' H', Inv X pins σ' H' s7 ∧ tn i s7.heap ∧ (∀ b ∈ fp, H' b = none) ∧ W i m σ' H' := fun {σ7 H7} I7 n7 => by
      obtain ⟨m', hm, w7⟩ := hN σ7 H7 n7
      refine ⟨m', hm, i + 1, σ7, H7, I7.unpinned, T.keep _ _ _ st5 fun b hb o e => (I7.pin (b, o) (List.mem_append_right _ (List.mem_append_right _ (mem_pinsAt hb e)))).1, fun b hb => ?_, w7⟩
      obtain ⟨o, e, d⟩ := T.obj _ _ st5 b hb
      exact (I7.pin (b, o) (List.mem_append_right _ (List.mem_append_right _ (mem_pinsAt hb e)))).2.1
    cases f with
    | next => obtain ⟨σ7, H7, I7, n7⟩ := q7; exact again I7 n7
    | cont => obtain ⟨σ7, H7, I7, n7⟩ := q7; exact again I7 n7
    | brk => obtain ⟨σ7, H7, I7, q7⟩ := q7; exact ⟨σ7, H7, I7.unpinned, q7⟩
    | ret v => obtain ⟨x7, σ7, H7, I7, r7, q7⟩ := q7; exact ⟨x7, σ7, H7, I7.unpinned, r7, q7⟩
end

/-! ### the forms one uses -/
/-- over a list that the body leaves as it is -/
theorem for_list {K : PySem.W.Frag} {a : Addr} {xs : List V} {g : TG} {tb : TS} {D : Ends} {σ : St} {H : Hp} (Pv : Nat → St → Hp → Prop) (h0 : Pv 0 σ H) (hl : ∀ i σ H, i ≤ xs.length → Pv i σ H → SqL K H a xs)
    (hs : ∀ i x σ H, xs[i]? = some x → Pv i σ H → g x σ H fun σ2 H2 => tb { D with nx := Pv (i + 1), ct := Pv (i + 1), bk := D.nx } σ2 H2) (hd : ∀ σ H, Pv xs.length σ H → D.nx σ H) :
    ∃ W : Nat → Nat → St → Hp → Prop, (∃ m, W 0 m σ H) ∧ ∀ i m σ H, W i m σ H →
      ((Itl K a).stop i H ∧ D.nx σ H) ∨ ((Itl K a).go i H ∧ ∃ N : St → Hp → Prop, (∀ σ' H', N σ' H' → ∃ m', m' < m ∧ W (i + 1) m' σ' H') ∧ ∀ x H', (Itl K a).yld i H x H' → g x σ H' fun σ2 H2 => tb { D with nx := N, ct := N, bk := D.nx } σ2 H2) := by
  refine ⟨fun i m σ H => m = xs.length - i ∧ i ≤ xs.length ∧ Pv i σ H, ⟨xs.length, by simp, Nat.zero_le _, h0⟩, ?_⟩
  rintro i m σ H ⟨rfl, hi, p⟩
  have q := hl i σ H hi p
  by_cases hlt : i < xs.length
  · refine .inr ⟨⟨xs, xs[i], q, by simp [hlt]⟩, Pv (i + 1), fun σ' H' p' => ⟨xs.length - (i + 1), by omega, rfl, hlt, p'⟩, fun x H' y => ?_⟩
    obtain ⟨e, y⟩ := y
    subst e
    exact hs i x σ _ (y xs q) p
  · have e : i = xs.length := by omega
    subst e
    exact .inl ⟨⟨xs, q, Nat.le_refl _⟩, hd σ H p⟩
end L2

namespace L2
open PySem PySem.Spec PyProof.Rows

abbrev R2 := V → V → Hp → VK → Prop
/-- a two-place operation on values: f is binaryOp op, inplaceOp op or compareOp op -/
def OpR (X : Cx) (f : Value → Value → Sem Value) (r : R2) : Prop :=
  ∀ (pins : List (Addr × Obj)) (s : Shared) (σ : St) (H : Hp) (x y : V) (v u : Value) (Q : VK), Inv X pins σ H s → RelV x v → RelV y u → r x y H Q →
    wpAny (model X.prog X.w) X.A (f v u) (EP X pins σ Q) X.xe s
/-- a call of a value that is known (a builtin, a type) with values -/
def CallR (X : Cx) (f : Value) (r : List V → Hp → VK → Prop) : Prop :=
  ∀ (pins : List (Addr × Obj)) (s : Shared) (σ : St) (H : Hp) (xs : List V) (us : List Value) (Q : VK), Inv X pins σ H s → Vals xs us → r xs H Q →
    wpAny (model X.prog X.w) X.A (call f us) (EP X pins σ Q) X.xe s
def tOp (r : R2) (ta tb : TE) : TE := fun σ H Q => ta σ H fun x H1 => tb σ H1 fun y H2 => r x y H2 Q
def rI0 (g : Int → Int → V) : R2 := fun x y H Q => ∃ i j, x = .int i ∧ y = .int j ∧ Q (g i j) H
section
variable {X : Cx} {a b c : Expr} {ta tb tc : TE} {pos : Pos}

theorem binT (ha : PE X a ta) (hb : PE X b tb) {pins : List (Addr × Obj)} {s : Shared} {σ : St} {H : Hp} {R : V → V → Hp → Prop} (I : Inv X pins σ H s)
    (h : ta σ H fun x H1 => tb σ H1 fun y H2 => R x y H2) {Q : Value → Shared → Prop} {f : Value → Value → Sem Value}
    (hf : ∀ v u s2 x y H2, Inv X pins σ H2 s2 → RelV x v → RelV y u → R x y H2 → wpAny (model X.prog X.w) X.A (f v u) Q X.xe s2) :
    wpAny (model X.prog X.w) X.A (eval a X.env) (fun v s₁ => wpAny (model X.prog X.w) X.A (eval b X.env) (fun u s₂ => wpAny (model X.prog X.w) X.A (f v u) Q X.xe s₂) X.xe s₁) X.xe s := by
  refine thn (ha pins s σ H _ I h) fun v s1 ⟨x, H1, I1, r1, q1⟩ => ?_
  refine thn (hb pins s1 σ H1 _ I1 q1) fun u s2 ⟨y, H2, I2, r2, q2⟩ => ?_
  exact hf v u s2 x y H2 I2 r1 r2 q2

theorem pe_op {op : Operator} {r : R2} (ho : OpR X (binaryOp op) r) (ha : PE X a ta) (hb : PE X b tb) : PE X (.BinOp a op b pos) (tOp r ta tb) := by
  intro pins s σ H Q I h
  exact wpAny_BinOp (binT ha hb I h fun v u s2 x y H2 I2 rx ry q => ho pins s2 σ H2 x y v u Q I2 rx ry q)
/-! ### ints -/
theorem opI0 {f : Value → Value → Sem Value} {g : Int → Int → Int}
    (rule : ∀ (i j : Int) (t u : Tok) (s : Shared) (Q : Value → Shared → Prop) (E : Value → Shared → Prop), Q (.int (g i j) s.toks) { s with toks := s.toks + 1 } → wpAny (model X.prog X.w) X.A (f (.int i t) (.int j u)) Q E s) :
    OpR X f (rI0 fun i j => .int (g i j)) := by
  intro pins s σ H x y v u Q I rx ry h
  obtain ⟨i, j, rfl, rfl, q⟩ := h
  obtain ⟨t, rfl⟩ := rx
  obtain ⟨t', rfl⟩ := ry
  exact rule i j t t' s _ _ ⟨.int (g i j), H, I.tok _, ⟨_, rfl⟩, q⟩
theorem opB0 {f : Value → Value → Sem Value} {g : Int → Int → Bool}
    (rule : ∀ (i j : Int) (t u : Tok) (s : Shared) (Q : Value → Shared → Prop) (E : Value → Shared → Prop), Q (.bool (g i j)) s → wpAny (model X.prog X.w) X.A (f (.int i t) (.int j u)) Q E s) :
    OpR X f (rI0 fun i j => .bl (g i j)) := by
  intro pins s σ H x y v u Q I rx ry h
  obtain ⟨i, j, rfl, rfl, q⟩ := h
  obtain ⟨t, rfl⟩ := rx
  obtain ⟨t', rfl⟩ := ry
  exact rule i j t t' s _ _ ⟨.bl (g i j), H, I, rfl, q⟩

theorem op_add : OpR X (binaryOp .Add) (rI0 fun i j => .int (i + j)) := opI0 fun _ _ _ _ _ _ _ q => add_int q
theorem op_sub : OpR X (binaryOp .Sub) (rI0 fun i j => .int (i - j)) := opI0 fun _ _ _ _ _ _ _ q => sub_int q
/-! ### bools among ints: n += (a < b) -/
end

/-! ### comparisons -/
/-- the scalars that == tells apart as data does -/
def scal : V → V → Bool
  | .non, .non => true | .non, .int _ => true | .int _, .non => true | .non, .bl _ => true | .bl _, .non => true | .non, .str _ => true | .str _, .non => true
  | .int _, .int _ => true | .bl _, .bl _ => true | .str _, .str _ => true | .byt _, .byt _ => true
  | .int _, .str _ => true | .str _, .int _ => true | .bl _, .str _ => true | .str _, .bl _ => true
  | _, _ => false
def rEq : R2 := fun x y H Q => scal x y = true ∧ Q (.bl (decide (x = y))) H
theorem dec_int {i j : Int} : decide (V.int i = V.int j) = (i == j) := by
  rw [Bool.eq_iff_iff]
  simp
theorem dec_bl {i j : Bool} : decide (V.bl i = V.bl j) = (i == j) := by
  rw [Bool.eq_iff_iff]
  simp
theorem dec_str {i j : Str} : decide (V.str i = V.str j) = (i == j) := by
  rw [Bool.eq_iff_iff]
  simp
theorem dec_byt {i j : Array UInt8} : decide (V.byt i = V.byt j) = (i.toList == j.toList) := by
  rw [Bool.eq_iff_iff]
  cases i
  cases j
  simp

section
variable {X : Cx} {a b c : Expr} {ta tb tc : TE} {pos : Pos}
theorem fin_bl {pins : List (Addr × Obj)} {σ : St} {H : Hp} {s : Shared} {Q : VK} {k k' : Bool} (I : Inv X pins σ H s) (q : Q (.bl k) H) (e : k = k') : EP X pins σ Q (.bool k') s := by
  subst e
  exact ⟨.bl k, H, I, rfl, q⟩
theorem op_eq : OpR X (compareOp .Eq) rEq := by
  intro pins s σ H x y v u Q I rx ry h
  obtain ⟨hs, q⟩ := h
  cases x with
  | non =>
    cases rx
    cases y with
    | non => cases ry; exact PySem.EqNone.eq_none_none (fin_bl I q (by simp))
    | bl j => cases ry; exact PySem.EqNone.eq_none_bool (fin_bl I q (by simp))
    | int j => obtain ⟨t', rfl⟩ := ry; exact PySem.EqNone.eq_none_int (fin_bl I q (by simp))
    | str j => obtain ⟨t', rfl⟩ := ry; exact PySem.EqNone.eq_none_str (fin_bl I q (by simp))
    | _ => exact absurd (show false = true from hs) Bool.false_ne_true
  | bl i =>
    cases rx
    cases y with
    | non => cases ry; exact PySem.EqNone.eq_bool_none (fin_bl I q (by simp))
    | bl j => cases ry; exact eq_bool (fin_bl I q dec_bl)
    | str j => obtain ⟨t', rfl⟩ := ry; exact PySem.EqMixed.eq_bool_str (fin_bl I q (by simp))
    | _ => exact absurd (show false = true from hs) Bool.false_ne_true
  | int i =>
    obtain ⟨t, rfl⟩ := rx
    cases y with
    | non => cases ry; exact PySem.EqNone.eq_int_none (fin_bl I q (by simp))
    | int j => obtain ⟨t', rfl⟩ := ry; exact eq_int (fin_bl I q dec_int)
    | str j => obtain ⟨t', rfl⟩ := ry; exact PySem.EqMixed.eq_int_str (fin_bl I q (by simp))
    | _ => exact absurd (show false = true from hs) Bool.false_ne_true
  | str i =>
    obtain ⟨t, rfl⟩ := rx
    cases y with
    | non => cases ry; exact PySem.EqNone.eq_str_none (fin_bl I q (by simp))
    | bl j => cases ry; exact PySem.EqMixed.eq_str_bool (fin_bl I q (by simp))
    | int j => obtain ⟨t', rfl⟩ := ry; exact PySem.EqMixed.eq_str_int (fin_bl I q (by simp))
    | str j => obtain ⟨t', rfl⟩ := ry; exact eq_str (fin_bl I q dec_str)
    | _ => exact absurd (show false = true from hs) Bool.false_ne_true
  | byt i =>
    obtain ⟨t, rfl⟩ := rx
    cases y with
    | byt j => obtain ⟨t', rfl⟩ := ry; exact PySem.W.eq_bytes (fin_bl I q dec_byt)
    | _ => exact absurd (show false = true from hs) Bool.false_ne_true
  | _ => cases y <;> exact absurd (show false = true from hs) Bool.false_ne_true
theorem op_lt : OpR X (compareOp .Lt) (rI0 fun i j => .bl (decide (i < j))) := opB0 fun _ _ _ _ _ _ _ q => lt_int q
theorem op_gt : OpR X (compareOp .Gt) (rI0 fun i j => .bl (decide (j < i))) := opB0 fun _ _ _ _ _ _ _ q => gt_int q
theorem op_ge : OpR X (compareOp .GtE) (rI0 fun i j => .bl (decide (j ≤ i))) := opB0 fun _ _ _ _ _ _ _ q => ge_int q
theorem nomark (b : Expr) {op : CmpOp} (h : op ≠ .In := by decide) (h2 : op ≠ .NotIn := by decide) : behindInMarks op b = false := by
  have e1 : (op == CmpOp.In) = false := by cases op <;> first | rfl | exact absurd rfl h
  have e2 : (op == CmpOp.NotIn) = false := by cases op <;> first | rfl | exact absurd rfl h2
  cases b <;> simp [behindInMarks, e1, e2]
/-- a reading of a value as a test -/
def tTest (t : TE) : TT := fun σ H Q => t σ H fun x H' => ∃ k, x = .bl k ∧ Q k H'
theorem pt_cmpR {op : CmpOp} {r : R2} (ho : OpR X (compareOp op) r) (ha : PE X a ta) (hb : PE X b tb) (hm : behindInMarks op b = false) : PT X (.Compare a [op] [b] pos) (tTest (tOp r ta tb)) := by
  intro pins s σ H Q I h
  refine wpAny_isTrue_Compare1 (thn (ha pins s σ H _ I h) fun v s1 ⟨x, H1, I1, r1, q1⟩ => thn (hb pins s1 σ H1 _ I1 q1) fun u s2 ⟨y, H2, I2, r2, q2⟩ =>
    thn (ho pins s2 σ H2 x y v u _ I2 r1 r2 q2) fun c s3 ⟨z, H3, I3, r3, k, e, q3⟩ => ?_) hm
  subst e
  cases r3
  exact wpAny_truthy_bool ⟨H3, I3, q3⟩
/-! ### truth -/
theorem line63 : (sizeLine : Nat) < 2 ^ 63 := by rw [sizeLine_eq]; decide
/-! ### strs and bytes -/
/-! ### scalar builtins, by CallR -/
theorem vals1 {x : V} {us : List Value} (r : Vals [x] us) : ∃ u, us = [u] ∧ RelV x u := by
  cases r with
  | cons r1 r2 => cases r2; exact ⟨_, rfl, r1⟩
theorem vals2 {x y : V} {us : List Value} (r : Vals [x, y] us) : ∃ u w', us = [u, w'] ∧ RelV x u ∧ RelV y w' := by
  cases r with
  | cons r1 r2 =>
    cases r2 with
    | cons r3 r4 => cases r4; exact ⟨_, _, rfl, r1, r3⟩
theorem call_max2 (hc : X.calm = true) : CallR X (.builtin "max") (fun xs H Q => ∃ i j, xs = [.int i, .int j] ∧ Q (.int (if j > i then j else i)) H) := by
  intro pins s σ H xs us Q I r h
  obtain ⟨i, j, rfl, q⟩ := h
  obtain ⟨u, w', rfl, ⟨t, rfl⟩, ⟨t', rfl⟩⟩ := vals2 r
  refine max_two_ints (I.ok.hd hc) fun h' tk k => ⟨_, H, I.kept k, ?_, q⟩
  by_cases hj : j > i
  · rw [if_pos hj, if_pos hj]; exact ⟨_, rfl⟩
  · rw [if_neg hj, if_neg hj]; exact ⟨_, rfl⟩
end
end L2

namespace L2
open PySem PySem.Spec PyProof.Rows

/-! ### an instance, its attributes a map -/
section
variable {prog : Program} {w : World} {A : Around} {E : Value → Shared → Prop} {s : Shared} {K : PySem.W.Frag} {x dx C f : Addr} {mA : Str → Option Value} {name : Str} {v : Value}

end

/-! ### the attributes as a list of pairs -/
section
variable {P : Program} {w : World} {H H' : Hp} {h h' : Heap} {a C dx : Addr} {fs fs' : List (Str × V)}
end

/-! ### what of the text a class must have -/
section
variable {X : Cx} {pins : List (Addr × Obj)} {σ : St} {H : Hp} {s : Shared} {a C dx : Addr} {fs : List (Str × V)} {f : Str} {v : V} {A : Around} {E : Value → Shared → Prop}

end

/-! ### readings and rules -/
section
variable {X : Cx} {o e value : Expr} {f : Str} {pos pos' tpos : Pos} {ta tv : TE}
end

/-! ### isinstance -/
section
variable {X : Cx} {pins : List (Addr × Obj)} {σ : St} {H : Hp} {s : Shared} {A : Around} {E : Value → Shared → Prop} {Q : Value → Shared → Prop} {c : Value} {b : Bool}
end
end L2

namespace L2
open PySem PySem.Spec PyProof.Rows

/-! ### room -/
structure Room (k : Nat) (A : Around) : Prop where
  hd : A.handled = none
  dp : A.depth + 3 * k + 5 < recursionLimit
  un : A.units + 16 * k + 200 < cLine
theorem Room.mono {j k : Nat} {A : Around} (r : Room k A) (h : j ≤ k) : Room j A := ⟨r.hd, by have := r.dp; omega, by have := r.un; omega⟩
theorem Room.deeper {k : Nat} {A : Around} (r : Room (k + 1) A) (env : Env) : Room k (A.deeper env) :=
  ⟨r.hd, by have := r.dp; show A.depth + 1 + 3 * k + 5 < _; omega, by have := r.un; show A.units + 3 + 16 * k + 200 < _; omega⟩
theorem Room.depth {k : Nat} {A : Around} (r : Room k A) : A.depth < recursionLimit := by have := r.dp; omega
/-! ### argument lists and displays -/
def tNil : TA := fun _ H Q => Q [] H
def tCons (ta : TE) (tr : TA) : TA := fun σ H Q => ta σ H fun x H1 => tr σ H1 fun xs H2 => Q (x :: xs) H2
section
variable {X : Cx} {e : Expr} {es : List Expr} {te : TE} {t : TA} {pos : Pos}
theorem pa_nil : PA X [] tNil := fun _ _ _ _ H Q I h => Calls.spliced_nil ⟨[], H, I, .nil, h⟩
theorem pa_cons (ha : PE X e te) (hr : PA X es t) (hs : starEach (e :: es) X.env = (false, eval e X.env) :: starEach es X.env := by rfl) : PA X (e :: es) (tCons te t) := by
  intro pos pins s σ H Q I h
  rw [hs]
  show wpAny _ _ (spliced ((false, eval e X.env) :: backTo pos (starEach es X.env))) _ _ s
  refine Calls.spliced_cons (thn (ha pins s σ H _ I h) fun u s1 ⟨x, H1, I1, r1, q1⟩ => ?_)
  exact thn (hr pos pins s1 σ H1 _ I1 q1) fun us s2 ⟨xs, H2, I2, r2, q2⟩ => ⟨x :: xs, H2, I2, .cons r1 r2, q2⟩

def tLst (t : TA) : TE := fun σ H Q => t σ H fun xs H1 => xs.length ≤ sizeLine ∧ ∀ p, H1 p = none → Q (.ref p) (upd H1 p (.lst xs))
theorem pe_lst (h : PA X es t) : PE X (.List es pos) (tLst t) := by
  intro pins s σ H Q I hq
  refine wpAny_List_spliced (thn (h pos pins s σ H _ I hq) fun us s1 ⟨xs, H1, I1, r, z, q⟩ => ⟨by rw [← r.length]; exact z, ?_⟩)
  have hf : H1 s1.heap.objs.size = none := I1.hok.fresh (Nat.le_refl _)
  refine ⟨.ref s1.heap.objs.size, upd H1 s1.heap.objs.size (.lst xs), I1.laid (t' := s1.toks) (fun b u e => Heap.get?_push_of_some _ e) (Nat.le_refl _) ?_, rfl, q _ hf⟩
  exact ⟨z, us, 0, r, Heap.get?_push_size _ rfl⟩
end

/-! ### what a def promises -/
/-- a def's promise: the bound arguments in the parameters' order, the heap, the wanted end, the wanted exception -/
abbrev Sp := List V → Hp → VK → XK → Prop
/-- how an exception lies behind a call (file 08 gives it): the callers' frames, abstract heap and state ahead of the call, the wish, the exception, the state -/
abbrev CXT := List Env → Hp → Shared → XK → Value → Shared → Prop

/-- the state at a call -/
structure Env0 (P : Program) (w : World) (K : PySem.W.Frag) (mg : Str → Option Value) (base : Heap) (A : Around) (outer : List Env) (s : Shared) (H : Hp) : Prop where
  frames : A.frames = some outer
  mod : Mod K mg base
  bs : ∀ b o, base.get? b = some o → s.heap.get? b = some o ∧ H b = none
  bsz : base.objs.size ≤ s.heap.objs.size
  funs : s.heap.FunFrames base outer
  frf : ∀ b ∈ frs outer, H b = none
  hok : HOk P w H s.heap
  bare : AllBare s.gens
/-- a call's end -/
def CE (outer : List Env) (P : Program) (w : World) (H : Hp) (s : Shared) (Q : VK) (u : Value) (s' : Shared) : Prop :=
  ∃ v H', s'.os = s.os ∧ AllBare s'.gens ∧ Un (frs outer) [] H H' s.heap s'.heap ∧ HOk P w H' s'.heap ∧ RelV v u ∧ Q v H'
def CR (CX : CXT) (outer : List Env) (P : Program) (w : World) (H : Hp) (s : Shared) (Q : VK) (E : XK) (r : Result) (s' : Shared) : Prop :=
  match r with
  | .ok (.ret u) => CE outer P w H s Q u s'
  | .ok _ => False
  | .error e => CX outer H s E e s'
structure FnOk (P : Program) (w : World) (K : PySem.W.Frag) (mg : Str → Option Value) (base : Heap) (CX : CXT) (k : Nat) (f : Addr) (fd : FuncData) (ps : List Str) (sp : Sp) : Prop where
  len : ∀ vs H Q E, sp vs H Q E → vs.length = ps.length
  run : ∀ (A : Around) (outer : List Env) (s : Shared) (H : Hp) (args : Args) (us : List Value) (vs : List V) (Q : VK) (E : XK), Room k A → Env0 P w K mg base A outer s H → BindsTo s fd args (ps.zip us) → Vals vs us → sp vs H Q E →
    codeAny (model P w) A (.call (.ref f) args) (CR CX outer P w H s Q E) s
section
variable {X : Cx} {pins : List (Addr × Obj)} {σ : St} {H : Hp} {s s' : Shared}
/-- from a body: what a callee wants -/
theorem Inv.env0 (I : Inv X pins σ H s) : Env0 X.prog X.w X.K X.mg X.base X.A X.stack s H :=
  ⟨I.ok.frames, I.ok.mod, I.bs, Nat.le_trans I.ok.bsz I.sz, I.stack, I.stkFree, I.hok, I.bare⟩
/-- behind a call -/
theorem Inv.after {Q : VK} {u : Value} (I : Inv X pins σ H s) (h : CE X.stack X.prog X.w H s Q u s') : EP X pins σ Q u s' := by
  obtain ⟨v, H', os, bare, un, hok, r, q⟩ := h
  obtain ⟨hh, g, d, t, os'⟩ := s'
  obtain rfl : os' = s.os := os
  exact ⟨v, H', I.call (h' := hh) (g' := g) (d' := d) (t' := t) (ch := []) un hok bare (fun b z => absurd z (by simp)), r, q⟩
end

/-! ### calls -/
/-- f(..): the written arguments, then the defaults dvs; E: what is wanted of an exception -/
def tCall (sp : Sp) (dvs : List V) (E : XK) (t : TA) : TE := fun σ H Q => t σ H fun vs H1 => sp (vs ++ dvs) H1 Q E
/-- how the parameters are bound: us the positional arguments, kw the keywords' values by name, ds the defaults that fill up -/
def Binds (K : PySem.W.Frag) (fd : FuncData) (ps : List Str) (ds : List Value) : Prop :=
  ∀ (s : Shared) (us : List Value), K.In s.heap → (us ++ ds).length = ps.length → BindsTo s fd ⟨us, []⟩ (ps.zip (us ++ ds))
/-- every parameter is given -/
theorem Binds.all {K : PySem.W.Frag} {fd : FuncData} {ps : List Str} (h : ∀ us : List Value, us.length = ps.length → bindArgs fd ⟨us, []⟩ = pure (ps.zip us)) : Binds K fd ps [] := fun s us _ hl => by
  rw [List.append_nil] at hl ⊢
  exact .of_eq (h us hl)

/-- an exception of a callee reaches what this body wants of exceptions -/
def Passes (CX : CXT) (X : Cx) (E : XK) : Prop := ∀ (pins : List (Addr × Obj)) (σ : St) (H : Hp) (s : Shared) (e : Value) (s' : Shared), Inv X pins σ H s → CX X.stack H s E e s' → X.xe e s'

section
variable {X : Cx} {CX : CXT} {k : Nat} {f C : Addr} {fd : FuncData} {ps : List Str} {sp : Sp} {dvs : List V} {ds : List Value} {E : XK} {x m : Str} {p pos apos : Pos} {e o : Expr} {es : List Expr} {ta : TE} {t : TA}

/-- the callee runs -/
theorem run_fn {pins : List (Addr × Obj)} {σ : St} {H : Hp} {s : Shared} {Q : VK} {us : List Value} {vs : List V} (F : FnOk X.prog X.w X.K X.mg X.base CX k f fd ps sp) (hr : Room k X.A) (hb : Binds X.K fd ps ds) (hd : Vals dvs ds) (hx : Passes CX X E)
    (I : Inv X pins σ H s) (r : Vals vs us) (h : sp (vs ++ dvs) H Q E) : wpAny (model X.prog X.w) X.A (call (.ref f) us) (EP X pins σ Q) X.xe s := by
  have r2 : Vals (vs ++ dvs) (us ++ ds) := r.append hd
  have hl : (us ++ ds).length = ps.length := by rw [← r2.length]; exact F.len _ _ _ _ h
  refine wpAny_call (codeAny_mono (F.run X.A X.stack s H ⟨us, []⟩ (us ++ ds) (vs ++ dvs) Q E hr I.env0 (hb s us I.kIn hl) r2 h) fun r s' hq => ?_)
  cases r with
  | error e => exact hx pins σ H s e s' I hq
  | ok fl =>
    cases fl with
    | ret u => exact I.after hq
    | next => exact False.elim hq
    | brk => exact False.elim hq
    | cont => exact False.elim hq

theorem pe_call (F : FnOk X.prog X.w X.K X.mg X.base CX k f fd ps sp) (hr : Room k X.A) (hg : Gl X x) (hm : X.mg x = some (.ref f)) (hk : PySem.W.keepIn X.K (.ref f) = true) (hb : Binds X.K fd ps ds) (hd : Vals dvs ds) (hx : Passes CX X E)
    (ha : PA X (e :: es) t) (hdb : (x == ("__debug__" : Str)) = false := by decide) (he : starEach (e :: es) X.env = (false, eval e X.env) :: starEach es X.env := by rfl) (hpl : (backTo pos (starEach es X.env)).any (·.1) = false := by rfl) :
    PE X (.Call (.Name x p) (e :: es) [] pos) (tCall sp dvs E t) := by
  intro pins s σ H Q I h
  refine wpAny_Call_Name_kw (ld_glob I hg hm ?_ hdb)
  refine PySem.W.callWith_K (h₀ := X.base) I.ok.mod.kin hk (thn (ha pos pins s σ H _ I h) fun us s1 ⟨vs, H1, I1, r, q⟩ => ⟨I1.kIn, ?_⟩) he hpl
  exact run_fn F hr hb hd hx I1 r q
end

/-! ### keywords -/
section
variable {X : Cx} {CX : CXT} {k : Nat} {f C : Addr} {fd : FuncData} {ps ks : List Str} {sp : Sp} {E : XK} {x m : Str} {p pos apos kpos : Pos} {e o : Expr} {es : List Expr} {kws : List Keyword} {te ta : TE} {t tk : TA} {nm : Option Str}
variable {g : List Value → List Value → List Value} {gV : List V → List V → List V}
end

/-! ### a def's body keeps its promise -/
/-- names: the parameters first -/
structure FnScope (N P : List Str) (sc : Scope) : Prop where
  kind : sc.kind = .function
  co : sc.isCoroutine = false
  gen : sc.isGenerator = false
  nd : N.Nodup
  pre : N.take P.length = P
  par : ∀ x ∈ P, sc.names.lookup x = some .local ∨ sc.names.lookup x = some .cell
  nofree : ∀ y ∈ sc.names, y.2 ≠ .free

theorem bindL_out {kindOf : Str → Option NameKind} {x : Str} : ∀ {binds : List (Str × Value)} {m : Str → Option Value}, (∀ v, (x, v) ∉ binds) → bindL kindOf binds m x = m x
  | [], _, _ => rfl
  | (n, v) :: r, m, h => by
    unfold bindL
    rw [bindL_out fun w hw => h w (List.mem_cons_of_mem _ hw)]
    split
    · have : x ≠ n := by rintro rfl; exact h v List.mem_cons_self
      simp [this]
    · rfl
theorem bindC_out {kindOf : Str → Option NameKind} {x : Str} : ∀ {binds : List (Str × Value)} {m : Str → Option Value}, (∀ v, (x, v) ∉ binds) → bindC kindOf binds m x = m x
  | [], _, _ => rfl
  | (n, v) :: r, m, h => by
    unfold bindC
    rw [bindC_out fun w hw => h w (List.mem_cons_of_mem _ hw)]
    split
    · rfl
    · have : x ≠ n := by rintro rfl; exact h v List.mem_cons_self
      simp [this]
theorem bindL_get {kindOf : Str → Option NameKind} {x : Str} {v : Value} : ∀ {P : List Str} {vs : List Value} {i : Nat} {m : Str → Option Value}, P.Nodup → P[i]? = some x → vs[i]? = some v → kindOf x = some .local →
    bindL kindOf (P.zip vs) m x = some v
  | [], _, _, _, _, h, _, _ => by simp at h
  | _ :: _, [], _, _, _, _, h, _ => by simp at h
  | p :: P, w :: vs, 0, m, nd, h1, h2, hk => by
    simp at h1 h2; subst h1; subst h2
    show bindL kindOf ((p, w) :: P.zip vs) m p = _
    unfold bindL
    rw [bindL_out fun v hv => (List.nodup_cons.mp nd).1 (List.of_mem_zip hv).1, if_pos hk]
    simp
  | p :: P, w :: vs, i + 1, m, nd, h1, h2, hk => by
    show bindL kindOf ((p, w) :: P.zip vs) m x = _
    unfold bindL
    exact bindL_get (i := i) (List.nodup_cons.mp nd).2 (by simpa using h1) (by simpa using h2) hk
theorem bindC_get {kindOf : Str → Option NameKind} {x : Str} {v : Value} : ∀ {P : List Str} {vs : List Value} {i : Nat} {m : Str → Option Value}, P.Nodup → P[i]? = some x → vs[i]? = some v → kindOf x ≠ some .local →
    bindC kindOf (P.zip vs) m x = some v
  | [], _, _, _, _, h, _, _ => by simp at h
  | _ :: _, [], _, _, _, _, h, _ => by simp at h
  | p :: P, w :: vs, 0, m, nd, h1, h2, hk => by
    simp at h1 h2; subst h1; subst h2
    show bindC kindOf ((p, w) :: P.zip vs) m p = _
    unfold bindC
    rw [bindC_out fun v hv => (List.nodup_cons.mp nd).1 (List.of_mem_zip hv).1, if_neg hk]
    simp
  | p :: P, w :: vs, i + 1, m, nd, h1, h2, hk => by
    show bindC kindOf ((p, w) :: P.zip vs) m x = _
    unfold bindC
    exact bindC_get (i := i) (List.nodup_cons.mp nd).2 (by simpa using h1) (by simpa using h2) hk

/-- the names' values at the entry -/
def start (N : List Str) (vs : List V) : St := vs.map some ++ List.replicate (N.length - vs.length) none

/-- the context of a def's body, at its entry; an exception leaves the frame, then lies as CX says -/
def cxOf (CX : CXT) (P : Program) (w : World) (K : PySem.W.Frag) (mg : Str → Option Value) (base : Heap) (N : List Str) (qual : Str) (scope : Scope) (f : Addr) (cd : Value) (A : Around) (outer : List Env) (s : Shared) (H : Hp) (E : XK) : Cx where
  prog := P
  w := w
  K := K
  mg := mg
  base := base
  A := A.deeper (envOfC qual scope s.heap.objs.size f cd)
  N := N
  s_0 := s
  H_0 := H
  env := envOfC qual scope s.heap.objs.size f cd
  outer := outer
  stack := envOfC qual scope s.heap.objs.size f cd :: outer
  ex := []
  calm := true
  fn := fun _ => true
  pn := []
  xe := fun e s' => wpAny (model P w) (A.deeper (envOfC qual scope s.heap.objs.size f cd)) (leaving (envOfC qual scope s.heap.objs.size f cd) e) (fun _ s'' => CX outer H s E e s'') (fun e' s'' => CX outer H s E e' s'') s'

theorem cell_has {sc : Scope} {n : Nat} {x : Str} (h : sc.names.lookup x = some .cell) : ∃ c, (cellsFrom n sc.names []).lookup x = some c := by
  have q := PySem.W.cellsFrom_some sc.names n [] (.inl h)
  exact Option.isSome_iff_exists.mp q

theorem inv_start {CX : CXT} {P : Program} {w : World} {K : PySem.W.Frag} {mg : Str → Option Value} {base : Heap} {N ps : List Str} {qual : Str} {scope : Scope} {f : Addr} {cd : Value} {A : Around} {outer : List Env} {s s1 : Shared} {H : Hp} {E : XK} {us : List Value} {vs : List V}
    (S : FnScope N ps scope) (hd : A.handled = none) (e0 : Env0 P w K mg base A outer s H) (hl : vs.length = ps.length) (r : Vals vs us)
    (x : InCallC s s.heap.objs.size (bindL (envOfC qual scope s.heap.objs.size f cd).kindOf (ps.zip us) fun _ => none) (cellsFrom (s.heap.objs.size + 1) scope.names []) (bindC (envOfC qual scope s.heap.objs.size f cd).kindOf (ps.zip us) fun _ => none) s1) :
    Inv (cxOf CX P w K mg base N qual scope f cd A outer s H E) [] (start N vs) H s1 := by
  have hpl : ps.length ≤ N.length := by have := congrArg List.length S.pre; rw [List.length_take] at this; omega
  obtain ⟨h1, tk, rfl, hk⟩ := x.done
  have noA : ∀ b : Addr, b ∉ (cxOf CX P w K mg base N qual scope f cd A outer s H E).ex := fun b z => absurd (show b ∈ ([] : List Addr) from z) (by simp)
  refine ⟨⟨e0.mod, S.kind, rfl, rfl, Nat.le_refl _, fun y z c h1 h2 => ?_, fun y hy => ?_, fun y c _ h => ?_, fun _ => hd, Around.frames_deeper e0.frames, .inr ⟨rfl, rfl⟩, fun b z => absurd z (noA b), e0.bs, e0.bsz, fun b _ _ => noA b, fun b z => absurd z (noA b), e0.funs, e0.frf⟩,
    rfl, e0.bare, Un.kept hk, ⟨_, x.toInCall.ns, fun i y v h1 h2 h3 => ?_⟩, fun y c h => ⟨_, x.cell y c h⟩, e0.hok.fresh (Nat.le_refl _), fun y c h => ?_, fun p hp => absurd (show p ∈ ([] : List (Addr × Obj)) from hp) (by simp), e0.hok.kept hk, ?_⟩
  · exact name_of_addr x.apart (PySem.mem_of_lookup h1) (PySem.mem_of_lookup h2)
  · have hy : scope.names.lookup y = some .cell ∨ scope.names.lookup y = some .free := hy
    rcases hy with hy | hy
    · exact cell_has hy
    · exact absurd rfl (S.nofree _ (PySem.mem_of_lookup hy))
  · exact Nat.le_of_lt (x.above y c (PySem.mem_of_lookup h))
  · have hi : i < vs.length := by
      unfold start at h2
      by_cases hi : i < vs.length
      · exact hi
      · rw [List.getElem?_append_right (by simpa using hi)] at h2
        rw [List.getElem?_replicate] at h2
        split at h2 <;> cases h2
    have ha : vs[i]? = some v := by
      unfold start at h2
      rw [List.getElem?_append_left (by simpa using hi), List.getElem?_map] at h2
      cases e : vs[i]? with
      | none => rw [e] at h2; cases h2
      | some a => rw [e] at h2; cases h2; rfl
    obtain ⟨u, hu, rv⟩ := r.get ha
    have hp : ps[i]? = some y := by
      rw [← S.pre, List.getElem?_take_of_lt (by omega)]; exact h1
    have ndP : ps.Nodup := by rw [← S.pre]; exact S.nd.sublist (List.take_sublist _ _)
    refine ⟨u, rv, ?_⟩
    rcases S.par y (List.mem_of_getElem? hp) with k | k
    · exact .inl ⟨k, bindL_get ndP hp hu k⟩
    · obtain ⟨c, e⟩ := cell_has (n := s.heap.objs.size + 1) k
      refine .inr ⟨.inl k, c, e, ?_⟩
      have q := x.cell y c e
      rw [bindC_get ndP hp hu (by show scope.names.lookup y ≠ _; rw [k]; decide)] at q
      exact q
  · exact e0.hok.fresh (Nat.le_of_lt (x.above y c (PySem.mem_of_lookup h)))
  · unfold start
    show _ = N.length
    rw [List.length_append, List.length_map, List.length_replicate]
    omega

/-- THE RULE: a def (or a method) of the text, by its body. The body's reading t is chosen for each entry; it is run at the parameters' values -/
theorem fn_of {CX : CXT} {P : Program} {w : World} {K : PySem.W.Frag} {mg : Str → Option Value} {base : Heap} {k : Nat} {f : Addr} {name qual : Str} {params : Arguments} {body : List Stmt} {scope : Scope} {dV kV doc pm cdv ct oc : Value} {an od : Option Addr}
    {osl : Array (Option Value)} {N ps : List Str} {sp : Sp} (lk : K.lookup f = some ⟨oc, od, .func (PySem.W.fnOf name qual params body scope dV kV doc pm an cdv ct), osl⟩) (hcd : PySem.W.codeIn K cdv qual = true) (S : FnScope N ps scope)
    (len : ∀ vs H Q E, sp vs H Q E → vs.length = ps.length)
    (hbody : ∀ (A : Around) (outer : List Env) (s : Shared) (H : Hp) (vs : List V) (Q : VK) (E : XK), Room k (A.deeper (envOfC qual scope s.heap.objs.size f cdv)) → sp vs H Q E →
      ∃ t, PSs (cxOf CX P w K mg base N qual scope f cdv A outer s H E) body t ∧ t { nx := fun _ H' => Q .non H', rt := Q } (start N vs) H) :
    FnOk P w K mg base CX (k + 1) f (PySem.W.fnOf name qual params body scope dV kV doc pm an cdv ct) ps sp := by
  refine ⟨len, fun A outer s H args us vs Q E hr e0 hb r hsp => ?_⟩
  have hl := len _ _ _ _ hsp
  have KX : K.In s.heap := e0.mod.kin.keeps fun b o e => (e0.bs b o e).1
  have lim : s.heap.NoLimit := e0.mod.nolimit.keeps fun b o e => (e0.bs b o e).1
  have hkind : ∀ y ∈ ps.zip us, scope.names.lookup y.1 = some .local ∨ (scope.names.lookup y.1 = some .cell ∧ ((cellsFrom (s.heap.objs.size + 1) scope.names []).lookup y.1).isSome = true) := fun ⟨n, v⟩ hy => by
    rcases S.par n (List.of_mem_zip hy).1 with q | q
    · exact .inl q
    · exact .inr ⟨q, PySem.W.cellsFrom_some _ _ _ (.inl q)⟩
  refine codeAny_call_function hr.depth (KX _ _ lk) rfl S.co S.gen rfl (PySem.W.codeRec_of KX hcd) (hb _ _ _ _ ?_)
  refine wpAny_newFunctionEnv_cells S.kind hkind fun env he s1 x => ?_
  subst he
  refine ⟨lim.keeps x.toInCall.keep, codeAny_func ?_⟩
  obtain ⟨t, ht, hq⟩ := hbody A outer s H vs Q E (hr.deeper _) hsp
  have I : Inv (cxOf CX P w K mg base N qual scope f cdv A outer s H E) [] (start N vs) H s1 := inv_start S hr.hd e0 hl r x
  refine wpAny_mono (ht [] s1 (start N vs) H _ I hq) (fun fl s' hs => ?_) fun e s' hs => hs
  have fin : ∀ {σ' : St} {H' : Hp} {v : V} {u : Value}, Inv (cxOf CX P w K mg base N qual scope f cdv A outer s H E) [] σ' H' s' → RelV v u → Q v H' → CE outer P w H s Q u s' :=
    fun {σ' H' v u} J rv q => ⟨v, H', J.os, J.bare, J.base, J.hok, rv, q⟩
  cases fl with
  | ret u =>
    obtain ⟨v, σ', H', J, rv, q⟩ := hs
    exact fin J rv q
  | next =>
    obtain ⟨σ', H', J, q⟩ := hs
    exact fin (v := V.non) (u := Value.none) J rfl q
  | brk =>
    obtain ⟨_, _, _, q⟩ := hs
    exact False.elim q
  | cont =>
    obtain ⟨_, _, _, q⟩ := hs
    exact False.elim q
end L2

namespace L2
open PySem PySem.Spec PyProof.Rows
section
variable {X : Cx} {x : Str} {p pos : Pos} {e : Expr} {es : List Expr} {t : TA} {id T : String} {r : List V → Hp → VK → Prop}

def tCB (r : List V → Hp → VK → Prop) (t : TA) : TE := fun σ H Q => t σ H fun vs H1 => r vs H1 Q
/-- f(e, ..), f a built-in function -/
theorem pe_callB (hc : CallR X (.builtin id) r) (hg : Gl X x) (hm : X.mg x = none) (hv : bootBuiltins x = some (.builtin id)) (ha : PA X (e :: es) t) (hn : x ≠ "__name__" := by decide) (hdb : (x == ("__debug__" : Str)) = false := by decide)
    (he : starEach (e :: es) X.env = (false, eval e X.env) :: starEach es X.env := by rfl) (hpl : (backTo pos (starEach es X.env)).any (·.1) = false := by rfl) : PE X (.Call (.Name x p) (e :: es) [] pos) (tCB r t) := by
  intro pins s σ H Q I h
  refine wpAny_Call_Name_kw (ld_blt I hg hm hv ?_ hn hdb)
  exact PyProof.Rows.callWith_builtin1 (thn (ha pos pins s σ H _ I h) fun us s1 ⟨vs, H1, I1, r1, q1⟩ => hc pins s1 σ H1 vs us Q I1 r1 q1) he hpl
/-- T(e, ..), T a built-in type -/
theorem pe_callTy (hc : CallR X (.type T) r) (hg : Gl X x) (hm : X.mg x = none) (hv : bootBuiltins x = some (.type T)) (ha : PA X (e :: es) t) (hn : x ≠ "__name__" := by decide) (hdb : (x == ("__debug__" : Str)) = false := by decide)
    (he : starEach (e :: es) X.env = (false, eval e X.env) :: starEach es X.env := by rfl) (hpl : (backTo pos (starEach es X.env)).any (·.1) = false := by rfl) : PE X (.Call (.Name x p) (e :: es) [] pos) (tCB r t) := by
  intro pins s σ H Q I h
  refine wpAny_Call_Name_kw (ld_blt I hg hm hv ?_ hn hdb)
  exact PyProof.Rows.callWith_type1 (thn (ha pos pins s σ H _ I h) fun us s1 ⟨vs, H1, I1, r1, q1⟩ => hc pins s1 σ H1 vs us Q I1 r1 q1) he hpl
end
end L2

namespace HT
open PySem PyProof.Rows

section
open PySem.SeqAt
open PySem.AutoSeq1 (wpAny_loadPart')
open PySem.MeetsSeq PySem.MeetsSeq2 PySem.MeetsSeq3

end

section
variable {prog : Program} {w : World} {A : Around} {E : Value → Shared → Prop} {s : Shared}

/-! ### t[a:b], not the whole -/
/-- a slice's bound as a place among n (d where it is left out) -/
def sIx (n d : Nat) : Option Int → Nat
  | none => d
  | some v => if v < 0 then (v + (n : Int)).toNat else min v.toNat n
theorem sIx_none (n d : Nat) : sIx n d none = d := rfl
theorem sIx_nat (n d k : Nat) : sIx n d (some (k : Int)) = min k n := by
  show (if (k : Int) < 0 then ((k : Int) + (n : Int)).toNat else min (k : Int).toNat n) = min k n
  rw [if_neg (by omega), Int.toNat_natCast]
end
end HT

namespace L2
open PySem PySem.Spec PyProof.Rows

/-! ### the parts of a slice -/
abbrev TO := St → Hp → (Option Int → Hp → Prop) → Prop
/-- a slice's part (left out, or an int) -/
def PO (X : Cx) (e : Option Expr) (t : TO) : Prop :=
  ∀ (pins : List (Addr × Obj)) (s : Shared) (σ : St) (H : Hp) (Q : Option Int → Hp → Prop), Inv X pins σ H s → t σ H Q →
    wpAny (model X.prog X.w) X.A (evalPart e X.env) (fun u s' => ∃ o H', Inv X pins σ H' s' ∧ IsPart u o ∧ Q o H') X.xe s
def tNoPart : TO := fun _ H Q => Q none H
def tPart (t : TE) : TO := fun σ H Q => t σ H fun x H1 => ∃ i, x = .int i ∧ Q (some i) H1

theorem intsAre_of {ns : List Int} : ∀ {us : List Value}, Vals (ns.map V.int) us → IntsAre us ns := by
  induction ns with
  | nil => intro us r; rw [List.map_nil] at r; cases r; exact .nil
  | cons n ns ih =>
    intro us r
    rw [List.map_cons] at r
    cases r with
    | cons r1 r2 =>
      obtain ⟨t, e⟩ := r1
      subst e
      exact .cons n t (ih r2)

section
variable {X : Cx} {e : Expr} {te : TE} {lo hi : Option Expr} {tl th : TO} {pos p2 : Pos}

theorem po_none : PO X none tNoPart := by
  intro pins s σ H Q I h
  rw [evalPart_none]
  exact wpAny_pure ⟨none, H, I, .none, h⟩
theorem po_some (h : PE X e te) : PO X (some e) (tPart te) := by
  intro pins s σ H Q I hw
  rw [evalPart_some]
  refine thn (h pins s σ H _ I hw) fun u s1 ⟨x, H1, I1, r1, q1⟩ => ?_
  obtain ⟨i, rfl, q⟩ := q1
  obtain ⟨t, rfl⟩ := r1
  exact ⟨some i, H1, I1, .int i t, q⟩

/-- what a slice of a value is, by values: the slice object stands at sl -/
def SlR (X : Cx) (r : V → Option Int → Option Int → Hp → VK → Prop) : Prop :=
  ∀ (pins : List (Addr × Obj)) (s : Shared) (σ : St) (H : Hp) (x : V) (v vl vu : Value) (lo hi : Option Int) (sl : Addr) (Q : VK), Inv X pins σ H s → RelV x v → s.heap.IsSliceOf sl vl vu .none → IsPart vl lo → IsPart vu hi → r x lo hi H Q →
    ∃ T id, typeLookup (.type T) "__getitem__" = pure (some (.builtin id)) ∧ s.TypeIs v T ∧ wpAny (model X.prog X.w) X.A (getItem v (.ref sl)) (EP X pins σ Q) X.xe s
def tSl (r : V → Option Int → Option Int → Hp → VK → Prop) (te : TE) (tl th : TO) : TE := fun σ H Q => te σ H fun x H1 => tl σ H1 fun l H2 => th σ H2 fun u H3 => r x l u H3 Q
/-- a[lo:hi], any a -/
theorem pe_slice {r : V → Option Int → Option Int → Hp → VK → Prop} (hr : SlR X r) (he : PE X e te) (hl : PO X lo tl) (hu : PO X hi th) : PE X (.Subscript e (.Slice lo hi none p2) pos) (tSl r te tl th) := by
  intro pins s σ H Q I h
  refine Subscript_ (thn (he pins s σ H _ I h) fun v s1 ⟨x, H1, I1, r1, q1⟩ => ?_)
  refine wpAny_Slice (thn (hl pins s1 σ H1 _ I1 q1) fun vl s2 ⟨l, H2, I2, pl, q2⟩ => thn (hu pins s2 σ H2 _ I2 q2) fun vu s3 ⟨u, H3, I3, pu, q3⟩ => ?_)
  rw [evalPart_none]
  refine wpAny_pure ?_
  have I4 : Inv X pins σ H3 { s3 with heap := s3.heap.push { cls := .type "slice", data := .fields #[vl, vu, .none] } } := I3.kept (t' := s3.toks) fun b ob q => Heap.get?_push_of_some _ q
  obtain ⟨T, id, hT, ht, hg⟩ := hr pins { s3 with heap := s3.heap.push { cls := .type "slice", data := .fields #[vl, vu, .none] } } σ H3 x v vl vu l u s3.heap.objs.size Q I4 r1 (Heap.IsSliceOf.new ..) pl pu q3
  show wpAny (model X.prog X.w) X.A (subscriptTail e (.Slice lo hi none p2) v (.ref s3.heap.objs.size)) (EP X pins σ Q) X.xe { s3 with heap := s3.heap.push { cls := .type "slice", data := .fields #[vl, vu, .none] } }
  exact tail_any (ops := [.ref s3.heap.objs.size, v]) ht hT hg (by with_unfolding_all rfl)

/-- the items of xs[lo:hi] -/
def cutV (xs : List V) (lo hi : Option Int) : List V := (xs.drop (HT.sIx xs.length 0 lo)).take (HT.sIx xs.length xs.length hi - HT.sIx xs.length 0 lo)
theorem cutV_length (xs : List V) (lo hi : Option Int) : (cutV xs lo hi).length ≤ xs.length := by
  unfold cutV
  rw [List.length_take, List.length_drop]
  omega
/-! ### t < u, t + u -/
end
end L2

namespace L2
open PySem PySem.Spec PyProof.Rows

/-! ### places -/
/-- the place that an index of any sign means -/
def ixN (n : Nat) (i : Int) : Option Nat := if 0 ≤ i then (if i < n then some i.toNat else none) else if -(n : Int) ≤ i then some (i + n).toNat else none
def atI {α : Type} (xs : List α) (i : Int) : Option α := (ixN xs.length i).bind fun j => xs[j]?
theorem ixN_seq {n : Nat} {i : Int} {j : Nat} (h : ixN n i = some j) : seqIndex? i n = some j ∧ j < n ∧ -(n : Int) ≤ i ∧ i < n := by
  unfold ixN at h
  by_cases h0 : 0 ≤ i
  · rw [if_pos h0] at h
    by_cases h1 : i < n
    · rw [if_pos h1] at h
      have e : i.toNat = j := Option.some.inj h
      exact ⟨by rw [seqIndex_of h0 h1, e], by omega, by omega, h1⟩
    · rw [if_neg h1] at h; cases h
  · rw [if_neg h0] at h
    by_cases h1 : -(n : Int) ≤ i
    · rw [if_pos h1] at h
      have e : (i + n).toNat = j := Option.some.inj h
      exact ⟨by rw [seqIndex_neg (by omega) h1, e], by omega, h1, by omega⟩
    · rw [if_neg h1] at h; cases h
theorem atI_get {α : Type} {xs : List α} {i : Int} {v : α} (h : atI xs i = some v) : ∃ j, seqIndex? i xs.length = some j ∧ xs[j]? = some v ∧ j < xs.length ∧ -(xs.length : Int) ≤ i ∧ i < xs.length := by
  unfold atI at h
  cases e : ixN xs.length i with
  | none => rw [e] at h; cases h
  | some j =>
    rw [e] at h
    obtain ⟨h1, h2, h3, h4⟩ := ixN_seq e
    exact ⟨j, h1, h, h2, h3, h4⟩
theorem atI_nat {α : Type} {xs : List α} {j : Nat} {v : α} (h : xs[j]? = some v) : atI xs (j : Int) = some v := by
  have hj : j < xs.length := (List.getElem?_eq_some_iff.mp h).1
  have e : ixN xs.length (j : Int) = some j := by
    unfold ixN
    rw [if_pos (by omega), if_pos (by omega)]; simp
  unfold atI; rw [e]; exact h
/-! ### what may be subscripted -/
/-- what stands as an index of a plain subscript -/
def PlainIx (b : Expr) : Prop := ∀ o i, subscripted b false o i = operate [o, i] (getItem o i)
/-- a subscript by values -/
def IxR (X : Cx) (r : R2) : Prop :=
  ∀ (value slice : Expr) (pins : List (Addr × Obj)) (s : Shared) (σ : St) (H : Hp) (x y : V) (v u : Value) (Q : VK), Inv X pins σ H s → RelV x v → RelV y u → r x y H Q →
    subscripted slice false v u = operate [v, u] (getItem v u) → wpAny (model X.prog X.w) X.A (subscriptTail value slice v u) (EP X pins σ Q) X.xe s
/-- a call of a builtin's method by values: the receiver, the arguments -/
def MtR (X : Cx) (id : String) (r : V → List V → Hp → VK → Prop) : Prop :=
  ∀ (pins : List (Addr × Obj)) (s : Shared) (σ : St) (H : Hp) (x : V) (xs : List V) (v : Value) (us : List Value) (Q : VK), Inv X pins σ H s → RelV x v → Vals xs us → r x xs H Q →
    wpAny (model X.prog X.w) X.A (call (.builtin id) (v :: us)) (EP X pins σ Q) X.xe s
section
variable {X : Cx} {a b : Expr} {ta tb : TE} {pos : Pos}
/-- a[b] -/
theorem pe_ix {r : R2} (hr : IxR X r) (ha : PE X a ta) (hb : PE X b tb) (hs : PlainIx b) : PE X (.Subscript a b pos) (tOp r ta tb) := by
  intro pins s σ H Q I h
  exact Subscript_ (binT ha hb I h fun v u s2 x y H2 I2 rx ry q => hr a b pins s2 σ H2 x y v u Q I2 rx ry q (hs _ _))

def rIxL (K : PySem.W.Frag) : R2 := fun x y H Q => ∃ p xs i v, x = .ref p ∧ y = .int i ∧ SqL K H p xs ∧ atI xs i = some v ∧ Q v H
def rIxT (K : PySem.W.Frag) : R2 := fun x y H Q => ∃ p xs i v, x = .ref p ∧ y = .int i ∧ SqT K H p xs ∧ atI xs i = some v ∧ Q v H
theorem ix_list : IxR X (rIxL X.K) := by
  intro value slice pins s σ H x y v u Q I rx ry h hs
  obtain ⟨p, xs, i, z, rfl, rfl, hq, he, q⟩ := h
  cases rx
  obtain ⟨t, rfl⟩ := ry
  obtain ⟨its, r, pl, hz⟩ := I.list hq
  obtain ⟨j, h1, h2, h3, h4, h5⟩ := atI_get he
  obtain ⟨w, ew, rw'⟩ := r.get h2
  have hl := r.length
  have hn := line63
  have fin : EP X pins σ Q w s := ⟨z, H, I, rw', q⟩
  by_cases h0 : 0 ≤ i
  · have hj : i.toNat = j := by
      rw [seqIndex_of h0 h5] at h1
      exact Option.some.inj h1
    exact item_listR pl.isList h0 (by omega) (by rw [hj]; simpa using ew) fin hs
  · have hj : (i + (its.toArray.size : Int)).toNat = j := by
      rw [seqIndex_neg (by omega) h4] at h1
      rw [List.size_toArray, ← hl]
      exact Option.some.inj h1
    exact subscriptTail_builtinR (x := w) pl.isList.typeIs slot_list_getitem.lookup
      (wpAny_getItem_list_neg (Q := fun r s' => r = w ∧ EP X pins σ Q r s') pl.isList (by omega) (by rw [List.size_toArray] <;> omega) (by omega) (by rw [hj]; simpa using ew) ⟨rfl, fin⟩) hs
theorem ix_tup : IxR X (rIxT X.K) := by
  intro value slice pins s σ H x y v u Q I rx ry h hs
  obtain ⟨p, xs, i, z, rfl, rfl, hq, he, q⟩ := h
  cases rx
  obtain ⟨t, rfl⟩ := ry
  obtain ⟨its, r, pl, hz⟩ := I.tuple hq
  obtain ⟨j, h1, h2, h3, h4, h5⟩ := atI_get he
  obtain ⟨w, ew, rw'⟩ := r.get h2
  have hl := r.length
  have hn := line63
  have fin : EP X pins σ Q w s := ⟨z, H, I, rw', q⟩
  exact subscriptTail_builtinR (x := w) pl.typeIs slot_tuple_getitem.lookup
    (getItem_tuple (j := j) (Q := fun r s' => r = w ∧ EP X pins σ Q r s') pl (by omega) (by omega) (by rw [List.size_toArray, ← hl]; exact h1) (by simpa using ew) ⟨rfl, fin⟩) hs
/-! ### xs[i] = v, any sign -/
/-! ### slices -/
theorem slice_bounds (lo hi : Option Int) (n : Nat) : (sliceBounds lo hi none n).1 = ((HT.sIx n 0 lo : Nat) : Int) ∧ (sliceBounds lo hi none n).2.1 = ((HT.sIx n n hi : Nat) : Int) ∧ (sliceBounds lo hi none n).2.2 = 1 := by
  refine ⟨?_, ?_, rfl⟩
  · cases lo with
    | none => simp [sliceBounds, HT.sIx]
    | some i =>
      simp only [sliceBounds, HT.sIx, Option.getD_none, show (1 : Int) > 0 by decide, if_true]
      by_cases h : i < 0
      · simp only [h, if_true] <;> omega
      · simp only [h, if_false] <;> omega
  · cases hi with
    | none => simp [sliceBounds, HT.sIx]
    | some i =>
      simp only [sliceBounds, HT.sIx, Option.getD_none, show (1 : Int) > 0 by decide, if_true]
      by_cases h : i < 0
      · simp only [h, if_true] <;> omega
      · simp only [h, if_false] <;> omega
theorem slicePick_cut (its : List Value) (lo hi : Option Int) : slicePick its.toArray lo hi none = ((its.drop (HT.sIx its.length 0 lo)).take (HT.sIx its.length its.length hi - HT.sIx its.length 0 lo)).toArray := by
  obtain ⟨h1, h2, h3⟩ := slice_bounds lo hi its.toArray.size
  unfold slicePick
  rw [h1, h2, h3]
  simp only [sliceRange_one, pick_run, List.size_toArray] <;> rfl
/-- xs[lo:hi] of a list: a new list -/
def rSlL (K : PySem.W.Frag) : V → Option Int → Option Int → Hp → VK → Prop := fun x lo hi H Q => ∃ a xs, x = .ref a ∧ SqL K H a xs ∧ ∀ p, H p = none → Q (.ref p) (upd H p (.lst (cutV xs lo hi)))
theorem sl_list : SlR X (rSlL X.K) := by
  intro pins s σ H x v vl vu lo hi sl Q I rx hs pl pu h
  obtain ⟨a, xs, rfl, hx, q⟩ := h
  cases rx
  obtain ⟨its, r, ht, hz⟩ := I.list hx
  have hlen := r.length
  refine ⟨"list", _, slot_list_getitem.lookup, ht.isList.typeIs, ?_⟩
  refine wpAny_getItem_list_slice ht.isList hs pl pu .none (by simp) ?_ (by rw [List.size_toArray] <;> omega)
  rw [slicePick_cut, ← hlen]
  refine ⟨.ref s.heap.objs.size, _, I.laid (t' := s.toks) (o := .lst (cutV xs lo hi)) (fun b ob q => Heap.get?_push_of_some _ q) (Nat.le_refl _) ?_, rfl, q _ (I.hok.fresh (Nat.le_refl _))⟩
  exact ⟨Nat.le_trans (cutV_length xs lo hi) hz, _, 0, (r.drop (HT.sIx xs.length 0 lo)).take (HT.sIx xs.length xs.length hi - HT.sIx xs.length 0 lo), Heap.get?_push_size _ rfl⟩

/-! ### in, not in: flat items -/
def flatV : V → Bool
  | .non => true
  | .bl _ => true
  | .int _ => true
  | .str _ => true
  | _ => false
/-- == of flat values -/
def eqV : V → V → Bool
  | .non, .non => true
  | .bl a, .bl b => a == b
  | .bl a, .int b => (if a then 1 else 0) == b
  | .int a, .bl b => a == (if b then 1 else 0)
  | .int a, .int b => a == b
  | .str a, .str b => a == b
  | _, _ => false
theorem eqAt_V {A : Around} {s : Shared} {y x : V} {u v : Value} (ry : RelV y u) (rx : RelV x v) (fy : flatV y = true) (fx : flatV x = true) : SeqAt.EqAt A s u v (eqV y x) := by
  cases y with
  | non =>
    cases ry
    cases x with
    | non => cases rx; exact SeqAt.EqAt.same _
    | bl b => cases rx; exact SeqAt.EqAt.none_bool b
    | int b => obtain ⟨t, rfl⟩ := rx; exact SeqAt.EqAt.none_int b t
    | str b => obtain ⟨t, rfl⟩ := rx; exact SeqAt.EqAt.none_str b t
    | _ => exact absurd (show false = true from fx) Bool.false_ne_true
  | bl a =>
    cases ry
    cases x with
    | non => cases rx; exact SeqAt.EqAt.bool_none a
    | bl b => cases rx; exact SeqAt.EqAt.bool_bool a b
    | int b => obtain ⟨t, rfl⟩ := rx; exact SeqAt.EqAt.bool_int a b t
    | str b => obtain ⟨t, rfl⟩ := rx; exact SeqAt.EqAt.bool_str a b t
    | _ => exact absurd (show false = true from fx) Bool.false_ne_true
  | int a =>
    obtain ⟨t', rfl⟩ := ry
    cases x with
    | non => cases rx; exact SeqAt.EqAt.int_none a t'
    | bl b => cases rx; exact SeqAt.EqAt.int_bool a t' b
    | int b => obtain ⟨t, rfl⟩ := rx; exact SeqAt.EqAt.int_int a t' b t
    | str b => obtain ⟨t, rfl⟩ := rx; exact SeqAt.EqAt.int_str a t' b t
    | _ => exact absurd (show false = true from fx) Bool.false_ne_true
  | str a =>
    obtain ⟨t', rfl⟩ := ry
    cases x with
    | non => cases rx; exact SeqAt.EqAt.str_none a t'
    | bl b => cases rx; exact SeqAt.EqAt.str_bool a t' b
    | int b => obtain ⟨t, rfl⟩ := rx; exact SeqAt.EqAt.str_int a t' b t
    | str b => obtain ⟨t, rfl⟩ := rx; exact SeqAt.EqAt.str_str a t' b t
    | _ => exact absurd (show false = true from fx) Bool.false_ne_true
  | _ => exact absurd (show false = true from fy) Bool.false_ne_true
/-- the items' answers, read off the values (a value's own answer does not lean on its token) -/
def eqU (x : V) (u : Value) : Bool := match u with
  | .none => eqV .non x
  | .bool b => eqV (.bl b) x
  | .int i _ => eqV (.int i) x
  | .str z _ => eqV (.str z) x
  | _ => false
theorem eqU_of {x y : V} {u : Value} (r : RelV y u) (f : flatV y = true) : eqU x u = eqV y x := by
  cases y with
  | non => cases r; rfl
  | bl b => cases r; rfl
  | int i => obtain ⟨t, rfl⟩ := r; rfl
  | str z => obtain ⟨t, rfl⟩ := r; rfl
  | _ => exact absurd (show false = true from f) Bool.false_ne_true
theorem mem_eqAt {A : Around} {s : Shared} {x : V} {v : Value} (rx : RelV x v) (fx : flatV x = true) : ∀ {xs : List V} {us : List Value}, Vals xs us → xs.all flatV = true → ∀ u ∈ us, SeqAt.EqAt A s u v (eqU x u)
  | _, _, .nil, _ => fun u hu => by cases hu
  | y :: xs, u :: us, .cons r t, f => fun u' hu => by
    rw [List.all_cons, Bool.and_eq_true] at f
    rcases List.mem_cons.mp hu with rfl | hu
    · rw [eqU_of r f.1]; exact eqAt_V r rx f.1 fx
    · exact mem_eqAt rx fx t f.2 u' hu
/-! ### len, list(x), tuple(x) of any list or tuple that is read -/
theorem call_len_seq : CallR X (.builtin "len") (fun xs H Q => ∃ p ys, xs = [.ref p] ∧ (SqL X.K H p ys ∨ SqT X.K H p ys) ∧ Q (.int ys.length) H) := by
  intro pins s σ H xs us Q I r h
  obtain ⟨p, ys, rfl, hq, q⟩ := h
  obtain ⟨u, rfl, rx⟩ := vals1 r
  cases rx
  have hn := line63
  rcases hq with hq | hq
  · obtain ⟨its, r', pl, hz⟩ := I.list hq
    have hlen := r'.length
    exact Calls.call_len_list pl.isList (by simp only [List.size_toArray] <;> omega) ⟨.int ys.length, H, I.tok _, ⟨s.toks + 1, by rw [List.size_toArray, hlen]⟩, q⟩
  · obtain ⟨its, r', pl, hz⟩ := I.tuple hq
    have hlen := r'.length
    exact len_tuple pl (by simp only [List.size_toArray] <;> omega) ⟨.int ys.length, H, I.tok _, ⟨s.toks + 1, by rw [List.size_toArray, hlen]⟩, q⟩
/-! ### the call of a builtin's method: o.m(..) -/
/-- the value is of that builtin type -/
def tyV (K : PySem.W.Frag) (T : String) (x : V) (H : Hp) : Prop := match x with
  | .str _ => T = "str"
  | .int _ => T = "int"
  | .ref p => (T = "list" ∧ ∃ xs, SqL K H p xs) ∨ (T = "tuple" ∧ ∃ o, K.lookup p = some o ∧ o.cls = .type "tuple" ∧ o.dict = none) ∨
      (T = "dict" ∧ ((∃ kvs, H p = some (.dK kvs)) ∨ ∃ kvs, H p = some (.dT kvs))) ∨ (T = "set" ∧ ∃ S n, H p = some (.set S n))
  | _ => False
theorem tyV_is {pins : List (Addr × Obj)} {σ : St} {H : Hp} {s : Shared} {T : String} {x : V} {v : Value} (I : Inv X pins σ H s) (r : RelV x v) (ty : tyV X.K T x H) :
    s.TypeIs v T ∧ ∀ a, v = .ref a → ∃ ob, s.heap.get? a = some ob ∧ ob.dict = none := by
  cases x with
  | str z =>
    obtain ⟨t, rfl⟩ := r
    cases (show T = "str" from ty)
    exact ⟨typeIs_str s z t, fun _ e => nomatch e⟩
  | int i =>
    obtain ⟨t, rfl⟩ := r
    cases (show T = "int" from ty)
    exact ⟨typeIs_int s i t, fun _ e => nomatch e⟩
  | ref p =>
    cases r
    rcases ty with ⟨rfl, xs, hq⟩ | ⟨rfl, o, hk, hc, hd⟩ | ⟨rfl, hk⟩ | ⟨rfl, S, n, hk⟩
    · obtain ⟨its, _, pl, _⟩ := I.list hq
      refine ⟨pl.isList.typeIs, fun a e => ?_⟩
      cases e
      obtain ⟨o, n, e, c, hd, _⟩ := pl
      exact ⟨o, e, hd⟩
    · refine ⟨⟨o, I.kIn p o hk, hc⟩, fun a e => ?_⟩
      cases e
      exact ⟨o, I.kIn _ o hk, hd⟩
    · have z : ∃ o, s.heap.get? p = some o ∧ o.ExactDict := by
        rcases hk with ⟨kvs, hk⟩ | ⟨kvs, hk⟩
        · obtain ⟨_, _, _, _, o, _, _, e, ex, _⟩ := I.hok p _ hk
          exact ⟨o, e, ex⟩
        · obtain ⟨_, _, _, _, o, _, _, e, ex, _⟩ := I.hok p _ hk
          exact ⟨o, e, ex⟩
      obtain ⟨o, e, ex⟩ := z
      refine ⟨⟨o, e, ex.1⟩, fun a e2 => ?_⟩
      cases e2
      exact ⟨o, e, ex.2.1⟩
    · obtain ⟨o, _, _, _, e, ex, _⟩ := I.hok p _ hk
      refine ⟨⟨o, e, ex.1⟩, fun a e2 => ?_⟩
      cases e2
      exact ⟨o, e, ex.2.1⟩
  | _ => exact False.elim ty
def tBM (K : PySem.W.Frag) (T : String) (r : V → List V → Hp → VK → Prop) (to : TE) (t : TA) : TE := fun σ H Q => to σ H fun x H1 => tyV K T x H1 ∧ t σ H1 fun xs H2 => r x xs H2 Q
variable {o e : Expr} {es : List Expr} {to : TE} {t : TA} {name : Str} {apos cpos : Pos} {T id : String} {r : V → List V → Hp → VK → Prop}
theorem pe_bm (pa : PlainAttrs T) (slot : Slot T name id) (hty : typeOf (.builtin id) = pure (.type "method_descriptor")) (hm : MtR X id r) (ho : PE X o to) (ha : PA X (e :: es) t)
    (hbase : attributeBase o name X.env (eval o X.env) = eval o X.env := by rfl)
    (hfew : ((backTo cpos (starEach (e :: es) X.env)).all (fun x => !x.1) && (backToKw cpos (keywordEach [] X.env)).all (fun x => x.1.isSome)
      && decide ((e :: es).length + ([] : List Keyword).length + (if ([] : List Keyword).isEmpty then 0 else 1) < 30)) = true := by rfl)
    (hline : (apos.endLine == cpos.line) = true := by rfl) (hs : starEach (e :: es) X.env = (false, eval e X.env) :: starEach es X.env := by rfl) (hplain : (backTo cpos (starEach es X.env)).any (·.1) = false := by rfl) :
    PE X (.Call (.Attribute o name apos) (e :: es) [] cpos) (tBM X.K T r to t) := by
  intro pins s σ H Q I h
  refine wpAny_Call_method_late hbase hfew hline rfl (thn (ho pins s σ H _ I h) fun v s1 ⟨x, H1, I1, r1, ty, q1⟩ => ?_)
  obtain ⟨h1, h2⟩ := tyV_is I1 r1 ty
  refine ⟨T, id, pa, slot, hty, h1, h2, ?_⟩
  have hA := ha cpos pins s1 σ H1 _ I1 q1
  rw [hs] at hA ⊢
  refine Calls.callWith_builtin (by show (false || (backTo cpos (starEach es X.env)).any (·.1)) = false; rw [hplain] <;> rfl) (Calls.evalArgs_plain ?_)
  exact thn hA fun us s2 ⟨vs, H2, I2, r2, q2⟩ => hm pins s2 σ H2 x vs v us Q I2 r1 r2 q2
/- xs.append(e), list.index on a module's tuple .. are MtR facts of 06m -/
end
end L2

namespace L2
open PySem PySem.Spec PyProof.Rows

def MtM (X : Cx) (id : String) (r : V → List V → Hp → VK → Prop) : Prop :=
  ∀ (pins : List (Addr × Obj)) (s : Shared) (σ : St) (H : Hp) (x : V) (xs : List V) (v : Value) (us : List Value) (Q : VK), Inv X pins σ H s → RelV x v → Vals xs us → r x xs H Q →
    wpAny (model X.prog X.w) X.A (call (.builtin id) (v :: us)) (EP X pins σ Q) X.xe s

/-! ### lists of values -/
theorem Vals.one : ∀ {x : V} {us : List Value}, Vals [x] us → ∃ u, us = [u] ∧ RelV x u
  | _, _, .cons r .nil => ⟨_, rfl, r⟩
section
variable {X : Cx} {pins : List (Addr × Obj)} {σ : St} {H : Hp} {s : Shared} {l b : Addr} {xs ys zs : List V}

/-! ### the two steps: a tracked list is rewritten, a new list is laid -/
theorem Inv.lset {its its' : List Value} {n : Nat} {f : Array Value → Array Value} {t' : Nat} (I : Inv X pins σ H s) (hH : H l = some (.lst xs))
    (e : s.heap.get? l = some { cls := .type "list", data := .seq its.toArray n }) (hf : f its.toArray = its'.toArray) (hv : Vals ys its') (hz : ys.length ≤ sizeLine) :
    Inv X pins σ (upd H l (.lst ys)) { s with heap := s.heap.update l (Obj.mapSeq f), toks := t' } := by
  have q := PySem.IsL.update e f
  rw [hf] at q
  refine I.write (x := l) (e := l) (by rw [hH]; exact trivial) (.inl rfl) (fun b' u hb hu => (Heap.get?_update_other s.heap (Obj.mapSeq f) (Ne.symm hb)).trans hu) ⟨_, q⟩ ?_
  exact ⟨hz, its', _, hv, q⟩
theorem Inv.lnew {its : List Value} {t' : Nat} (I : Inv X pins σ H s) (hv : Vals ys its) (hz : ys.length ≤ sizeLine) :
    Inv X pins σ (upd H s.heap.objs.size (.lst ys)) { s with heap := s.heap.push { cls := .type "list", data := .seq its.toArray }, toks := t' } :=
  I.laid (fun _ _ q => Heap.get?_push_of_some _ q) (Nat.le_refl _) ⟨hz, its, 0, hv, Heap.get?_push_size _ rfl⟩
theorem Inv.fresh (I : Inv X pins σ H s) : H s.heap.objs.size = none := I.hok.fresh (Nat.le_refl _)
theorem Inv.lstM (I : Inv X pins σ H s) (hH : H l = some (.lst xs)) : xs.length ≤ sizeLine ∧ ∃ (its : List Value) (n : Nat), Vals xs its ∧ xs.length = its.length ∧ s.heap.get? l = some { cls := .type "list", data := .seq its.toArray n } := by
  obtain ⟨z, its, n, r, e⟩ := I.hok l _ hH
  exact ⟨z, its, n, r, r.length, e⟩

theorem notLongL {n : Nat} (h : n ≤ sizeLine) : Builtin.List.listTooLong n = false := by
  unfold Builtin.List.listTooLong
  exact decide_eq_false (by omega)
end

section
variable {X : Cx}

/-! ### methods -/
def rAppend : V → List V → Hp → VK → Prop := fun x vs H Q => ∃ l xs y, x = .ref l ∧ vs = [y] ∧ H l = some (.lst xs) ∧ xs.length < sizeLine ∧ Q .non (upd H l (.lst (xs ++ [y])))
theorem mt_append : MtM X "list.append" rAppend := by
  intro pins s σ H x vs v us Q I rx rv h
  obtain ⟨l, xs, y, rfl, rfl, hH, hz, q⟩ := h
  cases rx
  obtain ⟨u, rfl, ru⟩ := rv.one
  obtain ⟨z, its, n, r, hl, e⟩ := I.lstM hH
  refine call_meets F.slot_list_append ⟨_, e, rfl⟩ F.entry_list_append (F.args_list_append_2 _ _) (PySem.list_append l its.toArray n u (by rw [List.size_toArray]; omega)) ⟨e, ?_⟩
  refine ⟨.non, _, I.lset (its' := its ++ [u]) hH e (by simp) (r.append (.cons ru .nil)) ?_, rfl, q⟩
  rw [List.length_append, List.length_singleton]
  omega

def rExtend : V → List V → Hp → VK → Prop := fun x vs H Q => ∃ l b xs zs, x = .ref l ∧ vs = [.ref b] ∧ H l = some (.lst xs) ∧ H b = some (.lst zs) ∧ xs.length + zs.length ≤ sizeLine ∧ Q .non (upd H l (.lst (xs ++ zs)))
theorem mt_extend : MtM X "list.extend" rExtend := by
  intro pins s σ H x vs v us Q I rx rv h
  obtain ⟨l, b, xs, zs, rfl, rfl, hH, hB, hz, q⟩ := h
  cases rx
  obtain ⟨u, rfl, ru⟩ := rv.one
  cases ru
  obtain ⟨z, its, n, r, hl, e⟩ := I.lstM hH
  obtain ⟨z2, its2, n2, r2, hl2, e2⟩ := I.lstM hB
  have hsz : its.toArray.size + its2.toArray.size ≤ sizeLine := by rw [List.size_toArray, List.size_toArray]; omega
  have hlong : ¬ (!its.toArray.isEmpty && Builtin.List.listTooLong (its.toArray.size + its2.toArray.size)) = true := by
    rw [notLongL hsz, Bool.and_false]
    exact Bool.false_ne_true
  refine call_meets F.slot_list_extend ⟨_, e, rfl⟩ F.entry_list_extend (F.args_list_extend_2 _ _)
    (AutoSeq1.list_extend_list_list_0 l its.toArray n b its2.toArray n2 hlong (by rw [List.size_toArray]; omega) (by omega)) ⟨e, e2, ?_⟩
  refine ⟨.non, _, I.lset (its' := its ++ its2) hH e (by simp) (r.append r2) ?_, rfl, q⟩
  rw [List.length_append]
  omega

/-! ### list + list, list += list, list * int -/
def rCat : R2 := fun x y H Q => ∃ l b xs zs, x = .ref l ∧ y = .ref b ∧ H l = some (.lst xs) ∧ H b = some (.lst zs) ∧ xs.length + zs.length ≤ sizeLine ∧ ∀ p, H p = none → Q (.ref p) (upd H p (.lst (xs ++ zs)))
theorem op_cat : OpR X (binaryOp .Add) rCat := by
  intro pins s σ H x y v u Q I rx ry h
  obtain ⟨l, b, xs, zs, rfl, rfl, hH, hB, hz, q⟩ := h
  cases rx
  cases ry
  obtain ⟨z, its, n, r, hl, e⟩ := I.lstM hH
  obtain ⟨z2, its2, n2, r2, hl2, e2⟩ := I.lstM hB
  refine PySem.P.add_list e e2 ?_ (by rw [List.size_toArray, List.size_toArray]; omega)
  have ea : its.toArray ++ its2.toArray = (its ++ its2).toArray := by simp
  rw [ea]
  exact ⟨.ref _, _, I.lnew (t' := s.toks) (r.append r2) (by rw [List.length_append]; omega), rfl, q _ I.fresh⟩
/-! ### del xs[i] -/
end

/-! ### xs[a:b] = ys -/
section
variable {prog : Program} {w : World} {A : Around} {E : Value → Shared → Prop} {s : Shared}
set_option maxRecDepth 100000 in
end

section
variable {X : Cx}
end
end L2

namespace L2
open PySem PySem.Spec PyProof.Rows

/-! ### the library's walks over a list of ints, kept objects alone -/
section
variable {prog : Program} {w : World} {A : Around} {E : Value → Shared → Prop} {s : Shared} {l : Addr} {its : List Value} {ns : List Int} {Q : Value → Shared → Prop}
end

/-! ### the calls, by values (CallR of 03t; MtR of 06l) -/
section
variable {X : Cx}
/-! sorted, sort (fewer than 64 items: the library's own bound) -/
end

/-! ### list.index, flat items -/
section
variable {X : Cx}
def rIndex (K : PySem.W.Frag) : V → List V → Hp → VK → Prop := fun x xs H Q => ∃ (a : Addr) (ys : List V) (y : V) (j : Nat) (z : V), x = V.ref a ∧ xs = [y] ∧ SqL K H a ys ∧ flatV y = true ∧ ys.all flatV = true ∧ ys[j]? = some z ∧ eqV z y = true ∧
  (∀ (m : Nat) (z' : V), m < j → ys[m]? = some z' → eqV z' y = false) ∧ Q (.int (j : Nat)) H
theorem flat_at {ys : List V} (f : ys.all flatV = true) {j : Nat} {z : V} (h : ys[j]? = some z) : flatV z = true := List.all_eq_true.mp f z (List.mem_of_getElem? h)
theorem mt_index : MtR X "list.index" (rIndex X.K) := by
  intro pins s σ H x xs v us Q I rx rxs h
  obtain ⟨a, ys, y, j, z, rfl, rfl, hs, fy, fys, hz, hzj, hno, q⟩ := h
  cases rx
  cases rxs with
  | cons ry rt =>
    rename_i uy ut
    cases rt
    obtain ⟨its, rv, ⟨⟨cls, dd, data, sl⟩, n, ho, hc, hdn, hd⟩, hlen⟩ := I.list hs
    simp only at hc hd
    subst hc hd
    obtain ⟨u, hu, ru⟩ := rv.get hz
    obtain ⟨hjl, hje⟩ := List.getElem?_eq_some_iff.mp hu
    have hvl := rv.length
    have hj : j < its.toArray.size := by simpa using hjl
    have hsl := sizeLine_eq
    refine call_meets PySem.F.slot_list_index ⟨_, ho, rfl⟩ PySem.F.entry_list_index (PySem.F.args_list_index_2 _ _)
      (SeqAt.list_indexAt a its.toArray n dd sl uy (eqU y) j hj (by omega) ?_ ?_) ⟨ho, fun u' hu' => mem_eqAt ry fy rv fys u' (by simpa using hu'), ?_⟩
    · have e1 : its.toArray[j] = u := by simpa using hje
      rw [e1, eqU_of ru (flat_at fys hz)]
      exact hzj
    · intro m hm hmj
      have hml : m < its.length := by simpa using hm
      have hmy : m < ys.length := by omega
      have hy' : ys[m]? = some ys[m] := List.getElem?_eq_getElem hmy
      obtain ⟨u2, hu2, ru2⟩ := rv.get hy'
      obtain ⟨_, hme⟩ := List.getElem?_eq_some_iff.mp hu2
      have e1 : its.toArray[m] = u2 := by simpa using hme
      rw [e1, eqU_of ru2 (flat_at fys hy')]
      exact hno m _ hmj hy'
    · exact ⟨.int (j : Nat), H, I.tok _, ⟨_, rfl⟩, q⟩
end

/-! ### type(x) of an own instance; is, is not of a module's class -/
section
variable {X : Cx}
end

/-! ### any(xs), all(xs) of a list of bools -/
section
variable {X : Cx}
end

/-! ### == and != of data at any depth: none, bools, ints, texts, lists, tuples -/
mutual
inductive Dp (K : PySem.W.Frag) (H : Hp) : V → PyData → Prop
  | non : Dp K H .non .none
  | bl (b : Bool) : Dp K H (.bl b) (.bool b)
  | int (i : Int) : Dp K H (.int i) (.int i)
  | str (x : Str) : Dp K H (.str x) (.str x)
  | lst {a : Addr} {xs : List V} {ds : List PyData} : SqL K H a xs → DpAll K H xs ds → Dp K H (.ref a) (.list ds)
  | tup {a : Addr} {xs : List V} {ds : List PyData} : SqT K H a xs → DpAll K H xs ds → Dp K H (.ref a) (.tuple ds)
inductive DpAll (K : PySem.W.Frag) (H : Hp) : List V → List PyData → Prop
  | nil : DpAll K H [] []
  | cons {v : V} {vs : List V} {d : PyData} {ds : List PyData} : Dp K H v d → DpAll K H vs ds → DpAll K H (v :: vs) (d :: ds)
end
section
variable {X : Cx} {pins : List (Addr × Obj)} {σ : St} {H : Hp} {s : Shared}
mutual
theorem Dp.reads (I : Inv X pins σ H s) : ∀ (d : PyData) (v : V) (u : Value), Dp X.K H v d → RelV v u → ∃ as, Reads s.heap u d as
  | .none, _, _, h, r => by
    cases h
    cases r
    exact ⟨_, Reads.none⟩
  | .bool b, _, _, h, r => by
    cases h
    cases r
    exact ⟨_, Reads.bool b⟩
  | .int i, _, _, h, r => by
    cases h
    obtain ⟨t, rfl⟩ := r
    exact ⟨_, Reads.int i t⟩
  | .str x, _, _, h, r => by
    cases h
    obtain ⟨t, rfl⟩ := r
    exact ⟨_, Reads.str x t⟩
  | .list ds, _, _, h, r => by
    cases h with
    | lst hs ha =>
      cases r
      obtain ⟨its, rv, ⟨o, n, ho, hc, _, hd⟩, _⟩ := I.list hs
      obtain ⟨as, hr⟩ := Dp.readsAll I ds _ its ha rv
      exact ⟨_, Reads.list ho hc hd hr⟩
  | .tuple ds, _, _, h, r => by
    cases h with
    | tup hs ha =>
      cases r
      obtain ⟨its, rv, ⟨o, ho, hc, n, hd⟩, _⟩ := I.tuple hs
      obtain ⟨as, hr⟩ := Dp.readsAll I ds _ its ha rv
      exact ⟨_, Reads.tuple ho hc hd hr⟩
  | .dict _, _, _, h, _ => by cases h
theorem Dp.readsAll (I : Inv X pins σ H s) : ∀ (ds : List PyData) (vs : List V) (us : List Value), DpAll X.K H vs ds → Vals vs us → ∃ as, ReadsAll s.heap us ds as
  | [], _, _, h, r => by
    cases h
    cases r
    exact ⟨_, ReadsAll.nil⟩
  | d :: ds, _, _, h, r => by
    cases h with
    | cons h1 h2 =>
      cases r with
      | cons r1 r2 =>
        obtain ⟨as, q1⟩ := Dp.reads I d _ _ h1 r1
        obtain ⟨bs, q2⟩ := Dp.readsAll I ds _ _ h2 r2
        exact ⟨_, ReadsAll.cons q1 q2⟩
end
end
section
variable {X : Cx}
def rEqD (K : PySem.W.Frag) : R2 := fun x y H Q => ∃ d e, Dp K H x d ∧ Dp K H y e ∧ SeqAt.shaped d = true ∧ SeqAt.shaped e = true ∧ Q (.bl (PyData.eqv d e)) H
theorem op_eqD (hu : X.A.units + 64 < cLine) : OpR X (compareOp .Eq) (rEqD X.K) := by
  intro pins s σ H x y v u Q I rx ry h
  obtain ⟨d, e, hd, he, sd, se, q⟩ := h
  obtain ⟨as, r1⟩ := Dp.reads I d x v hd rx
  obtain ⟨bs, r2⟩ := Dp.reads I e y u he ry
  exact SeqAt.compareEq_shaped r1 r2 sd se hu ⟨.bl _, H, I, rfl, q⟩
end
end L2

namespace L2
open PySem PySem.Spec PyProof.Rows
abbrev CellAt (h : Heap) (c : Addr) (v : Option Value) : Prop := h.IsCell c v
def relS (scope sc : Scope) : Scope :=
  { scope with names := scope.names.map fun (n, k) => if (k == .free && sc.kind == .function && sc.names.lookup n == some .cell) then (n, .cell) else (n, k) }

def cloFrom (cells : List (Str × Addr)) : List (Str × NameKind) → List (Str × Addr) → List (Str × Addr)
  | [], acc => acc
  | (n, k) :: r, acc => if k == .free then cloFrom cells r ((n, (cells.lookup n).getD 0) :: acc) else cloFrom cells r acc

theorem closure_loop (env : Env) (f : Str × NameKind → List (Str × Addr) → Sem (ForInStep (List (Str × Addr))))
    (hf : ∀ n k c, f (n, k) c = if k == .free then (do let a ← cellOf env n; pure (.yield ((n, a) :: c))) else pure (.yield c)) :
    ∀ (names : List (Str × NameKind)) (acc : List (Str × Addr)), (∀ y ∈ names, y.2 = .free → ∃ c, env.cells.lookup y.1 = some c) → forIn names acc f = pure (cloFrom env.cells names acc)
  | [], acc, _ => by rw [List.forIn_nil]; rfl
  | (n, k) :: r, acc, h => by
    rw [List.forIn_cons, hf]
    have ih := fun acc => closure_loop env f hf r acc fun y hy => h y (List.mem_cons_of_mem _ hy)
    unfold cloFrom
    by_cases hk : (k == NameKind.free) = true
    · rw [if_pos hk, if_pos hk]
      obtain ⟨c, hc⟩ := h (n, k) List.mem_cons_self (by simpa using hk)
      have e : cellOf env n = pure c := by unfold cellOf; rw [hc]
      rw [e]
      have e2 : (env.cells.lookup n).getD 0 = c := by rw [hc]; rfl
      rw [e2]
      exact ih _
    · rw [if_neg hk, if_neg hk]
      exact ih _
theorem closure_ok {scope : Scope} {env : Env} (h : ∀ y ∈ scope.names, y.2 = .free → ∃ c, env.cells.lookup y.1 = some c) : closureFor scope env = pure (cloFrom env.cells scope.names []) := by
  simp only [closureFor]
  rw [closure_loop env _ (fun n k c => rfl) scope.names [] h]
  rfl

theorem mem_lookup {α : Type} : ∀ {l : List (Str × α)} {n : Str} {c : α}, (n, c) ∈ l → ∃ c', l.lookup n = some c'
  | (k, v) :: r, n, c, h => by
    rw [List.lookup_cons]
    cases hb : n == k with
    | true => exact ⟨_, rfl⟩
    | false =>
      rcases List.mem_cons.mp h with e | h
      · cases e; simp at hb
      · exact mem_lookup h

theorem cloFrom_mem {cells : List (Str × Addr)} : ∀ {names : List (Str × NameKind)} {acc : List (Str × Addr)} {n : Str} {c : Addr}, (n, c) ∈ cloFrom cells names acc → (n, c) ∈ acc ∨ ((n, .free) ∈ names ∧ c = (cells.lookup n).getD 0)
  | [], _, _, _, h => .inl h
  | (m, k) :: r, acc, n, c, h => by
    unfold cloFrom at h
    split at h
    · rename_i hk
      have hk : k = .free := by simpa using hk
      rcases cloFrom_mem h with h | ⟨h1, h2⟩
      · rcases List.mem_cons.mp h with e | h
        · cases e; exact .inr ⟨hk ▸ List.mem_cons_self, rfl⟩
        · exact .inl h
      · exact .inr ⟨List.mem_cons_of_mem _ h1, h2⟩
    · rcases cloFrom_mem h with h | ⟨h1, h2⟩
      · exact .inl h
      · exact .inr ⟨List.mem_cons_of_mem _ h1, h2⟩
theorem cloFrom_acc {cells : List (Str × Addr)} : ∀ {names : List (Str × NameKind)} {acc : List (Str × Addr)} {p : Str × Addr}, p ∈ acc → p ∈ cloFrom cells names acc
  | [], _, _, h => h
  | (m, k) :: r, acc, p, h => by
    unfold cloFrom
    split
    · exact cloFrom_acc (List.mem_cons_of_mem _ h)
    · exact cloFrom_acc h
theorem cloFrom_has {cells : List (Str × Addr)} : ∀ {names : List (Str × NameKind)} {acc : List (Str × Addr)} {n : Str}, (n, .free) ∈ names → (n, (cells.lookup n).getD 0) ∈ cloFrom cells names acc
  | (m, k) :: r, acc, n, h => by
    unfold cloFrom
    rcases List.mem_cons.mp h with e | h
    · cases e
      exact cloFrom_acc List.mem_cons_self
    · split
      · exact cloFrom_has h
      · exact cloFrom_has h

theorem cells_mem : ∀ {names : List (Str × NameKind)} {h : Heap} {acc : List (Str × Addr)} {x : Str} {c : Addr}, (x, c) ∈ cellsFrom h.objs.size names acc →
    (x, c) ∈ acc ∨ ((x, .cell) ∈ names ∧ h.objs.size ≤ c ∧ CellAt (pushCells h names) c none)
  | [], _, _, _, _, h => .inl h
  | (n, k) :: r, h, acc, x, c, hm => by
    unfold cellsFrom at hm
    unfold pushCells
    split at hm
    · rename_i hk
      rw [if_pos hk]
      have hk : k = .cell := by simpa using hk
      rw [← Heap.size_push h { cls := .type "cell", data := .cell none }] at hm
      rcases cells_mem hm with hm | ⟨h1, h2, h3⟩
      · rcases List.mem_cons.mp hm with e | hm
        · cases e
          exact .inr ⟨hk ▸ List.mem_cons_self, Nat.le_refl _, _, pushCells_keeps r _ _ _ (Heap.get?_push_size _ rfl), rfl⟩
        · exact .inl hm
      · rw [Heap.size_push] at h2
        exact .inr ⟨List.mem_cons_of_mem _ h1, Nat.le_of_succ_le h2, h3⟩
    · rename_i hk
      rw [if_neg hk]
      rcases cells_mem hm with hm | ⟨h1, h2, h3⟩
      · exact .inl hm
      · exact .inr ⟨List.mem_cons_of_mem _ h1, h2, h3⟩
theorem cells_acc : ∀ {names : List (Str × NameKind)} {n : Nat} {acc : List (Str × Addr)} {p : Str × Addr}, p ∈ acc → p ∈ cellsFrom n names acc
  | [], _, _, _, h => h
  | (m, k) :: r, n, acc, p, h => by
    unfold cellsFrom
    split
    · exact cells_acc (List.mem_cons_of_mem _ h)
    · exact cells_acc h
theorem cells_has : ∀ {names : List (Str × NameKind)} {n : Nat} {acc : List (Str × Addr)} {x : Str}, (x, .cell) ∈ names → ∃ c, (x, c) ∈ cellsFrom n names acc
  | (m, k) :: r, n, acc, x, h => by
    unfold cellsFrom
    rcases List.mem_cons.mp h with e | h
    · cases e
      exact ⟨n, cells_acc List.mem_cons_self⟩
    · split
      · exact cells_has h
      · exact cells_has h
theorem cells_inj : ∀ {names : List (Str × NameKind)} {h : Heap} {acc : List (Str × Addr)} {x y : Str} {c : Addr}, (∀ p ∈ acc, p.2 < h.objs.size) → (∀ x y c, (x, c) ∈ acc → (y, c) ∈ acc → x = y) →
    (x, c) ∈ cellsFrom h.objs.size names acc → (y, c) ∈ cellsFrom h.objs.size names acc → x = y
  | [], _, _, _, _, _, _, hi, h1, h2 => hi _ _ _ h1 h2
  | (n, k) :: r, h, acc, x, y, c, hl, hi, h1, h2 => by
    unfold cellsFrom at h1 h2
    split at h1
    · rename_i hk
      rw [if_pos hk] at h2
      rw [← Heap.size_push h { cls := .type "cell", data := .cell none }] at h1 h2
      refine cells_inj (h := h.push _) (fun p hp => ?_) (fun x y c a b => ?_) h1 h2
      · rw [Heap.size_push]
        rcases List.mem_cons.mp hp with rfl | hp
        · exact Nat.lt_succ_self _
        · exact Nat.lt_succ_of_lt (hl p hp)
      · rcases List.mem_cons.mp a with e | a <;> rcases List.mem_cons.mp b with e' | b
        · cases e; cases e'; rfl
        · cases e; exact absurd (hl _ b) (Nat.lt_irrefl _)
        · cases e'; exact absurd (hl _ a) (Nat.lt_irrefl _)
        · exact hi _ _ _ a b
    · rename_i hk
      rw [if_neg hk] at h2
      exact cells_inj hl hi h1 h2

theorem newEnv_comp {M : Model} {A : Around} {E : Value → Shared → Prop} {s : Shared} {scope : Scope} {globals : Addr} {closure : List (Str × Addr)} {qual : Str} {func : Option Addr} {code : Value} {around : Env} {builtins : Addr} {Q : Env → Shared → Prop}
    (h : Q (newEnv scope s.heap.objs.size globals (cellsFrom (s.heap.objs.size + 1) scope.names closure) qual func code (some around) builtins)
      { s with heap := pushCells (s.heap.push { cls := .type "dict", data := .dict #[] }) scope.names }) :
    wpAny M A (newFunctionEnv scope globals closure [] qual func code (some around) builtins) Q E s := by
  simp only [newFunctionEnv, Option.isSome_some, if_true]
  refine wpAny_bind (wpAny_alloc ?_)
  refine wpAny_bind (wpAny_layCells _ (fun n k c => rfl) scope.names closure _ _ ?_)
  rw [show ({ s with heap := s.heap.push { cls := .type "dict", data := .dict #[] } } : Shared).heap.objs.size = s.heap.objs.size + 1 from Heap.size_push ..]
  rw [List.forIn_nil]
  exact wpAny_bind (wpAny_pure (wpAny_pure h))

/-- every name of the written scope, in the scope that runs -/
theorem lookup_relS {sc : Scope} : ∀ {names : List (Str × NameKind)} {x : Str} {k : NameKind},
    (names.map fun (n, k) => if (k == NameKind.free && sc.kind == .function && sc.names.lookup n == some .cell) then (n, NameKind.cell) else (n, k)).lookup x = some k →
    ∃ k', names.lookup x = some k' ∧ (k = k' ∨ (k' = .free ∧ k = .cell))
  | [], _, _, h => by simp at h
  | (n, k₀) :: r, x, k, h => by
    have ih := @lookup_relS sc r x k
    have h' : List.lookup x ((if (k₀ == NameKind.free && sc.kind == .function && sc.names.lookup n == some .cell) = true then (n, NameKind.cell) else (n, k₀)) :: (r.map _)) = some k := h
    cases hx : x == n with
    | true =>
      simp only [List.lookup_cons, hx]
      by_cases hc : (k₀ == NameKind.free && sc.kind == .function && sc.names.lookup n == some .cell) = true
      · rw [if_pos hc] at h'
        simp only [List.lookup_cons, hx] at h'
        cases h'
        simp only [Bool.and_eq_true, beq_iff_eq] at hc
        exact ⟨k₀, rfl, .inr ⟨hc.1.1, rfl⟩⟩
      · rw [if_neg hc] at h'
        simp only [List.lookup_cons, hx] at h'
        cases h'
        exact ⟨_, rfl, .inl rfl⟩
    | false =>
      simp only [List.lookup_cons, hx]
      by_cases hc : (k₀ == NameKind.free && sc.kind == .function && sc.names.lookup n == some .cell) = true
      · rw [if_pos hc] at h'
        simp only [List.lookup_cons, hx] at h'
        exact ih h'
      · rw [if_neg hc] at h'
        simp only [List.lookup_cons, hx] at h'
        exact ih h'
/-- the names of a comprehension's block: its own (with their places in N), or captured -/
structure BlkOk (N : List Str) (sc scope : Scope) (own : List (Str × Nat)) : Prop where
  kind : scope.kind = .function
  uniq : ∀ y ∈ scope.names, scope.names.lookup y.1 = some y.2
  ix : ∀ p ∈ own, N[p.2]? = some p.1
  free : ∀ y ∈ scope.names, y.2 = .free → sc.names.lookup y.1 = some .cell ∨ sc.names.lookup y.1 = some .free
  own : ∀ y ∈ scope.names, y.2 = .local ∨ y.2 = .cell → y.1 ∈ own.map (·.1) ∨ y.1 ∉ N
/-- the slots of the block's own names forgotten -/
def wipe (σ : St) : List Nat → St
  | [] => σ
  | v :: vs => (wipe σ vs).set v none
theorem wipe_length (σ : St) : ∀ vs : List Nat, (wipe σ vs).length = σ.length
  | [] => rfl
  | v :: vs => by unfold wipe; rw [List.length_set, wipe_length σ vs]
theorem wipe_some {σ : St} {i : Nat} {x : V} : ∀ {vs : List Nat}, (wipe σ vs)[i]? = some (some x) → σ[i]? = some (some x) ∧ i ∉ vs
  | [], h => ⟨h, by simp⟩
  | v :: vs, h => by
    unfold wipe at h
    by_cases hi : v = i
    · subst hi
      by_cases hv : v < (wipe σ vs).length
      · rw [List.getElem?_set_self hv] at h; cases h
      · rw [List.getElem?_eq_none (by simpa using hv)] at h; cases h
    · rw [List.getElem?_set_ne hi] at h
      obtain ⟨h1, h2⟩ := wipe_some h
      exact ⟨h1, by simp only [List.mem_cons, not_or]; exact ⟨fun e => hi e.symm, h2⟩⟩

/-- the context of a block that starts at s, its iterator's objects at fp -/
abbrev Cx.blk (X : Cx) (s : Shared) (H : Hp) (scope : Scope) (cenv : Env) (fp : List Addr) : Cx := { X with s_0 := s, H_0 := H, env := cenv, outer := X.stack, ex := fp, fn := fun x => scope.names.lookup x == some .cell, pn := [], xe := fun _ _ => False }
section
variable {X : Cx} {pins : List (Addr × Obj)} {σ : St} {H : Hp} {s : Shared}
theorem block_start {scope : Scope} {own : List (Str × Nat)} {fp : List Addr} (I : Inv X pins σ H s) (ok : BlkOk X.N X.env.scope scope own) (hN : X.N.Nodup) (hfp : ∀ b ∈ fp, FpOk X pins H b ∧ b < s.heap.objs.size) :
    Inv (X.blk s H scope (compEnvC scope (cellsFrom (s.heap.objs.size + 1) scope.names (cloFrom X.env.cells scope.names [])) s.heap.objs.size X.env) fp) [] (wipe σ (own.map (·.2))) H { s with heap := pushCells (s.heap.push { cls := .type "dict", data := .dict #[] }) scope.names } := by
  have hfree : ∀ y ∈ scope.names, y.2 = .free → ∃ c, X.env.cells.lookup y.1 = some c := fun y hy e => by
    rcases ok.free y hy e with k | k
    · exact I.ok.has _ (.inl k)
    · exact I.ok.has _ (.inr k)
  generalize hcenv : compEnvC scope (cellsFrom (s.heap.objs.size + 1) scope.names (cloFrom X.env.cells scope.names [])) s.heap.objs.size X.env = cenv
  have kp : ∀ b o, s.heap.get? b = some o → (pushCells (s.heap.push { cls := .type "dict", data := .dict #[] }) scope.names).get? b = some o := fun b o e => pushCells_keeps _ _ _ _ (Heap.get?_push_of_some _ e)
  have hL : cenv.locals = s.heap.objs.size := by rw [← hcenv]; rfl
  have hcl : cenv.cells = cellsFrom (s.heap.objs.size + 1) scope.names (cloFrom X.env.cells scope.names []) := by rw [← hcenv]; rfl
  have hsc : cenv.scope = relS scope X.env.scope := by rw [← hcenv]; rfl
  rw [← Heap.size_push s.heap { cls := .type "dict", data := .dict #[] }] at hcl
  have cm : ∀ {y c}, (y, c) ∈ cloFrom X.env.cells scope.names [] → X.env.cells.lookup y = some c ∧ c < s.heap.objs.size := fun {y c} hm => by
    rcases cloFrom_mem hm with hm | ⟨h1, rfl⟩
    · cases hm
    · obtain ⟨c, hc⟩ := hfree _ h1 rfl
      rw [hc]
      obtain ⟨w, z⟩ := I.cell _ _ hc
      exact ⟨rfl, z.lt⟩
  have mem : ∀ {y c}, cenv.cells.lookup y = some c → (X.env.cells.lookup y = some c ∧ c < s.heap.objs.size) ∨ (s.heap.objs.size + 1 ≤ c ∧ CellAt (pushCells (s.heap.push { cls := .type "dict", data := .dict #[] }) scope.names) c none) := fun {y c} e => by
    rw [hcl] at e
    rcases cells_mem (PySem.mem_of_lookup e) with hm | ⟨_, h2, h3⟩
    · exact .inl (cm hm)
    · rw [Heap.size_push] at h2; exact .inr ⟨h2, h3⟩
  have look : ∀ {y}, scope.names.lookup y = some .free → ∃ c, cenv.cells.lookup y = some c ∧ X.env.cells.lookup y = some c := fun {y} hl => by
    have hy : (y, NameKind.free) ∈ scope.names := PySem.mem_of_lookup hl
    obtain ⟨c', e'⟩ := mem_lookup (cells_acc (names := scope.names) (n := (s.heap.push { cls := .type "dict", data := .dict #[] }).objs.size) (cloFrom_has (cells := X.env.cells) (acc := []) hy))
    rw [← hcl] at e'
    refine ⟨c', e', ?_⟩
    rw [hcl] at e'
    rcases cells_mem (PySem.mem_of_lookup e') with hm | ⟨h1, _, _⟩
    · exact (cm hm).1
    · have := ok.uniq _ h1
      rw [hl] at this; cases this
  have okB : (X.blk s H scope cenv fp).Ok := by
    refine ⟨I.ok.mod, by show cenv.scope.kind = _; rw [hsc]; exact ok.kind, by show cenv.globals = _; rw [← hcenv]; exact I.ok.glob, by show cenv.builtins = _; rw [← hcenv]; exact I.ok.blt, by show s.heap.objs.size ≤ cenv.locals; rw [hL]; exact Nat.le_refl _,
      fun y z c e1 e2 => ?_, fun y hy => ?_, fun y c z e => ?_, I.ok.hd, I.ok.frames, .inl rfl, fun b hb => ⟨?_, fun y c e z => ?_⟩, I.bs, Nat.le_trans I.ok.bsz I.sz, fun b o e hb => ?_, fun b hb z => ?_, I.stack, I.stkFree⟩
    · have e1 : cenv.cells.lookup y = some c := e1
      have e2 : cenv.cells.lookup z = some c := e2
      rw [hcl] at e1 e2
      refine cells_inj (fun p hp => ?_) (fun y z c a b => I.ok.inj y z c (cm a).1 (cm b).1) (PySem.mem_of_lookup e1) (PySem.mem_of_lookup e2)
      rw [Heap.size_push]
      exact Nat.lt_succ_of_lt (cm (y := p.1) (c := p.2) hp).2
    · show ∃ c, cenv.cells.lookup y = some c
      have key : ∀ k, cenv.kindOf y = some k → (k = .cell ∨ k = .free) → ∃ c, cenv.cells.lookup y = some c := fun k hk hk' => by
        unfold Env.kindOf at hk
        rw [hsc] at hk
        obtain ⟨k', e, r⟩ := lookup_relS hk
        have : k' = .cell ∨ k' = .free := by
          rcases r with rfl | ⟨rfl, _⟩
          · exact hk'
          · exact .inr rfl
        rcases this with rfl | rfl
        · obtain ⟨c, hm⟩ := cells_has (n := (s.heap.push { cls := .type "dict", data := .dict #[] }).objs.size) (acc := cloFrom X.env.cells scope.names []) (PySem.mem_of_lookup e)
          obtain ⟨c', e'⟩ := mem_lookup hm
          exact ⟨c', by rw [hcl]; exact e'⟩
        · obtain ⟨c, h1, _⟩ := look e
          exact ⟨c, h1⟩
      rcases hy with hy | hy
      · exact key _ hy (.inl rfl)
      · exact key _ hy (.inr rfl)
    · have z : (scope.names.lookup y == some NameKind.cell) = true := z
      have z : scope.names.lookup y = some .cell := by simpa using z
      have e : cenv.cells.lookup y = some c := e
      rw [hcl] at e
      rcases cells_mem (PySem.mem_of_lookup e) with hm | ⟨_, h2, _⟩
      · rcases cloFrom_mem hm with hm | ⟨h1, _⟩
        · cases hm
        · have q := ok.uniq _ h1
          rw [z] at q; cases q
      · rw [Heap.size_push] at h2
        exact Nat.le_of_succ_le h2
    · show b ≠ cenv.locals
      rw [hL]; exact Nat.ne_of_lt (hfp b hb).2
    · have e : cenv.cells.lookup y = some c := e
      rcases mem e with ⟨h1, _⟩ | ⟨h1, _⟩
      · exact (hfp b hb).1.2.2.2.2.1 y c h1 z
      · have h2 : s.heap.objs.size + 1 ≤ b := by rw [← z]; exact h1
        exact absurd (Nat.lt_of_lt_of_le (hfp b hb).2 (Nat.le_of_succ_le h2)) (Nat.lt_irrefl _)
    · rcases (hfp b hb).1.2.2.2.1 with z | z
      · exact I.ok.noex b o e z
      · exact absurd (Nat.lt_of_lt_of_le (Heap.lt_size e) (Nat.le_trans I.ok.bsz z)) (Nat.lt_irrefl _)
    · rcases List.mem_cons.mp (I.stkSub b z) with z | z
      · exact (hfp b hb).1.2.1 z
      · exact (hfp b hb).1.2.2.1 z
  refine ⟨okB, rfl, I.bare, Un.kept kp, ⟨fun _ => none, ?_, fun i y av e1 e2 e3 => ?_⟩, fun y c e => ?_, ?_, fun y c e => ?_, fun p hp => ?_, I.hok.kept kp, by rw [wipe_length]; exact I.len⟩
  · show Heap.Ns _ cenv.locals _
    rw [hL]
    exact Heap.Ns.keeps (Heap.Ns.new ..) fun b o e => pushCells_keeps _ _ _ _ e
  · obtain ⟨e2, hne⟩ := wipe_some e2
    have hfr : scope.names.lookup y = some .free ∧ (cenv.kindOf y = some .cell ∨ cenv.kindOf y = some .free) := by
      have key : ∀ k, cenv.scope.names.lookup y = some k → k = .local ∨ k = .cell ∨ k = .free → scope.names.lookup y = some .free ∧ (cenv.kindOf y = some .cell ∨ cenv.kindOf y = some .free) := fun k hk hk' => by
        have hk0 := hk
        rw [hsc] at hk
        obtain ⟨k', e, r⟩ := lookup_relS hk
        have no : ¬ (k' = .local ∨ k' = .cell) := fun hh => by
          rcases ok.own _ (PySem.mem_of_lookup e) hh with e' | e'
          · obtain ⟨p, hp, hpy⟩ := List.mem_map.mp e'
            have e3 := ok.ix p hp
            have : p.1 = y := hpy
            rw [this] at e3
            exact hne (List.mem_map.mpr ⟨p, hp, nodup_ix hN e3 e1⟩)
          · exact e' (List.mem_of_getElem? e1)
        rcases r with rfl | ⟨rfl, rfl⟩
        · rcases hk' with rfl | rfl | rfl
          · exact absurd (.inl rfl) no
          · exact absurd (.inr rfl) no
          · exact ⟨e, .inr hk0⟩
        · exact ⟨e, .inl hk0⟩
      have e3 : Vis cenv.scope y := e3
      rcases e3 with e3 | e3 | e3
      · exact key _ e3 (.inl rfl)
      · exact key _ e3 (.inr (.inl rfl))
      · exact key _ e3 (.inr (.inr rfl))
    obtain ⟨m, hn, hl⟩ := I.loc
    have hvis : Vis X.env.scope y := (ok.free _ (PySem.mem_of_lookup hfr.1) rfl).elim (fun k => .inr (.inl k)) (fun k => .inr (.inr k))
    obtain ⟨w, r, q⟩ := hl i y av e1 e2 hvis
    refine ⟨w, r, .inr ⟨hfr.2, ?_⟩⟩
    obtain ⟨c, h1, h2⟩ := look hfr.1
    rcases q with ⟨k, _⟩ | ⟨_, c', e', z⟩
    · have k : X.env.scope.names.lookup y = some .local := k
      rcases ok.free _ (PySem.mem_of_lookup hfr.1) rfl with k' | k' <;> rw [show X.env.scope.names.lookup y = _ from k'] at k <;> cases k
    · rw [h2] at e'; cases e'
      exact ⟨c, h1, z.keeps kp⟩
  · have e : cenv.cells.lookup y = some c := e
    rcases mem e with ⟨h1, _⟩ | ⟨_, z⟩
    · obtain ⟨w, z⟩ := I.cell y c h1
      exact ⟨w, z.keeps kp⟩
    · exact ⟨_, z⟩
  · show H cenv.locals = none
    rw [hL]; exact I.hok.fresh (Nat.le_refl _)
  · have e : cenv.cells.lookup y = some c := e
    rcases mem e with ⟨h1, _⟩ | ⟨h1, _⟩
    · exact I.freeC y c h1
    · exact I.hok.fresh (Nat.le_of_succ_le h1)
  · exact absurd (show p ∈ ([] : List (Addr × Obj)) ++ [] from hp) (by simp)

/-- an item appended to a tracked list -/
theorem app_ok {E : Value → Shared → Prop} {D : Addr} {xs : List V} {y : V} {v : Value} {Q : Value → Shared → Prop} (I : Inv X pins σ H s) (hD : H D = some (.lst xs)) (hz : xs.length < sizeLine) (r : RelV y v)
    (h : ∀ s', Inv X pins σ (upd H D (.lst (xs ++ [y]))) s' → Q .none s') : wpAny (model X.prog X.w) X.A (call (.builtin "list.append") [.ref D, v]) Q E s := by
  obtain ⟨hz', its, n, ri, e⟩ := I.hok D _ hD
  have hl := ri.length
  refine append_at (hsz := by rw [List.size_toArray]; omega) e fun h' sb ho' => ?_
  refine h { s with heap := h' } (I.write (t' := s.toks) (by rw [hD]; trivial) (.inl rfl) (fun b u hb q => (sb.2 b hb).trans q) ⟨_, ho'⟩ ⟨by rw [List.length_append]; exact hz, its ++ [v], n + 1, ri.append (.cons r .nil), ?_⟩)
  rw [ho']
  simp

/-- a clause's tests -/
def PTs (X : Cx) (ifs : List Expr) (t : TT) : Prop :=
  ∀ (pins : List (Addr × Obj)) (s : Shared) (σ : St) (H : Hp) (Q : Bool → Hp → Prop), Inv X pins σ H s → t σ H Q →
    wpAny (model X.prog X.w) X.A (forIn ifs true fun c r => if r = true then do let ok ← isTrue c X.env (eval c X.env); pure (ForInStep.yield ok) else pure (ForInStep.yield r)) (TP X pins σ Q) X.xe s
def tYes : TT := fun _ H Q => Q true H
theorem pts_nil : PTs X [] tYes := fun _ _ _ H _ I h => wpAny_tests_nil ⟨H, I, h⟩
theorem pts_one {c : Expr} {t : TT} (h : PT X c t) : PTs X [c] t := fun pins s σ H Q I hw => wpAny_tests_one (h pins s σ H Q I hw)
end

theorem thnF {α : Type} {t : Sem α} {Q Q' : α → Shared → Prop} {M : Model} {A : Around} {E : Value → Shared → Prop} {s : Shared} (h : wpAny M A t Q (fun _ _ => False) s) (hQ : ∀ a s, Q a s → Q' a s) : wpAny M A t Q' E s := wpAny_mono h hQ fun _ _ z => False.elim z

/-- the loop of a list comprehension's block, the target of any form (codeAny_compLoop_tests asks a target that no tuple goes to; statement and proof follow it, PyProof/CompMap.lean:41-61, with the step letOwnedTupleGo kept) -/
theorem compLoop_any {prog : Program} {w : World} {A : Around} {R : Result → Shared → Prop} {s : Shared} {elt target iter : Expr} {ifs : List Expr} {scope : Scope} {pos : Pos} {it acc : Value} {env : Env} (I : Nat → Shared → Prop)
    (turn : ∀ n s, I n s → wpAny (model prog w) A (pyNext it) (fun r s₁ => match r with
      | none => R (.ok .next) s₁
      | some v => wpAny (model prog w) A (letOwnedTupleGo target it v) (fun _ s₁' => wpAny (model prog w) A (assign target env v) (fun _ s₂ =>
          wpAny (model prog w) A (forIn ifs true fun c r => if r = true then do let ok ← isTrue c env (eval c env); pure (ForInStep.yield ok) else pure (ForInStep.yield r)) (fun ok s₃ =>
            if ok = true then wpAny (model prog w) A (eval elt env) (fun x s₄ =>
              wpAny (model prog w) A (call (.builtin "list.append") [acc, x]) (fun _ s₅ => ∃ m, m < n ∧ I m s₅) (notedBy (model prog w) A env fun e s' => R (.error e) s') s₄) (notedBy (model prog w) A env fun e s' => R (.error e) s') s₃
            else ∃ m, m < n ∧ I m s₃) (notedBy (model prog w) A env fun e s' => R (.error e) s') s₂) (notedBy (model prog w) A env fun e s' => R (.error e) s') s₁') (notedBy (model prog w) A env fun e s' => R (.error e) s') s₁) (notedBy (model prog w) A env fun e s' => R (.error e) s') s)
    (n : Nat) (h : I n s) :
    codeAny (model prog w) A (.compLoop (.ListComp elt [⟨target, iter, ifs, 0⟩] scope pos) 0 it acc env) R s := by
  refine codeAny_loop rfl I (fun n s hI => ?_) n h
  show wpAny _ A ((compTurn (.ListComp elt [⟨target, iter, ifs, 0⟩] scope pos) 0 it acc env).onRaise (fun x => do noteFrame x env; theTreesLotGoes x)) _ _ s
  refine wpAny_noted ?_
  rw [compTurn_list]
  refine wpAny_bind (wpAny_standAt (wpAny_bind (wpAny_mono (turn n s hI) (fun r s₁ h₁ => ?_) fun _ _ h' => h')))
  cases r with
  | none => exact wpAny_pure h₁
  | some v =>
    refine wpAny_bind (wpAny_mono h₁ (fun _ s₁' h₁' => ?_) fun _ _ h' => h')
    refine wpAny_bind (wpAny_mono h₁' (fun _ s₂ h₂ => wpAny_bind (wpAny_mono h₂ (fun ok s₃ h₃ => ?_) fun _ _ h' => h')) fun _ _ h' => h')
    cases ok with
    | false => exact wpAny_pure ⟨rfl, h₃⟩
    | true =>
      exact wpAny_bind (wpAny_bind (wpAny_mono h₃ (fun x s₄ h₄ => wpAny_bind (wpAny_mono h₄ (fun _ s₅ h₅ => wpAny_pure (wpAny_pure ⟨rfl, h₅⟩)) fun _ _ h' => h')) fun _ _ h' => h'))

section
variable {X : Cx}
/-- [elt for target in iter if ..]: D the new list; W by the turn and a measure, Nx what a turn is to reach -/
def tLc (wi : TI) (g : TG) (tt : TT) (te : TE) (vs : List Nat) : TE := fun σ H Q => wi σ H fun J H1 => ∀ D, H1 D = none → ∃ W : Nat → Nat → Hp → Prop, (∃ m, W 0 m (upd H1 D (.lst []))) ∧ ∀ i m H, W i m H →
  (J.stop i H ∧ Q (.ref D) H) ∨ (J.go i H ∧ ∃ Nx : Hp → Prop, (∀ H', Nx H' → ∃ m', m' < m ∧ W (i + 1) m' H') ∧ ∀ x H', J.yld i H x H' → g x (wipe σ vs) H' fun σ2 H2 => wipe σ2 vs = wipe σ vs ∧ tt σ2 H2 fun b H3 =>
    if b = true then te σ2 H3 fun y H4 => ∃ acc, H4 D = some (.lst acc) ∧ acc.length < sizeLine ∧ Nx (upd H4 D (.lst (acc ++ [y]))) else Nx H3)
theorem lc_core {pins : List (Addr × Obj)} {s : Shared} {σ : St} {H : Hp} {Q : VK} {elt tg iter : Expr} {ifs : List Expr} {scope : Scope} {own : List (Str × Nat)} {pos pos' : Pos} {wi : TI} {g : TG} {tt : TT} {te : TE} {use : Option (Value → Sem Unit)} {Qf : Value → Shared → Prop}
    (hc : X.calm = true) (hN : X.N.Nodup) (I : Inv X pins σ H s) (hi : PI X tg iter wi) (ok : BlkOk X.N X.env.scope scope own)
    (hg : ∀ (s : Shared) (H : Hp) (C : Addr) (cl : List (Str × Addr)) (fp : List Addr), PG (X.blk s H scope (compEnvC scope cl C X.env) fp) tg g) (ht : ∀ (s : Shared) (H : Hp) (C : Addr) (cl : List (Str × Addr)) (fp : List Addr), PTs (X.blk s H scope (compEnvC scope cl C X.env) fp) ifs tt)
    (he : ∀ (s : Shared) (H : Hp) (C : Addr) (cl : List (Str × Addr)) (fp : List Addr), PE (X.blk s H scope (compEnvC scope cl C X.env) fp) elt te) (hs : ∀ x, foldedSetIterable iter X.env x = pure x)
    (h : tLc wi g tt te (own.map (·.2)) σ H Q)
    (hRR : ∀ D C s' m H', Inv X pins σ H' s' → Q (.ref D) H' → s'.heap.Ns C m → FpOk X pins H' C → compPost (model X.prog X.w) X.A X.xe use Qf (.ref D) C (.ok .next) s') :
    wpAny (model X.prog X.w) X.A (comprehension (.ListComp elt [⟨tg, iter, ifs, 0⟩] scope pos) scope X.env pos' (newList []) false (eval iter X.env) use) Qf X.xe s := by
  have hfree : ∀ y ∈ scope.names, y.2 = .free → ∃ c, X.env.cells.lookup y.1 = some c := fun y hy e => by
    rcases ok.free y hy e with k | k
    · exact I.ok.has _ (.inl k)
    · exact I.ok.has _ (.inr k)
  refine wpAny_comprehension_free (use := use) rfl hs (closure_ok hfree) ok.kind (fun y hy e => by rw [ok.uniq y hy, e])
    (thn (hi pins s σ H _ I h) fun xv s1 hx => thn hx fun itv s2 h2 => ?_)
  obtain ⟨it, fp, tn, J, H2, e, I2, T, st2, f2, q⟩ := h2
  subst e
  refine wpAny_newObj_type (newEnv_comp ?_) (by show 0 ≤ sizeLine; decide)
  generalize hD : s2.heap.objs.size = D
  have hDn : H2 D = none := I2.hok.fresh (Nat.le_of_eq hD)
  obtain ⟨W, ⟨m0, w0⟩, turn⟩ := q D hDn
  -- the new list
  generalize hs3 : ({ s2 with heap := s2.heap.push { cls := .type "list", data := .seq ([] : List Value).toArray } } : Shared) = s3
  have I3 : Inv X pins σ (upd H2 D (.lst [])) s3 := by
    rw [← hs3]
    refine I2.laid (t' := s2.toks) (fun b o e => Heap.get?_push_of_some _ e) (Nat.le_of_eq hD) ⟨Nat.zero_le _, [], 0, .nil, ?_⟩
    rw [← hD]
    exact Heap.get?_push_size _ rfl
  have h3 : s3.heap = s2.heap.push { cls := .type "list", data := .seq ([] : List Value).toArray } := by rw [← hs3]
  have sz : ∀ b ∈ fp, b < s2.heap.objs.size := fun b hb => by
    obtain ⟨o, e, _⟩ := T.obj _ _ st2 b hb
    exact Heap.lt_size e
  have f3 : ∀ b ∈ fp, FpOk X pins (upd H2 D (.lst [])) b ∧ b < s3.heap.objs.size := fun b hb => by
    have hlt := sz b hb
    refine ⟨⟨?_, (f2 b hb).2⟩, by rw [h3, Heap.size_push]; exact Nat.lt_succ_of_lt hlt⟩
    rw [upd_ne (by rw [← hD]; exact Nat.ne_of_lt hlt)]
    exact (f2 b hb).1
  have st3 : tn 0 s3.heap := T.keep _ _ _ st2 fun b _ o e => by rw [h3]; exact Heap.get?_push_of_some _ e
  have I4 := block_start I3 ok hN f3
  have pg := hg s3 (upd H2 D (.lst [])) s3.heap.objs.size (cellsFrom (s3.heap.objs.size + 1) scope.names (cloFrom X.env.cells scope.names [])) fp
  have pt := ht s3 (upd H2 D (.lst [])) s3.heap.objs.size (cellsFrom (s3.heap.objs.size + 1) scope.names (cloFrom X.env.cells scope.names [])) fp
  have pe := he s3 (upd H2 D (.lst [])) s3.heap.objs.size (cellsFrom (s3.heap.objs.size + 1) scope.names (cloFrom X.env.cells scope.names [])) fp
  show codeAny _ _ (.compStart (.ListComp elt [⟨tg, iter, ifs, 0⟩] scope pos) 0 (.ref it) (.ref D) (compEnvC scope (cellsFrom (s3.heap.objs.size + 1) scope.names (cloFrom X.env.cells scope.names [])) s3.heap.objs.size X.env)) (compPost (model X.prog X.w) X.A X.xe use Qf (.ref D) s3.heap.objs.size) { s3 with heap := pushCells (s3.heap.push { cls := .type "dict", data := .dict #[] }) scope.names }
  have nfp : ∀ b ∈ fp, (upd H2 D (.lst [])) b = none := fun b hb => (f3 b hb).1.1
  generalize hce : compEnvC scope (cellsFrom (s3.heap.objs.size + 1) scope.names (cloFrom X.env.cells scope.names [])) s3.heap.objs.size X.env = ce at I4 pg pt pe ⊢
  have cL : ce.locals = s3.heap.objs.size := by subst hce; rfl
  generalize hH3 : upd H2 D (.lst []) = H3 at I3 I4 pg pt pe w0 nfp f3
  generalize hs4 : ({ s3 with heap := pushCells (s3.heap.push { cls := .type "dict", data := .dict #[] }) scope.names } : Shared) = s4 at I4 ⊢
  have st4 : tn 0 s4.heap := T.keep _ _ _ st3 fun b _ o e => by rw [← hs4]; exact pushCells_keeps _ _ _ _ (Heap.get?_push_of_some _ e)
  have stat : ∀ {σ' : St} {H' : Hp} {s' : Shared}, Inv (X.blk s3 H3 scope ce fp) [] σ' H' s' → (∀ b ∈ fp, H' b = none) → ∀ b ∈ fp, FpOk (X.blk s3 H3 scope ce fp) [] H' b := fun {σ' H' s'} I' hn b hb =>
    ⟨hn b hb, (I'.ok.exf b hb).1, I'.ok.exfs b hb, .inl hb, fun x c e => (I'.ok.exf b hb).2 x c e, fun p hp => absurd (show p ∈ ([] : List (Addr × Obj)) ++ [] from hp) (by simp)⟩
  have loop : codeAny (model X.prog X.w) X.A (.compLoop (.ListComp elt [⟨tg, iter, ifs, 0⟩] scope pos) 0 (.ref it) (.ref D) ce) (compPost (model X.prog X.w) X.A X.xe use Qf (.ref D) s3.heap.objs.size) s4 := by
    refine compLoop_any (fun n s' => ∃ i H', Inv (X.blk s3 H3 scope ce fp) [] (wipe σ (own.map (·.2))) H' s' ∧ tn i s'.heap ∧ (∀ b ∈ fp, H' b = none) ∧ W i n H') ?_ m0 ⟨0, H3, I4, st4, nfp, w0⟩
    rintro n s5 ⟨i, H5, I5, st5, n5, w5⟩
    rcases turn i n H5 w5 with ⟨stop, qq⟩ | ⟨go, Nx, hNx, step⟩
    · have td := T.done (X.blk s3 H3 scope ce fp) rfl rfl rfl hc i [] s5 _ H5 (fun _ _ => False) I5 (stat I5 n5) st5 stop
      refine thnF td fun r s6 ⟨hr, I6⟩ => ?_
      subst hr
      -- back in the def's context
      have I7 : Inv X pins σ H5 s6 := I3.call' (ch := fp) I6.os I6.base I6.hok I6.bare fun b hb => ⟨(f3 b hb).1.2.2.2.1, (f3 b hb).1.2.1, (f3 b hb).1.2.2.2.2.1, (f3 b hb).1.2.2.2.2.2⟩
      have nC : H5 s3.heap.objs.size = none := by
        have z : H5 ce.locals = none := I6.free
        rw [cL] at z
        exact z
      obtain ⟨m, hn, _⟩ := I6.loc
      have hn : s6.heap.Ns ce.locals m := hn
      rw [cL] at hn
      exact hRR D s3.heap.objs.size s6 m H5 I7 qq hn (I3.fpOk (Nat.le_refl _) nC)
    · have ti := T.item (X.blk s3 H3 scope ce fp) rfl rfl rfl hc i [] s5 _ H5 (fun _ _ => False) I5 (stat I5 n5) st5 go
      refine thnF ti fun r s6 ⟨u, hr, h6⟩ => ?_
      subst hr
      refine thnF h6 fun _ s7 ⟨x, H7, I7, r7, y7, st7, n7⟩ => ?_
      have I7' := I7.pinned (stat I7 n7) (T.obj _ _ st7)
      refine thnF (pg _ s7 _ H7 x u _ I7' r7 (step x H7 y7)) fun _ s8 ⟨σ8, H8, I8, hw8, q8⟩ => ?_
      refine thnF (pt _ s8 σ8 H8 _ I8 q8) fun b s9 ⟨H9, I9, q9⟩ => ?_
      -- the turn's end
      have fin : ∀ {s' : Shared} {H' : Hp}, Inv (X.blk s3 H3 scope ce fp) ([] ++ pinsAt fp s7.heap) σ8 H' s' → Nx H' → ∃ m, m < n ∧ ∃ i H', Inv (X.blk s3 H3 scope ce fp) [] (wipe σ (own.map (·.2))) H' s' ∧ tn i s'.heap ∧ (∀ b ∈ fp, H' b = none) ∧ W i m H' := fun {s' H'} I' nx => by
        obtain ⟨m', hm, w'⟩ := hNx H' nx
        have pin' : ∀ b ∈ fp, ∀ o, s7.heap.get? b = some o → s'.heap.get? b = some o ∧ H' b = none := fun b hb o e =>
          let z := I'.pin (b, o) (List.mem_append_right _ (List.mem_append_right _ (mem_pinsAt hb e)))
          ⟨z.1, z.2.1⟩
        have hl : (wipe σ (own.map (·.2))).length = σ8.length := by rw [← hw8, wipe_length]
        refine ⟨m', hm, i + 1, H', (I'.unpinned (pins := [])).weak hl (fun j v e => ?_), T.keep _ _ _ st7 fun b hb o e => (pin' b hb o e).1, fun b hb => ?_, w'⟩
        · rw [← hw8] at e
          exact (wipe_some e).1
        · obtain ⟨o, e, _⟩ := T.obj _ _ st7 b hb
          exact (pin' b hb o e).2
      cases b with
      | false =>
        simp only [Bool.false_eq_true, if_false] at q9 ⊢
        exact fin I9 q9
      | true =>
        simp only [if_true] at q9 ⊢
        refine thnF (pe _ s9 σ8 H9 _ I9 q9) fun z s10 ⟨yv, H10, I10, r10, acc, hD10, hz10, nx⟩ => ?_
        exact app_ok (X := X.blk s3 H3 scope ce fp) I10 hD10 hz10 r10 fun s11 I11 => fin I11 nx
  exact codeAny_compStart_list loop (T.self X.A 0 _ _ _ st4 loop)
/-- as a value -/
theorem pe_lc {elt tg iter : Expr} {ifs : List Expr} {scope : Scope} {own : List (Str × Nat)} {pos : Pos} {wi : TI} {g : TG} {tt : TT} {te : TE} (hc : X.calm = true) (hN : X.N.Nodup) (hi : PI X tg iter wi) (ok : BlkOk X.N X.env.scope scope own)
    (hg : ∀ (s : Shared) (H : Hp) (C : Addr) (cl : List (Str × Addr)) (fp : List Addr), PG (X.blk s H scope (compEnvC scope cl C X.env) fp) tg g) (ht : ∀ (s : Shared) (H : Hp) (C : Addr) (cl : List (Str × Addr)) (fp : List Addr), PTs (X.blk s H scope (compEnvC scope cl C X.env) fp) ifs tt)
    (he : ∀ (s : Shared) (H : Hp) (C : Addr) (cl : List (Str × Addr)) (fp : List Addr), PE (X.blk s H scope (compEnvC scope cl C X.env) fp) elt te) (hs : ∀ x, foldedSetIterable iter X.env x = pure x := by intro _; rfl) :
    PE X (.ListComp elt [⟨tg, iter, ifs, 0⟩] scope pos) (tLc wi g tt te (own.map (·.2))) := by
  intro pins s σ H Q I h
  rw [eval_ListComp]
  refine lc_core hc hN I hi ok hg ht he hs h fun D C s' m H' I' q hn f => ⟨m, hn, fun h'' sb => ?_⟩
  obtain ⟨f0, f1, f2, f3, f4, f5⟩ := f
  exact ⟨.ref D, H', I'.turned (t' := s'.toks) (fun b o hb e => (sb.2 b hb).trans e) f0 f1 f3 f4 f5, rfl, q⟩
/-- name = [..] on one line, the name a local -/
theorem ps_setLc {i : Nat} {y : Str} {py : Pos} {elt tg iter : Expr} {ifs : List Expr} {scope : Scope} {own : List (Str × Nat)} {pos spos : Pos} {wi : TI} {g : TG} {tt : TT} {te : TE} (hc : X.calm = true) (hN : X.N.Nodup) (hy : X.N[i]? = some y) (hyl : X.env.scope.names.lookup y = some .local)
    (hsw : swapsWith (.ListComp elt [⟨tg, iter, ifs, 0⟩] scope pos) (some (.Name y py)) spos.line X.env = pure true) (hi : PI X tg iter wi) (ok : BlkOk X.N X.env.scope scope own)
    (hg : ∀ (s : Shared) (H : Hp) (C : Addr) (cl : List (Str × Addr)) (fp : List Addr), PG (X.blk s H scope (compEnvC scope cl C X.env) fp) tg g) (ht : ∀ (s : Shared) (H : Hp) (C : Addr) (cl : List (Str × Addr)) (fp : List Addr), PTs (X.blk s H scope (compEnvC scope cl C X.env) fp) ifs tt)
    (he : ∀ (s : Shared) (H : Hp) (C : Addr) (cl : List (Str × Addr)) (fp : List Addr), PE (X.blk s H scope (compEnvC scope cl C X.env) fp) elt te) (hs : ∀ x, foldedSetIterable iter X.env x = pure x := by intro _; rfl) :
    PS X (.Assign [.Name y py] (.ListComp elt [⟨tg, iter, ifs, 0⟩] scope pos) spos) (tAsg (tLc wi g tt te (own.map (·.2))) (gName i)) := by
  intro pins s σ H D I h
  rw [exec_Assign_Name_used _ _ _ _ hsw]
  refine wpAny_bind (wpAny_standAt (wpAny_bind ?_))
  show wpAny _ X.A (do let _ ← comprehension (.ListComp elt [⟨tg, iter, ifs, 0⟩] scope pos) scope X.env (firstIterPos [⟨tg, iter, ifs, 0⟩] pos) (newList []) false (eval iter X.env) (some (assign (.Name y py) X.env))) _ _ s
  have h : tLc wi g tt te (own.map (·.2)) σ H (fun x H1 => gName i x σ H1 D.nx) := h
  refine wpAny_bind (thn (lc_core (Qf := fun _ s' => SP X pins D .next s') hc hN I hi ok hg ht he hs h fun L C s' m H' I' q hn f => ?_) fun _ s' hq => wpAny_pure (wpAny_pure hq))
  show wpAny _ _ (assign (.Name y py) X.env (.ref L)) _ _ _
  refine wpAny_assign_Name (store_ok2 (v := V.ref L) I' hN hy (.inl hyl) rfl (fun s2 I2 ⟨a, sb, ha⟩ => ?_) (.inr hyl))
  obtain ⟨f0, f1, f2, f3, f4, f5⟩ := f
  have haC : C ≠ a := by
    rcases ha with z | z
    · rw [z]; exact f1
    · exact fun e => f4 y a z e.symm
  refine ⟨m, hn.sameBut sb haC, fun h3 sb3 => ?_⟩
  exact ⟨_, H', I2.turned (t' := s2.toks) (fun b o hb e => (sb3.2 b hb).trans e) f0 f1 f3 f4 f5, q⟩
theorem sw_true {elt : Expr} {gs : List Comprehension} {scope : Scope} {pos py : Pos} {y : Str} {l : Nat} {env : Env} (hk : env.scope.kind = .function) (hy : env.scope.names.lookup y = some .local) (hl : (py.line == pos.line) = true)
    (ha : (scope.names.any fun (n, k) => n == y && (k == .local || k == .cell)) = false) : swapsWith (.ListComp elt gs scope pos) (some (.Name y py)) l env = pure true := by
  have ky : env.kindOf y = some .local := hy
  have hb : env.blockKind = .function := by unfold Env.blockKind; rw [hk]; rfl
  unfold swapsWith
  simp only [hb, ky, ha, Expr.pos, hl]
  rfl
end

/-! ### the forms one uses -/
/-- over a range: Pv by the turn and the heap (the new list at D within) -/
theorem lc_range {lo : Int} {n : Nat} {g : TG} {tt : TT} {te : TE} {vs : List Nat} {σ : St} {H1 : Hp} {D : Addr} {Qd : Hp → Prop} (Pv : Nat → Hp → Prop) (h0 : Pv 0 (upd H1 D (.lst [])))
    (hs : ∀ i H, i < n → Pv i H → g (.int (lo + i)) (wipe σ vs) H fun σ2 H2 => wipe σ2 vs = wipe σ vs ∧ tt σ2 H2 fun b H3 =>
      if b = true then te σ2 H3 fun y H4 => ∃ acc, H4 D = some (.lst acc) ∧ acc.length < sizeLine ∧ Pv (i + 1) (upd H4 D (.lst (acc ++ [y]))) else Pv (i + 1) H3) (hd : ∀ H, Pv n H → Qd H) :
    ∃ W : Nat → Nat → Hp → Prop, (∃ m, W 0 m (upd H1 D (.lst []))) ∧ ∀ i m H, W i m H →
      ((Itr lo n).stop i H ∧ Qd H) ∨ ((Itr lo n).go i H ∧ ∃ Nx : Hp → Prop, (∀ H', Nx H' → ∃ m', m' < m ∧ W (i + 1) m' H') ∧ ∀ x H', (Itr lo n).yld i H x H' → g x (wipe σ vs) H' fun σ2 H2 => wipe σ2 vs = wipe σ vs ∧ tt σ2 H2 fun b H3 =>
        if b = true then te σ2 H3 fun y H4 => ∃ acc, H4 D = some (.lst acc) ∧ acc.length < sizeLine ∧ Nx (upd H4 D (.lst (acc ++ [y]))) else Nx H3) := by
  refine ⟨fun i m H => m = n - i ∧ i ≤ n ∧ Pv i H, ⟨n, by simp, Nat.zero_le _, h0⟩, ?_⟩
  rintro i m H ⟨rfl, hi, p⟩
  by_cases hlt : i < n
  · refine .inr ⟨hlt, Pv (i + 1), fun H' p' => ⟨n - (i + 1), by omega, rfl, hlt, p'⟩, fun x H' y => ?_⟩
    obtain ⟨e, y⟩ := y
    subst e y
    exact hs i _ hlt p
  · have e : i = n := by omega
    subst e
    exact .inl ⟨Nat.le_refl _, hd H p⟩
/-- over a list that the block leaves as it is -/
theorem lc_list {K : PySem.W.Frag} {a : Addr} {xs : List V} {g : TG} {tt : TT} {te : TE} {vs : List Nat} {σ : St} {H1 : Hp} {D : Addr} {Qd : Hp → Prop} (Pv : Nat → Hp → Prop) (h0 : Pv 0 (upd H1 D (.lst []))) (hl : ∀ i H, i ≤ xs.length → Pv i H → SqL K H a xs)
    (hs : ∀ i x H, xs[i]? = some x → Pv i H → g x (wipe σ vs) H fun σ2 H2 => wipe σ2 vs = wipe σ vs ∧ tt σ2 H2 fun b H3 =>
      if b = true then te σ2 H3 fun y H4 => ∃ acc, H4 D = some (.lst acc) ∧ acc.length < sizeLine ∧ Pv (i + 1) (upd H4 D (.lst (acc ++ [y]))) else Pv (i + 1) H3) (hd : ∀ H, Pv xs.length H → Qd H) :
    ∃ W : Nat → Nat → Hp → Prop, (∃ m, W 0 m (upd H1 D (.lst []))) ∧ ∀ i m H, W i m H →
      ((Itl K a).stop i H ∧ Qd H) ∨ ((Itl K a).go i H ∧ ∃ Nx : Hp → Prop, (∀ H', Nx H' → ∃ m', m' < m ∧ W (i + 1) m' H') ∧ ∀ x H', (Itl K a).yld i H x H' → g x (wipe σ vs) H' fun σ2 H2 => wipe σ2 vs = wipe σ vs ∧ tt σ2 H2 fun b H3 =>
        if b = true then te σ2 H3 fun y H4 => ∃ acc, H4 D = some (.lst acc) ∧ acc.length < sizeLine ∧ Nx (upd H4 D (.lst (acc ++ [y]))) else Nx H3) := by
  refine ⟨fun i m H => m = xs.length - i ∧ i ≤ xs.length ∧ Pv i H, ⟨xs.length, by simp, Nat.zero_le _, h0⟩, ?_⟩
  rintro i m H ⟨rfl, hi, p⟩
  have q := hl i H hi p
  by_cases hlt : i < xs.length
  · refine .inr ⟨⟨xs, xs[i], q, by simp [hlt]⟩, Pv (i + 1), fun H' p' => ⟨xs.length - (i + 1), by omega, rfl, hlt, p'⟩, fun x H' y => ?_⟩
    obtain ⟨e, y⟩ := y
    subst e
    exact hs i x _ (y xs q) p
  · have e : i = xs.length := by omega
    subst e
    exact .inl ⟨⟨xs, q, Nat.le_refl _⟩, hd H p⟩
end L2

namespace L2
open PySem PySem.Spec PyProof.Rows

section
variable {prog : Program} {w : World} {A : Around} {R : Result → Shared → Prop} {s : Shared} {elt t0 i0 t1 i1 : Expr} {ifs0 ifs1 : List Expr} {scope : Scope} {pos : Pos} {it acc : Value} {env : Env}
end

section
variable {X : Cx}
end
end L2

namespace L2
open PySem PySem.Spec PyProof.Rows

/-! ### lists of pairs as tables -/
section
variable {κ : Type} [DecidableEq κ]
end


/-! ### a tracked dict, its keys ints and texts or tuples of these -/
section
variable {P : Program} {w : World} {H : Hp} {h : Heap} {a : Addr}
end

section
variable {X : Cx} {pins : List (Addr × Obj)} {σ : St} {H : Hp} {s : Shared} {a : Addr} {y v : V} {u r : Value} {o : Option V} {A : Around} {E : Value → Shared → Prop}

end

section
variable {X : Cx} {pins : List (Addr × Obj)} {σ : St} {H : Hp} {s : Shared} {a : Addr} {kvs : List (Key × V)} {k : Key} {u : Value} {A : Around} {E : Value → Shared → Prop}
end


/-! ### readings and rules -/
section
variable {X : Cx} {o i e value : Expr} {pos pos' tpos : Pos} {td ty tv : TE}
end


/-! ### displays -/
section
variable {X : Cx} {pos : Pos}
end

/-! ### methods -/
section
variable {X : Cx} {pins : List (Addr × Obj)} {σ : St} {H : Hp} {s : Shared} {a : Addr} {y d : V} {u r : Value} {o : Option V} {A : Around} {E : Value → Shared → Prop}
end

section
variable {X : Cx} {o e f : Expr} {apos cpos : Pos} {td ty tx : TE}
end

/-! ### dict(d): a copy -/
section
variable {X : Cx} {pins : List (Addr × Obj)} {σ : St} {H : Hp} {s : Shared} {a : Addr} {kvs : List (Key × V)} {A : Around} {E : Value → Shared → Prop}
end


section
variable {X : Cx} {pins : List (Addr × Obj)} {σ : St} {H : Hp} {s : Shared} {a : Addr} {y : V} {u : Value} {A : Around} {E : Value → Shared → Prop}
end
end L2

namespace L2
open PySem PySem.Spec PyProof.Rows

section
variable {prog : Program} {w : World} {A : Around} {E : Value → Shared → Prop}
end

section
variable {X : Cx}
end
end L2

namespace L2
open PySem PySem.Spec PyProof.Rows

section
variable {X : Cx} {pins : List (Addr × Obj)} {σ : St} {H : Hp} {s : Shared} {h' : Heap}
/-! ### locking a thing while a statement runs -/
end
section
variable {X : Cx}
/-! ### one iterator just laid -/
end

/-! ### range with a step -/
section
variable {X : Cx} {tg : Expr}
end
/-! ### reversed(list) -/
section
variable {X : Cx} {tg : Expr}
end

/-! ### a str -/
/-! ### a dict's keys: any dict's entries -/
section
variable {prog : Program} {w : World} {A : Around} {E : Value → Shared → Prop} {s : Shared}
end

/-! ### a locked dict -/
section
variable {X : Cx} {pins : List (Addr × Obj)} {σ : St} {H : Hp} {s : Shared} {d : Addr} {o : Obj}
end

section
variable {P : Program} {w : World} {K : PySem.W.Frag} {tg : Expr} {d : Addr} {o : Obj} {es : Array DictEntry} {ep : Nat}
end

/-! ### for k in d, d.keys(), d.values(), d.items() -/
section
variable {X : Cx} {tg e : Expr} {td : TE} {apos cpos : Pos}
end

/-! ### enumerate(list) -/
/-! ### zip(list, list) -/
end L2

section 
namespace Bits
open PySem PyProof.Rows

end Bits
end 

section 
namespace TL
open PySem PySem.Builtin PySem.Builtin.Str PySem.StrLaws

/-! ### the list functions -/
/-! ### the model's split and partition are these -/
/-! ### computing spl and par -/
/-! ### digits -/
/-! ### words: x.split() -/
end TL
end 

namespace L2
open PySem PySem.Spec PyProof.Rows

section
variable {X : Cx} {pins : List (Addr × Obj)} {σ : St} {H : Hp} {s : Shared} {Q : VK}
end

section
variable {X : Cx}

/-! ### of a text alone -/
/-! ### of a text and a text -/
end

section
variable {X : Cx} {o e : Expr} {to te : TE}
end
end L2

namespace L2
open PySem PySem.Spec PyProof.Rows

section
variable {X : Cx}
end

/-! ### slices of a text -/
end L2

namespace Att
open PySem PySem.W PySem.Calls PyProof.Rows

/-! ### the script -/
/-! ### the attachment: holds_open's last premise (the goal 'hc' behind k_head) from a wpAny of the law's body -/
/-! ### rules over ANY heap (no ledger) from facts about the written part K: the library's own take a ledger (News) for what they write -/
section
variable {prog : Program} {w : World} {A : Around} {E : Value → Shared → Prop} {s : Shared} {K : Frag}

/-! the whole heap as the ledger: makes every rule that writes through a ledger a rule over any heap -/
end
end Att

namespace L2
open PySem PySem.Spec PyProof.Rows

end L2

namespace L2
open PySem PySem.Spec PyProof.Rows

end L2

/- THE LAST THEOREM (shape; LID, My.* are yours):
   My.Adr: a structure of the addresses that your layer names (classes, functions); My.Txt K t: a structure (Prop) of the equations over K;
   My.txt_mk : {K} {implicit addresses ..} (e1 : nsIn K mainGlobals "law" = some (some (.ref f))) (e2 : K.lookup f = some ⟨oc, od, .func (fnOf "law" "law" params body scope dV kV doc pm an cdv ct), sl⟩) (e3 : codeIn K cdv "law" = true) .. : ∃ t, My.Txt K t

(the tactic k_is has no namespace: write k_is) -/

/-! SHORT WORDS over the layer: a def of the text, its body, what a loop and a test want. -/
namespace L2
open PySem PySem.Spec PyProof.Rows

/-! ### the text by places -/
def defArgs (s : Stmt) : Arguments := match s with
  | .FunctionDef _ a _ _ _ _ _ _ _ _ => a
  | _ => { posonlyargs := [], args := [], vararg := none, kwonlyargs := [], kw_defaults := [], kwarg := none, defaults := [] }
def defBody (s : Stmt) : List Stmt := match s with
  | .FunctionDef _ _ b _ _ _ _ _ _ _ => b
  | _ => []
def defScope (s : Stmt) : Scope := match s with
  | .FunctionDef _ _ _ _ _ _ sc _ _ _ => sc
  | _ => { kind := .function, names := [], isGenerator := false, isCoroutine := false }

/-! ### no exception leaves a def -/
abbrev CX0 : CXT := fun _ _ _ _ _ _ => False
abbrev E0 : XK := fun _ _ _ => False
theorem pass0 {X : Cx} : Passes CX0 X E0 := fun _ _ _ _ _ _ _ h => h.elim

/-! ### a def (or method) of the text as it stands behind the top -/
structure Fun (K : PySem.W.Frag) (x qual : Str) (st : Stmt) (f : Addr) (fd : FuncData) : Prop where
  ex : ∃ (oc : Value) (od : Option Addr) (kV doc pm : Value) (an : Option Addr) (cdv ct : Value) (osl : Array (Option Value)),
    fd = PySem.W.fnOf x qual (defArgs st) (defBody st) (defScope st) .none kV doc pm an cdv ct ∧ K.lookup f = some ⟨oc, od, .func fd, osl⟩ ∧ PySem.W.codeIn K cdv qual = true
  kp : PySem.W.keepIn K (.ref f) = true
section
variable {P : Program} {w : World} {K : PySem.W.Frag} {mg : Str → Option Value} {base : Heap}
/-- THE RULE for a def: its body as a term of rules, and the reading of that term -/
theorem Fun.ok {x qual : Str} {st : Stmt} {f : Addr} {fd : FuncData} {N ps : List Str} {k : Nat} {sp : Sp} (F : Fun K x qual st f fd) (S : FnScope N ps (defScope st)) (len : ∀ vs H Q E, sp vs H Q E → vs.length = ps.length)
    (hbody : ∀ (cdv : Value) (A : Around) (outer : List Env) (s : Shared) (H : Hp) (vs : List V) (Q : VK) (E : XK), Room k (A.deeper (envOfC qual (defScope st) s.heap.objs.size f cdv)) → sp vs H Q E →
      ∃ t, PSs (cxOf CX0 P w K mg base N qual (defScope st) f cdv A outer s H E).nox (defBody st) t ∧ t { nx := fun _ H' => Q .non H', rt := Q } (start N vs) H) : FnOk P w K mg base CX0 (k + 1) f fd ps sp := by
  obtain ⟨oc, od, kV, doc, pm, an, cdv, ct, osl, rfl, lk, hcd⟩ := F.ex
  refine fn_of lk hcd S len fun A outer s H vs Q E hr hsp => ?_
  obtain ⟨t, h, q⟩ := hbody cdv A outer s H vs Q E hr hsp
  exact ⟨t, h.nox, q⟩
/-- how its arguments bind (no defaults): h is «fun _ _ _ _ _ _ us hl => match us, hl with | [_, _], _ => rfl», one _ a parameter -/
theorem Fun.binds {x qual : Str} {st : Stmt} {f : Addr} {fd : FuncData} {ps : List Str} (F : Fun K x qual st f fd)
    (h : ∀ (kV doc pm : Value) (an : Option Addr) (cdv ct : Value) (us : List Value), us.length = ps.length → bindArgs (PySem.W.fnOf x qual (defArgs st) (defBody st) (defScope st) .none kV doc pm an cdv ct) ⟨us, []⟩ = pure (ps.zip us)) : Binds K fd ps [] := by
  obtain ⟨oc, od, kV, doc, pm, an, cdv, ct, osl, rfl, lk, hcd⟩ := F.ex
  exact .all (h kV doc pm an cdv ct)
theorem fun_mk {x qual : Str} {st : Stmt} {f : Addr} {oc : Value} {od an : Option Addr} {osl : Array (Option Value)} {kV doc pm cdv ct : Value} (l : K.lookup f = some ⟨oc, od, .func (PySem.W.fnOf x qual (defArgs st) (defBody st) (defScope st) .none kV doc pm an cdv ct), osl⟩)
    (c : PySem.W.codeIn K cdv qual = true) (k : PySem.W.keepIn K (.ref f) = true) : Fun K x qual st f (PySem.W.fnOf x qual (defArgs st) (defBody st) (defScope st) .none kV doc pm an cdv ct) := ⟨⟨oc, od, kV, doc, pm, an, cdv, ct, osl, rfl, l, c⟩, k⟩
end
/-! ### expressions in short: the name that stands in the i-th slot -/
section
variable {X : Cx}
theorem pv (i : Nat) {x : Str} {pos : Pos} (hN : X.N[i]? = some x := by rfl) (hv : Vis X.env.scope x := by first | exact Or.inl rfl | exact Or.inr (Or.inl rfl) | exact Or.inr (Or.inr rfl)) (hd : (x == ("__debug__" : Str)) = false := by decide)
    (hcd : (x == ("__classdict__" : Str)) = false := by decide) : PE X (.Name x pos) (tVar i) := pe_var hN hv hd hcd
end

/-! ### tests -/
theorem iteT {A B : Prop} (h : A) : if true = true then A else B := by
  rw [if_pos rfl]
  exact h
theorem ite2 {c A B : Prop} [Decidable c] (h1 : c → A) (h2 : ¬ c → B) : if c then A else B := by
  by_cases h : c
  · rw [if_pos h]
    exact h1 h
  · rw [if_neg h]
    exact h2 h
/-! ### heaps -/
/-! ### a dict's pairs: keys that differ -/
section
variable {κ : Type} [DecidableEq κ]
end
/-! ### lists -/
end L2
end
section
set_option Elab.async false
set_option linter.all false
set_option maxRecDepth 100000
set_option maxHeartbeats 2000000
namespace L2
open PySem PySem.Spec PyProof.Rows
open PySem.W (WData Codec OpenSpec Well WellAll ReadsW ReadsAllW)
/-! ### an answer as data -/
mutual
/-- x stands for the datum d, lists and tuples all the way -/
inductive Dw (K : PySem.W.Frag) (H : Hp) : V → WData → Prop
  | non : Dw K H .non .none
  | bl (b : Bool) : Dw K H (.bl b) (.bool b)
  | int (i : Int) : Dw K H (.int i) (.int i)
  | str (x : Str) : Dw K H (.str x) (.str x)
  | byt (b : Array UInt8) : Dw K H (.byt b) (.bytes b.toList)
  | lst {a : Addr} {xs : List V} {ds : List WData} : SqL K H a xs → DwAll K H xs ds → Dw K H (.ref a) (.list ds)
  | tup {a : Addr} {xs : List V} {ds : List WData} : SqT K H a xs → DwAll K H xs ds → Dw K H (.ref a) (.tuple ds)
inductive DwAll (K : PySem.W.Frag) (H : Hp) : List V → List WData → Prop
  | nil : DwAll K H [] []
  | cons {v : V} {vs : List V} {d : WData} {ds : List WData} : Dw K H v d → DwAll K H vs ds → DwAll K H (v :: vs) (d :: ds)
end
theorem dw_ints {K : PySem.W.Frag} {H : Hp} : ∀ ns : List Int, DwAll K H (ns.map V.int) (ns.map WData.int)
  | [] => .nil
  | n :: r => .cons (.int n) (dw_ints r)
theorem ints_dw {K : PySem.W.Frag} {H : Hp} : ∀ (ns : List Int) (xs : List V), DwAll K H xs (ns.map WData.int) → xs = ns.map V.int
  | [], xs, h => by
    cases h
    rfl
  | n :: r, xs, h => by
    cases h with
    | cons h1 h2 =>
      cases h1
      rw [ints_dw r _ h2] <;> rfl
section
variable {P : Program} {w : World} {K : PySem.W.Frag} {H : Hp} {h : Heap} {R : PySem.W.WRecords} {cl : Str → Option Addr}
theorem sqL_at {a : Addr} {xs : List V} (hok : HOk P w H h) (KX : K.In h) (q : SqL K H a xs) : ∃ (its : List Value) (o : Obj) (n : Nat), Vals xs its ∧ h.get? a = some o ∧ o.cls = .type "list" ∧ o.data = .seq its.toArray n := by
  rcases q with q | ⟨o, its, n, e, hc, _, hd, _, hv⟩
  · obtain ⟨_, its, n, hv, e⟩ := (show ObjOk P w H h a (.lst xs) from q.ok hok)
    exact ⟨its, _, n, hv, e, rfl, rfl⟩
  · exact ⟨its.toList, o, n, hv, KX _ _ e, hc, by simp [hd]⟩
theorem sqT_at {a : Addr} {xs : List V} (hok : HOk P w H h) (KX : K.In h) (q : SqT K H a xs) : ∃ (its : List Value) (o : Obj) (n : Nat), Vals xs its ∧ h.get? a = some o ∧ o.cls = .type "tuple" ∧ o.data = .seq its.toArray n := by
  rcases q with q | ⟨o, its, n, e, hc, hd, _, hv⟩
  · obtain ⟨_, its, hv, o, e, hc, n, hd⟩ := (show ObjOk P w H h a (.tup xs) from q.ok hok)
    exact ⟨its, o, n, hv, e, hc, hd⟩
  · exact ⟨its.toList, o, n, hv, KX _ _ e, hc, by simp [hd]⟩
mutual
theorem Dw.reads (hok : HOk P w H h) (KX : K.In h) : ∀ (d : WData) (v : V) (u : Value), Dw K H v d → RelV v u → ∃ as, ReadsW R cl h u d as
  | .none, _, _, x, r => by
    cases x
    cases r
    exact ⟨_, ReadsW.none⟩
  | .bool b, _, _, x, r => by
    cases x
    cases r
    exact ⟨_, ReadsW.bool b⟩
  | .int i, _, _, x, r => by
    cases x
    obtain ⟨t, rfl⟩ := r
    exact ⟨_, ReadsW.int i t⟩
  | .str s, _, _, x, r => by
    cases x
    obtain ⟨t, rfl⟩ := r
    exact ⟨_, ReadsW.str s t⟩
  | .bytes b, _, _, x, r => by
    cases x
    obtain ⟨t, rfl⟩ := r
    exact ⟨_, ReadsW.bytes _ t⟩
  | .list ds, _, _, x, r => by
    cases x with
    | lst hs ha =>
      cases r
      obtain ⟨its, o, n, rv, ho, hc, hd⟩ := sqL_at hok KX hs
      obtain ⟨as, hr⟩ := Dw.readsAll hok KX ds _ its ha rv
      exact ⟨_, ReadsW.list ho hc hd hr⟩
  | .tuple ds, _, _, x, r => by
    cases x with
    | tup hs ha =>
      cases r
      obtain ⟨its, o, n, rv, ho, hc, hd⟩ := sqT_at hok KX hs
      obtain ⟨as, hr⟩ := Dw.readsAll hok KX ds _ its ha rv
      exact ⟨_, ReadsW.tuple ho hc hd hr⟩
  | .float _, _, _, x, _ => by cases x
  | .dict _, _, _, x, _ => by cases x
  | .bytearray _, _, _, x, _ => by cases x
  | .set _, _, _, x, _ => by cases x
  | .frozenset _, _, _, x, _ => by cases x
  | .obj _ _, _, _, x, _ => by cases x
theorem Dw.readsAll (hok : HOk P w H h) (KX : K.In h) : ∀ (ds : List WData) (vs : List V) (us : List Value), DwAll K H vs ds → Vals vs us → ∃ as, ReadsAllW R cl h us ds as
  | [], _, _, x, r => by
    cases x
    cases r
    exact ⟨_, ReadsAllW.nil⟩
  | d :: ds, _, _, x, r => by
    cases x with
    | cons h1 h2 =>
      cases r with
      | cons r1 r2 =>
        obtain ⟨as, q1⟩ := Dw.reads hok KX d _ _ h1 r1
        obtain ⟨bs, q2⟩ := Dw.readsAll hok KX ds _ _ h2 r2
        exact ⟨_, ReadsAllW.cons q1 q2⟩
end
end
/-! ### the arguments -/
mutual
/-- data that a codec tells -/
def plW : WData → Bool
  | .none => true
  | .bool _ => true
  | .int _ => true
  | .str _ => true
  | .bytes _ => true
  | .list xs => plWs xs
  | .tuple xs => plWs xs
  | _ => false
def plWs : List WData → Bool
  | [] => true
  | x :: r => plW x && plWs r
end
theorem plWs_map {α : Type} {f : α → WData} (h : ∀ a, plW (f a) = true) : ∀ l : List α, plWs (l.map f) = true
  | [] => rfl
  | x :: r => by
    show (plW (f x) && plWs (r.map f)) = true
    rw [h x, plWs_map h r] <;> rfl
theorem pl_enc : ∀ (c : Codec) (a : c.denote), plW (c.enc a) = true
  | .unit, _ => rfl
  | .bool, _ => rfl
  | .int _ _, _ => rfl
  | .nat _ _, _ => rfl
  | .u8, _ => rfl
  | .bytes _ _, _ => rfl
  | .text _ _ _ _, _ => rfl
  | .list _ _ c, a => plWs_map (fun x => pl_enc c x) a
  | .pair c d, a => by
    show (plW (c.enc a.1) && (plW (d.enc a.2) && true)) = true
    rw [pl_enc c a.1, pl_enc d a.2] <;> rfl
  | .triple c d e, a => by
    show (plW (c.enc a.1) && (plW (d.enc a.2.1) && (plW (e.enc a.2.2) && true))) = true
    rw [pl_enc c a.1, pl_enc d a.2.1, pl_enc e a.2.2] <;> rfl
  | .option c, none => rfl
  | .option c, some x => pl_enc c x
theorem pl_encAll : ∀ (cs : List Codec) (a : Codec.denoteAll cs), plWs (Codec.encAll cs a) = true
  | [], _ => rfl
  | c :: cs, a => by
    show (plW (c.enc a.1) && plWs (Codec.encAll cs a.2)) = true
    rw [pl_enc c a.1, pl_encAll cs a.2] <;> rfl
theorem weight_mem : ∀ {xs : List WData} {d : WData}, d ∈ xs → d.weight ≤ WData.weightAll xs
  | [], d, h => absurd h (by simp)
  | x :: r, d, h => by
    show d.weight ≤ x.weight + 1 + WData.weightAll r
    rcases List.mem_cons.mp h with e | m
    · rw [e]
      omega
    · have z := weight_mem m
      omega
def toV : Value → V
  | .none => .non
  | .bool b => .bl b
  | .int i _ => .int i
  | .str x _ => .str x
  | .bytes b _ => .byt b
  | .ref a => .ref a
  | _ => .non
/-- a value of the arguments, its objects among A -/
def OkU (A : List Addr) : Value → Prop
  | .none => True
  | .bool _ => True
  | .int _ _ => True
  | .str _ _ => True
  | .bytes _ _ => True
  | .ref a => a ∈ A
  | _ => False
theorem OkU.mono {A B : List Addr} (h : ∀ a ∈ A, a ∈ B) : ∀ {u : Value}, OkU A u → OkU B u := fun {u} x => by
  cases u with
  | ref a => exact h a x
  | none => trivial
  | bool b => trivial
  | int i t => trivial
  | str s t => trivial
  | bytes b t => trivial
  | _ => exact False.elim x
theorem relV_toV {A : List Addr} {u : Value} (x : OkU A u) : RelV (toV u) u := by
  cases u with
  | ref a => rfl
  | none => rfl
  | bool b => rfl
  | int i t => exact ⟨t, rfl⟩
  | str s t => exact ⟨t, rfl⟩
  | bytes b t => exact ⟨t, rfl⟩
  | _ => exact False.elim x
theorem vals_toV {A : List Addr} : ∀ {vs : List Value}, (∀ u ∈ vs, OkU A u) → Vals (vs.map toV) vs
  | [], _ => .nil
  | u :: r, h => .cons (relV_toV (h u (List.mem_cons_self ..))) (vals_toV fun x hx => h x (List.mem_cons_of_mem _ hx))
/-- an object of the arguments -/
def ArgOb (h : Heap) (A : List Addr) (a : Addr) : Prop := ∃ vs : List Value, vs.length ≤ sizeLine ∧ (∀ u ∈ vs, OkU A u) ∧
  (h.get? a = some { cls := .type "list", data := .seq vs.toArray } ∨ h.get? a = some { cls := .type "tuple", data := .seq vs.toArray })
theorem ArgOb.mono {h : Heap} {A B : List Addr} {a : Addr} (k : ∀ a ∈ A, a ∈ B) (x : ArgOb h A a) : ArgOb h B a := by
  obtain ⟨vs, h1, h2, h3⟩ := x
  exact ⟨vs, h1, fun u hu => (h2 u hu).mono k, h3⟩
theorem wellAll_len {P : Params} {h : Heap} : ∀ {vs : List Value} {ds : List WData}, WellAll P h vs ds → vs.length = ds.length
  | _, _, .nil => rfl
  | _, _, .cons _ b => by
    show _ + 1 = _ + 1
    rw [wellAll_len b]
theorem well_list {P : Params} {h : Heap} {v : Value} {ds : List WData} (x : Well P h v (.list ds)) : ∃ (a : Addr) (vs : List Value), v = .ref a ∧ h.get? a = some { cls := .type "list", data := .seq vs.toArray } ∧ WellAll P h vs ds := by
  cases x with
  | list ho hall => exact ⟨_, _, rfl, ho, hall⟩
theorem well_tuple {P : Params} {h : Heap} {v : Value} {ds : List WData} (x : Well P h v (.tuple ds)) : ∃ (a : Addr) (vs : List Value), v = .ref a ∧ h.get? a = some { cls := .type "tuple", data := .seq vs.toArray } ∧ WellAll P h vs ds := by
  cases x with
  | tuple ho hall => exact ⟨_, _, rfl, ho, hall⟩
theorem well_cons {P : Params} {h : Heap} {us : List Value} {d : WData} {ds : List WData} (x : WellAll P h us (d :: ds)) : ∃ (v : Value) (vs : List Value), us = v :: vs ∧ Well P h v d ∧ WellAll P h vs ds := by
  cases x with
  | cons a b => exact ⟨_, _, rfl, a, b⟩
theorem line_of {n : Nat} (h : n ≤ 1048576) : n ≤ sizeLine := Nat.le_trans h (by decide)
section
variable {P : Params} {h : Heap}
mutual
theorem area_one : ∀ (d : WData) (v : Value), Well P h v d → plW d = true → d.weight ≤ 1048576 → ∃ A : List Addr, OkU A v ∧ ∀ a ∈ A, ArgOb h A a
  | .none, _, x, _, _ => by
    cases x
    exact ⟨[], trivial, fun a m => absurd m (by simp)⟩
  | .bool b, _, x, _, _ => by
    cases x
    exact ⟨[], trivial, fun a m => absurd m (by simp)⟩
  | .int i, _, x, _, _ => by
    cases x
    exact ⟨[], trivial, fun a m => absurd m (by simp)⟩
  | .str s, _, x, _, _ => by
    cases x
    exact ⟨[], trivial, fun a m => absurd m (by simp)⟩
  | .bytes b, _, x, _, _ => by
    cases x
    exact ⟨[], trivial, fun a m => absurd m (by simp)⟩
  | .list ds, _, x, p, z => by
    obtain ⟨a, vs, rfl, ho, hall⟩ := well_list x
    have z2 : WData.weightAll ds ≤ 1048576 := z
    obtain ⟨A, h1, h2⟩ := area_all ds _ hall p fun d hd => Nat.le_trans (weight_mem hd) z2
    have k : ∀ b ∈ A, b ∈ a :: A := fun b hb => List.mem_cons_of_mem _ hb
    refine ⟨a :: A, List.mem_cons_self .., fun b hb => ?_⟩
    rcases List.mem_cons.mp hb with e | m
    · rw [e]
      exact ⟨vs, line_of (by rw [wellAll_len hall]; exact Nat.le_trans (PySem.W.length_le_weightAllW ds) z2), fun u hu => (h1 u hu).mono k, .inl ho⟩
    · exact (h2 b m).mono k
  | .tuple ds, _, x, p, z => by
    obtain ⟨a, vs, rfl, ho, hall⟩ := well_tuple x
    have z2 : WData.weightAll ds ≤ 1048576 := z
    obtain ⟨A, h1, h2⟩ := area_all ds _ hall p fun d hd => Nat.le_trans (weight_mem hd) z2
    have k : ∀ b ∈ A, b ∈ a :: A := fun b hb => List.mem_cons_of_mem _ hb
    refine ⟨a :: A, List.mem_cons_self .., fun b hb => ?_⟩
    rcases List.mem_cons.mp hb with e | m
    · rw [e]
      exact ⟨vs, line_of (by rw [wellAll_len hall]; exact Nat.le_trans (PySem.W.length_le_weightAllW ds) z2), fun u hu => (h1 u hu).mono k, .inr ho⟩
    · exact (h2 b m).mono k
  | .float _, _, _, p, _ => Bool.noConfusion (show false = true from p)
  | .dict _, _, _, p, _ => Bool.noConfusion (show false = true from p)
  | .bytearray _, _, _, p, _ => Bool.noConfusion (show false = true from p)
  | .set _, _, _, p, _ => Bool.noConfusion (show false = true from p)
  | .frozenset _, _, _, p, _ => Bool.noConfusion (show false = true from p)
  | .obj _ _, _, _, p, _ => Bool.noConfusion (show false = true from p)
theorem area_all : ∀ (ds : List WData) (vs : List Value), WellAll P h vs ds → plWs ds = true → (∀ d ∈ ds, d.weight ≤ 1048576) → ∃ A : List Addr, (∀ u ∈ vs, OkU A u) ∧ ∀ a ∈ A, ArgOb h A a
  | [], _, x, _, _ => by
    cases x
    exact ⟨[], fun u m => absurd m (by simp), fun a m => absurd m (by simp)⟩
  | d :: ds, _, x, p, z => by
    obtain ⟨v, vs, rfl, x1, x2⟩ := well_cons x
    have q : plW d = true ∧ plWs ds = true := Bool.and_eq_true_iff.mp p
    obtain ⟨A, a1, a2⟩ := area_one d v x1 q.1 (z d (List.mem_cons_self ..))
    obtain ⟨B, b1, b2⟩ := area_all ds vs x2 q.2 fun e he => z e (List.mem_cons_of_mem _ he)
    have kA : ∀ b ∈ A, b ∈ A ++ B := fun b hb => List.mem_append.mpr (.inl hb)
    have kB : ∀ b ∈ B, b ∈ A ++ B := fun b hb => List.mem_append.mpr (.inr hb)
    refine ⟨A ++ B, fun u hu => ?_, fun b hb => ?_⟩
    · rcases List.mem_cons.mp hu with e | m
      · rw [e]
        exact a1.mono kA
      · exact (b1 u m).mono kB
    · rcases List.mem_append.mp hb with m | m
      · exact (a2 b m).mono kA
      · exact (b2 b m).mono kB
end
end
/-- what is tracked of an argument's object -/
def hoOf (o : Obj) : Option HO := match o.data with
  | .seq vs _ => if (o.cls == Value.type "list") = true then some (.frz o (.lst (vs.toList.map toV))) else some (.frz o (.tup (vs.toList.map toV)))
  | _ => none
def argH (K : PySem.W.Frag) (h : Heap) (A : List Addr) : Hp := fun b => if b ∈ A then (if (K.lookup b).isNone = true then (h.get? b).bind hoOf else none) else none
/-- nothing is tracked but what is known to the object -/
def OnlyF (H : Hp) : Prop := ∀ b, H b = none ∨ ∃ o u, H b = some (.frz o u)
theorem hoOf_lst (vs : List Value) : hoOf { cls := .type "list", data := .seq vs.toArray } = some (.frz { cls := .type "list", data := .seq vs.toArray } (.lst (vs.map toV))) := by
  show (if (Value.type "list" == Value.type "list") = true then some (HO.frz { cls := .type "list", data := .seq vs.toArray } (.lst (vs.toArray.toList.map toV))) else some (HO.frz { cls := .type "list", data := .seq vs.toArray } (.tup (vs.toArray.toList.map toV)))) = _
  rw [if_pos (beq_self_eq_true _)]
theorem hoOf_tup (vs : List Value) : hoOf { cls := .type "tuple", data := .seq vs.toArray } = some (.frz { cls := .type "tuple", data := .seq vs.toArray } (.tup (vs.map toV))) := by
  show (if (Value.type "tuple" == Value.type "list") = true then some (HO.frz { cls := .type "tuple", data := .seq vs.toArray } (.lst (vs.toArray.toList.map toV))) else some (HO.frz { cls := .type "tuple", data := .seq vs.toArray } (.tup (vs.toArray.toList.map toV)))) = _
  rw [if_neg (by decide)]
section
variable {P : Program} {w : World} {K : PySem.W.Frag} {h : Heap} {A : List Addr}
theorem argH_at {b : Addr} {o : Obj} (hb : b ∈ A) (hk : K.lookup b = none) (e : h.get? b = some o) : argH K h A b = hoOf o := by
  unfold argH
  rw [if_pos hb, hk, if_pos (show (none : Option Obj).isNone = true from rfl), e] <;> rfl
theorem of_argH {b : Addr} {u : HO} (q : argH K h A b = some u) : b ∈ A ∧ K.lookup b = none := by
  unfold argH at q
  by_cases hb : b ∈ A
  · rw [if_pos hb] at q
    cases hk : K.lookup b with
    | none => exact ⟨hb, rfl⟩
    | some o =>
      rw [hk, if_neg (by simp)] at q
      cases q
  · rw [if_neg hb] at q
    cases q
/-- what stands tracked -/
theorem argH_is (ar : ∀ a ∈ A, ArgOb h A a) {b : Addr} {u : HO} (q : argH K h A b = some u) : K.lookup b = none ∧ ∃ vs : List Value, vs.length ≤ sizeLine ∧ (∀ u ∈ vs, OkU A u) ∧
    ((h.get? b = some { cls := .type "list", data := .seq vs.toArray } ∧ u = .frz { cls := .type "list", data := .seq vs.toArray } (.lst (vs.map toV))) ∨
     (h.get? b = some { cls := .type "tuple", data := .seq vs.toArray } ∧ u = .frz { cls := .type "tuple", data := .seq vs.toArray } (.tup (vs.map toV)))) := by
  obtain ⟨hb, hk⟩ := of_argH q
  obtain ⟨vs, h1, h2, h3⟩ := ar b hb
  refine ⟨hk, vs, h1, h2, ?_⟩
  rcases h3 with e | e
  · rw [argH_at hb hk e, hoOf_lst] at q
    exact .inl ⟨e, (Option.some.inj q).symm⟩
  · rw [argH_at hb hk e, hoOf_tup] at q
    exact .inr ⟨e, (Option.some.inj q).symm⟩
theorem argH_only (ar : ∀ a ∈ A, ArgOb h A a) : OnlyF (argH K h A) := fun b => by
  cases q : argH K h A b with
  | none => exact .inl rfl
  | some u =>
    obtain ⟨_, vs, _, _, ⟨_, e⟩ | ⟨_, e⟩⟩ := argH_is ar q
    · exact .inr ⟨_, _, by rw [e]⟩
    · exact .inr ⟨_, _, by rw [e]⟩
theorem argH_ok (ar : ∀ a ∈ A, ArgOb h A a) : HOk P w (argH K h A) h := fun b u q => by
  obtain ⟨_, vs, h1, h2, ⟨e, rfl⟩ | ⟨e, rfl⟩⟩ := argH_is ar q
  · exact ⟨e, by rw [List.length_map]; exact h1, vs, _, vals_toV h2, e⟩
  · exact ⟨e, by rw [List.length_map]; exact h1, vs, vals_toV h2, _, e, rfl, _, rfl⟩
theorem seq_inj {c c' : Value} {vs us : List Value} (e : (some { cls := c, data := .seq vs.toArray } : Option Obj) = some { cls := c', data := .seq us.toArray }) : c = c' ∧ vs = us := by
  have e1 := Option.some.inj e
  have e2 : c = c' := congrArg Obj.cls e1
  have e3 : Data.seq vs.toArray = Data.seq us.toArray := congrArg Obj.data e1
  injection e3 with e4
  refine ⟨e2, ?_⟩
  have e5 := congrArg Array.toList e4
  simpa using e5
/-- a list argument -/
theorem argL (KX : K.In h) (ar : ∀ a ∈ A, ArgOb h A a) {a : Addr} {vs : List Value} (ha : a ∈ A) (e : h.get? a = some { cls := .type "list", data := .seq vs.toArray }) : (∀ u ∈ vs, OkU A u) ∧ SqL K (argH K h A) a (vs.map toV) := by
  obtain ⟨us, h1, h2, h3⟩ := ar a ha
  have hu : us = vs := by
    rcases h3 with q | q
    · rw [e] at q
      exact (seq_inj q).2.symm
    · rw [e] at q
      exact absurd (Value.type.inj (seq_inj q).1) (by decide)
  subst hu
  refine ⟨h2, ?_⟩
  cases hk : K.lookup a with
  | none => exact .inl (.inr ⟨_, by rw [argH_at ha hk e, hoOf_lst]⟩)
  | some o =>
    have e2 := KX a o hk
    rw [e] at e2
    obtain rfl := Option.some.inj e2
    exact .inr ⟨_, us.toArray, _, hk, rfl, rfl, rfl, by rw [List.size_toArray]; exact h1, by simpa using vals_toV h2⟩
theorem argT (KX : K.In h) (ar : ∀ a ∈ A, ArgOb h A a) {a : Addr} {vs : List Value} (ha : a ∈ A) (e : h.get? a = some { cls := .type "tuple", data := .seq vs.toArray }) : (∀ u ∈ vs, OkU A u) ∧ SqT K (argH K h A) a (vs.map toV) := by
  obtain ⟨us, h1, h2, h3⟩ := ar a ha
  have hu : us = vs := by
    rcases h3 with q | q
    · rw [e] at q
      exact absurd (Value.type.inj (seq_inj q).1) (by decide)
    · rw [e] at q
      exact (seq_inj q).2.symm
  subst hu
  refine ⟨h2, ?_⟩
  cases hk : K.lookup a with
  | none => exact .inl (.inr ⟨_, by rw [argH_at ha hk e, hoOf_tup]⟩)
  | some o =>
    have e2 := KX a o hk
    rw [e] at e2
    obtain rfl := Option.some.inj e2
    exact .inr ⟨_, us.toArray, _, hk, rfl, rfl, by rw [List.size_toArray]; exact h1, by simpa using vals_toV h2⟩
mutual
theorem dw_one {Pm : Params} (KX : K.In h) (ar : ∀ a ∈ A, ArgOb h A a) : ∀ (d : WData) (v : Value), Well Pm h v d → plW d = true → OkU A v → Dw K (argH K h A) (toV v) d
  | .none, _, x, _, _ => by
    cases x
    exact .non
  | .bool b, _, x, _, _ => by
    cases x
    exact .bl b
  | .int i, _, x, _, _ => by
    cases x
    exact .int i
  | .str s, _, x, _, _ => by
    cases x
    exact .str s
  | .bytes b, _, x, _, _ => by
    cases x
    have z := Dw.byt (K := K) (H := argH K h A) b.toArray
    exact z
  | .list ds, _, x, p, hu => by
    obtain ⟨a, vs, rfl, ho, hall⟩ := well_list x
    obtain ⟨h2, hs⟩ := argL KX ar hu ho
    exact .lst hs (dw_all KX ar ds _ hall p h2)
  | .tuple ds, _, x, p, hu => by
    obtain ⟨a, vs, rfl, ho, hall⟩ := well_tuple x
    obtain ⟨h2, hs⟩ := argT KX ar hu ho
    exact .tup hs (dw_all KX ar ds _ hall p h2)
  | .float _, _, _, p, _ => Bool.noConfusion (show false = true from p)
  | .dict _, _, _, p, _ => Bool.noConfusion (show false = true from p)
  | .bytearray _, _, _, p, _ => Bool.noConfusion (show false = true from p)
  | .set _, _, _, p, _ => Bool.noConfusion (show false = true from p)
  | .frozenset _, _, _, p, _ => Bool.noConfusion (show false = true from p)
  | .obj _ _, _, _, p, _ => Bool.noConfusion (show false = true from p)
theorem dw_all {Pm : Params} (KX : K.In h) (ar : ∀ a ∈ A, ArgOb h A a) : ∀ (ds : List WData) (vs : List Value), WellAll Pm h vs ds → plWs ds = true → (∀ u ∈ vs, OkU A u) → DwAll K (argH K h A) (vs.map toV) ds
  | [], _, x, _, _ => by
    cases x
    exact .nil
  | d :: ds, _, x, p, hu => by
    obtain ⟨v, vs, rfl, x1, x2⟩ := well_cons x
    have q : plW d = true ∧ plWs ds = true := Bool.and_eq_true_iff.mp p
    exact .cons (dw_one KX ar d v x1 q.1 (hu _ (List.mem_cons_self ..))) (dw_all KX ar ds vs x2 q.2 fun u m => hu u (List.mem_cons_of_mem _ m))
end
end
/-! ### the call -/
/-! ### the row -/
theorem layable_weight {ds : List WData} (h : WData.layableAll ds = true) : ∀ d ∈ ds, d.weight ≤ 1048576 := fun d hd =>
  (PySem.W.layableW_iff.mp (List.all_eq_true.mp h d hd)).2.2
theorem encAll_len : ∀ (cs : List Codec) (a : Codec.denoteAll cs), (Codec.encAll cs a).length = cs.length
  | [], _ => rfl
  | c :: cs, a => by
    show (Codec.encAll cs a.2).length + 1 = cs.length + 1
    rw [encAll_len cs a.2]
end L2
-- rests on (row put in by the clerk, for the bench that shows a file only what it spells): KE.SpHead KE.OsShapes
end
section
set_option autoImplicit false
namespace Te
open Sh08 Sh08Neutral

/-! ### the order of runs of bytes -/
theorem u8_lt_irrefl (x : UInt8) : ¬ x < x := by
  intro h
  have := UInt8.lt_iff_toNat_lt.mp h
  omega
theorem below_nil_right (a : Bytes) : below a [] = false := by cases a <;> rfl
theorem below_cons (x y : UInt8) (r s : Bytes) : below (x :: r) (y :: s) = (decide (x < y) || (x == y && below r s)) := rfl
theorem below_irrefl : ∀ a : Bytes, below a a = false
  | [] => rfl
  | x :: r => by
    rw [below_cons, below_irrefl r, decide_eq_false (u8_lt_irrefl x)]
    simp
theorem below_cons_iff (x y : UInt8) (r s : Bytes) : below (x :: r) (y :: s) = true ↔ x < y ∨ (x = y ∧ below r s = true) := by
  rw [below_cons]
  simp
theorem u8_lt_trans {x y z : UInt8} (h : x < y) (k : y < z) : x < z := by
  have h := UInt8.lt_iff_toNat_lt.mp h
  have k := UInt8.lt_iff_toNat_lt.mp k
  exact UInt8.lt_iff_toNat_lt.mpr (by omega)
theorem below_trans : ∀ a b c : Bytes, below a b = true → below b c = true → below a c = true
  | _, [], _, h, _ => by rw [below_nil_right] at h; cases h
  | _, _ :: _, [], _, k => by rw [below_nil_right] at k; cases k
  | [], _ :: _, _ :: _, _, _ => rfl
  | x :: r, y :: s, z :: t, h, k => by
    rw [below_cons_iff] at h k ⊢
    rcases h with h | ⟨rfl, h⟩
    · rcases k with k | ⟨rfl, k⟩
      · exact .inl (u8_lt_trans h k)
      · exact .inl h
    · rcases k with k | ⟨rfl, k⟩
      · exact .inl k
      · exact .inr ⟨rfl, below_trans r s t h k⟩
theorem below_total : ∀ a b : Bytes, below a b = false → below b a = false → a = b
  | [], [], _, _ => rfl
  | [], _ :: _, h, _ => by cases h
  | _ :: _, [], _, k => by cases k
  | x :: r, y :: s, h, k => by
    have h : ¬ (x < y ∨ (x = y ∧ below r s = true)) := fun q => by
      rw [(below_cons_iff x y r s).mpr q] at h
      cases h
    have k : ¬ (y < x ∨ (y = x ∧ below s r = true)) := fun q => by
      rw [(below_cons_iff y x s r).mpr q] at k
      cases k
    have e : x = y := by
      apply UInt8.toNat_inj.mp
      have h1 : ¬ x.toNat < y.toNat := fun q => h (.inl (UInt8.lt_iff_toNat_lt.mpr q))
      have k1 : ¬ y.toNat < x.toNat := fun q => k (.inl (UInt8.lt_iff_toNat_lt.mpr q))
      omega
    subst e
    have h2 : below r s = false := by
      cases q : below r s with
      | false => rfl
      | true => exact absurd (.inr ⟨rfl, q⟩) h
    have k2 : below s r = false := by
      cases q : below s r with
      | false => rfl
      | true => exact absurd (.inr ⟨rfl, q⟩) k
    rw [below_total r s h2 k2]
theorem below_asymm {a b : Bytes} (h : below a b = true) : below b a = false := by
  cases q : below b a with
  | false => rfl
  | true =>
    have := below_trans _ _ _ h q
    rw [below_irrefl] at this
    cases this
/-! ### lists in a strict order are one if they have the same members -/
theorem strict_unique {α : Type} {R : α → α → Prop} (irr : ∀ a, ¬ R a a) (tr : ∀ a b c, R a b → R b c → R a c) : ∀ {l m : List α}, l.Pairwise R → m.Pairwise R → (∀ x, x ∈ l ↔ x ∈ m) → l = m
  | [], [], _, _, _ => rfl
  | [], y :: _, _, _, h => by
    have := (h y).mpr List.mem_cons_self
    cases this
  | x :: _, [], _, _, h => by
    have := (h x).mp List.mem_cons_self
    cases this
  | x :: l, y :: m, hl, hm, h => by
    have hl' := List.pairwise_cons.mp hl
    have hm' := List.pairwise_cons.mp hm
    have e : x = y := by
      rcases List.mem_cons.mp ((h x).mp List.mem_cons_self) with e | e
      · exact e
      · rcases List.mem_cons.mp ((h y).mpr List.mem_cons_self) with e' | e'
        · exact e'.symm
        · exact absurd (tr _ _ _ (hl'.1 y e') (hm'.1 x e)) (irr x)
    subst e
    rw [strict_unique irr tr hl'.2 hm'.2 fun z => ?_]
    constructor
    · intro hz
      rcases List.mem_cons.mp ((h z).mp (List.mem_cons_of_mem _ hz)) with e | e
      · subst e
        exact absurd (hl'.1 z hz) (irr z)
      · exact e
    · intro hz
      rcases List.mem_cons.mp ((h z).mpr (List.mem_cons_of_mem _ hz)) with e | e
      · subst e
        exact absurd (hm'.1 z hz) (irr z)
      · exact e

/-! ### sortBy -/
def ins {α : Type} (f : α → α → Bool) (s : List α) (x : α) : List α := (s.takeWhile fun y => !f x y) ++ (x :: s.dropWhile fun y => !f x y)
theorem ins_perm {α : Type} (f : α → α → Bool) (s : List α) (x : α) : (ins f s x).Perm (x :: s) := by
  unfold ins
  refine List.perm_middle.trans ?_
  rw [List.takeWhile_append_dropWhile]
theorem fold_ins_perm {α : Type} (f : α → α → Bool) : ∀ (l s : List α), (l.foldl (ins f) s).Perm (l ++ s)
  | [], s => List.Perm.refl _
  | x :: l, s => by
    rw [List.foldl_cons]
    refine (fold_ins_perm f l (ins f s x)).trans ?_
    refine ((ins_perm f s x).append_left l).trans ?_
    exact List.perm_middle
theorem sortBy_perm {α : Type} (f : α → α → Bool) (l : List α) : (sortBy f l).Perm l := by
  have := fold_ins_perm f l []
  rwa [List.append_nil] at this

/-- sorted: no later one is below an earlier one -/
theorem ins_sorted {α : Type} {f : α → α → Bool} (tr : ∀ a b c, f a b = true → f b c = true → f a c = true) (as : ∀ a b, f a b = true → f b a = false) (nt : ∀ a b c, f a c = true → f a b = true ∨ f b c = true) :
    ∀ {s : List α} (x : α), s.Pairwise (fun a b => f b a = false) → (ins f s x).Pairwise (fun a b => f b a = false)
  | [], x, _ => by simp [ins]
  | y :: s, x, h => by
    have h' := List.pairwise_cons.mp h
    cases q : f x y with
    | true =>
      have e : ins f (y :: s) x = x :: y :: s := by simp [ins, q]
      rw [e]
      refine List.pairwise_cons.mpr ⟨fun z hz => ?_, h⟩
      rcases List.mem_cons.mp hz with rfl | hz
      · exact as _ _ q
      · rcases nt x z y q with q1 | q1
        · exact as _ _ q1
        · rw [h'.1 z hz] at q1
          cases q1
    | false =>
      have e : ins f (y :: s) x = y :: ins f s x := by simp [ins, q]
      rw [e]
      refine List.pairwise_cons.mpr ⟨fun z hz => ?_, ins_sorted tr as nt x h'.2⟩
      rcases List.mem_cons.mp ((ins_perm f s x).mem_iff.mp hz) with rfl | hz
      · exact q
      · exact h'.1 z hz
theorem fold_ins_sorted {α : Type} {f : α → α → Bool} (tr : ∀ a b c, f a b = true → f b c = true → f a c = true) (as : ∀ a b, f a b = true → f b a = false) (nt : ∀ a b c, f a c = true → f a b = true ∨ f b c = true) :
    ∀ (l s : List α), s.Pairwise (fun a b => f b a = false) → (l.foldl (ins f) s).Pairwise (fun a b => f b a = false)
  | [], _, h => h
  | x :: l, s, h => fold_ins_sorted tr as nt l _ (ins_sorted tr as nt x h)
theorem below_nt (a b c : Bytes) (h : below a c = true) : below a b = true ∨ below b c = true := by
  cases q : below a b with
  | true => exact .inl rfl
  | false =>
    cases q2 : below b c with
    | true => exact .inr rfl
    | false =>
      exfalso
      cases q3 : below b a with
      | true =>
        have := below_trans _ _ _ q3 h
        rw [q2] at this
        cases this
      | false =>
        have := below_total _ _ q q3
        subst this
        rw [h] at q2
        cases q2

/-! ### the order of the endings -/
theorem orderOf_perm (t : Bytes) : (orderOf t).Perm (List.range t.length) := sortBy_perm _ _
theorem orderOf_sorted (t : Bytes) : (orderOf t).Pairwise fun i j => below (t.drop j) (t.drop i) = false :=
  fold_ins_sorted (f := fun i j => below (t.drop i) (t.drop j)) (fun _ _ _ h k => below_trans _ _ _ h k) (fun _ _ h => below_asymm h) (fun a b c h => below_nt _ _ _ h) _ _ List.Pairwise.nil
theorem drop_inj {t : Bytes} {i j : Nat} (hi : i < t.length) (hj : j < t.length) (h : t.drop i = t.drop j) : i = j := by
  have := congrArg List.length h
  rw [List.length_drop, List.length_drop] at this
  omega
theorem strict_of {t : Bytes} {l : List Nat} (p : l.Perm (List.range t.length)) (s : l.Pairwise fun i j => below (t.drop j) (t.drop i) = false) : l.Pairwise fun i j => below (t.drop i) (t.drop j) = true := by
  have nd : l.Nodup := p.nodup_iff.mpr List.nodup_range
  have both := s.and nd
  refine both.imp_of_mem fun {a b} ha hb ⟨q, ne⟩ => ?_
  cases e : below (t.drop a) (t.drop b) with
  | true => rfl
  | false =>
    have ha' := List.mem_range.mp (p.mem_iff.mp ha)
    have hb' := List.mem_range.mp (p.mem_iff.mp hb)
    exact absurd (drop_inj ha' hb' (below_total _ _ e q)) ne
theorem orderOf_strict (t : Bytes) : (orderOf t).Pairwise fun i j => below (t.drop i) (t.drop j) = true := strict_of (orderOf_perm t) (orderOf_sorted t)
theorem orderOf_unique {t : Bytes} {l : List Nat} (p : l.Perm (List.range t.length)) (s : l.Pairwise fun i j => below (t.drop j) (t.drop i) = false) : l = orderOf t := by
  refine strict_unique (R := fun i j => below (t.drop i) (t.drop j) = true) (fun a h => ?_) (fun a b c h k => below_trans _ _ _ h k) (strict_of p s) (orderOf_strict t) fun x => ?_
  · rw [below_irrefl] at h
    cases h
  · rw [p.mem_iff, (orderOf_perm t).mem_iff]
theorem orderOf_length (t : Bytes) : (orderOf t).length = t.length := by rw [(orderOf_perm t).length_eq, List.length_range]

/-! ### the different pieces -/
def dd (s : List Bytes) (p : Bytes) : List Bytes := if s.getLast? == some p then s else s ++ [p]
theorem differentOf_eq (t : Bytes) : differentOf t = (sortBy below (pieces t)).foldl dd [] := rfl
theorem dd_fold : ∀ (l s : List Bytes), l.Pairwise (fun a b => below b a = false) → s.Pairwise (fun a b => below a b = true) → (∀ a ∈ s, ∀ b ∈ l, below b a = false) →
    (l.foldl dd s).Pairwise (fun a b => below a b = true) ∧ ∀ x, x ∈ l.foldl dd s ↔ x ∈ s ∨ x ∈ l
  | [], s, _, hs, _ => ⟨hs, fun x => by simp⟩
  | p :: l, s, hl, hs, hb => by
    have hl' := List.pairwise_cons.mp hl
    rw [List.foldl_cons]
    by_cases e : s.getLast? = some p
    · have e1 : dd s p = s := by unfold dd; rw [e]; simp
      rw [e1]
      obtain ⟨h1, h2⟩ := dd_fold l s hl'.2 hs fun a ha b hb' => hb a ha b (List.mem_cons_of_mem _ hb')
      refine ⟨h1, fun x => ?_⟩
      rw [h2, List.mem_cons]
      constructor
      · rintro (h | h)
        · exact .inl h
        · exact .inr (.inr h)
      · rintro (h | rfl | h)
        · exact .inl h
        · exact .inl (List.mem_of_getLast? e)
        · exact .inr h
    · have e1 : dd s p = s ++ [p] := by unfold dd; simp [e]
      rw [e1]
      have hlt : ∀ a ∈ s, below a p = true := fun a ha => by
        have n1 := hb a ha p List.mem_cons_self
        cases q : below a p with
        | true => rfl
        | false =>
          exfalso
          have ea := below_total _ _ q n1
          subst ea
          -- a is the last one: everything behind it would be above it
          apply e
          obtain ⟨s1, s2, rfl⟩ := List.append_of_mem ha
          cases s2 with
          | nil => simp
          | cons c s2 =>
            exfalso
            have h3 := (List.pairwise_append.mp hs).2.1
            have h4 := (List.pairwise_cons.mp h3).1 c List.mem_cons_self
            have h5 := hb c (by simp) a List.mem_cons_self
            rw [h4] at h5
            cases h5
      obtain ⟨h1, h2⟩ := dd_fold l (s ++ [p]) hl'.2 (List.pairwise_append.mpr ⟨hs, List.pairwise_singleton _ _, fun a ha b hb' => by rw [List.mem_singleton.mp hb']; exact hlt a ha⟩) fun a ha b hb' => by
        rcases List.mem_append.mp ha with ha | ha
        · exact hb a ha b (List.mem_cons_of_mem _ hb')
        · rw [List.mem_singleton.mp ha]
          exact hl'.1 b hb'
      refine ⟨h1, fun x => ?_⟩
      rw [h2, List.mem_append, List.mem_singleton, List.mem_cons]
      constructor
      · rintro ((h | h) | h)
        · exact .inl h
        · exact .inr (.inl h)
        · exact .inr (.inr h)
      · rintro (h | h | h)
        · exact .inl (.inl h)
        · exact .inl (.inr h)
        · exact .inr h
theorem different_both (t : Bytes) : (differentOf t).Pairwise (fun a b => below a b = true) ∧ ∀ x, x ∈ differentOf t ↔ x ∈ pieces t := by
  obtain ⟨h1, h2⟩ := dd_fold (sortBy below (pieces t)) [] (fold_ins_sorted below_trans (fun _ _ h => below_asymm h) below_nt _ _ List.Pairwise.nil) List.Pairwise.nil fun a ha => by cases ha
  refine ⟨h1, fun x => ?_⟩
  rw [differentOf_eq, h2, (sortBy_perm _ _).mem_iff]
  simp
theorem different_unique {t : Bytes} {l : List Bytes} (s : l.Pairwise fun a b => below a b = true) (h : ∀ x, x ∈ l ↔ x ∈ pieces t) : l = differentOf t :=
  strict_unique (R := fun a b => below a b = true) (fun a h => by rw [below_irrefl] at h; cases h) (fun a b c h k => below_trans _ _ _ h k) s (different_both t).1 fun x => by rw [h, (different_both t).2]

/-! ### the best of some pieces -/
def better (p q : Bytes) : Prop := q.length < p.length ∨ (q.length = p.length ∧ below p q = true)
instance (p q : Bytes) : Decidable (better p q) := by unfold better; infer_instance
def pick (b : Option Bytes) (p : Bytes) : Option Bytes := match b with
  | none => some p
  | some q => if q.length < p.length ∨ (q.length = p.length ∧ below p q = true) then some p else some q
theorem best_eq (l : List Bytes) : best l = l.foldl pick none := rfl
theorem better_trans {p q r : Bytes} (h : better p q) (k : better q r) : better p r := by
  unfold better at *
  rcases h with h | ⟨h, h'⟩ <;> rcases k with k | ⟨k, k'⟩
  · exact .inl (by omega)
  · exact .inl (by omega)
  · exact .inl (by omega)
  · exact .inr ⟨by omega, below_trans _ _ _ h' k'⟩
theorem better_irrefl (p : Bytes) : ¬ better p p := by
  unfold better
  rw [below_irrefl]
  rintro (h | ⟨_, h⟩)
  · omega
  · cases h
theorem better_total {p q : Bytes} (h : ¬ better p q) (k : ¬ better q p) : p = q := by
  unfold better at *
  have e : p.length = q.length := by
    by_cases h1 : q.length < p.length
    · exact absurd (.inl h1) h
    · by_cases h2 : p.length < q.length
      · exact absurd (.inl h2) k
      · omega
  refine below_total _ _ ?_ ?_
  · cases q1 : below p q with
    | false => rfl
    | true => exact absurd (.inr ⟨e.symm, q1⟩) h
  · cases q1 : below q p with
    | false => rfl
    | true => exact absurd (.inr ⟨e, q1⟩) k
theorem pick_some (q p : Bytes) : pick (some q) p = if better p q then some p else some q := rfl
theorem pick_fold : ∀ (l : List Bytes) (q : Bytes), ∃ p, l.foldl pick (some q) = some p ∧ (p = q ∨ p ∈ l) ∧ ∀ x, x = q ∨ x ∈ l → ¬ better x p
  | [], q => ⟨q, rfl, .inl rfl, fun x hx => by
      rcases hx with rfl | hx
      · exact better_irrefl _
      · cases hx⟩
  | y :: l, q => by
    rw [List.foldl_cons, pick_some]
    by_cases h : better y q
    · rw [if_pos h]
      obtain ⟨p, e, hm, hb⟩ := pick_fold l y
      refine ⟨p, e, .inr ?_, fun x hx => ?_⟩
      · rcases hm with rfl | hm
        · exact List.mem_cons_self
        · exact List.mem_cons_of_mem _ hm
      · rcases hx with rfl | hx
        · intro hxp
          exact hb y (.inl rfl) (better_trans h hxp)
        · rcases List.mem_cons.mp hx with rfl | hx
          · exact hb _ (.inl rfl)
          · exact hb _ (.inr hx)
    · rw [if_neg h]
      obtain ⟨p, e, hm, hb⟩ := pick_fold l q
      refine ⟨p, e, ?_, fun x hx => ?_⟩
      · rcases hm with rfl | hm
        · exact .inl rfl
        · exact .inr (List.mem_cons_of_mem _ hm)
      · rcases hx with rfl | hx
        · exact hb _ (.inl rfl)
        · rcases List.mem_cons.mp hx with rfl | hx
          · intro hxp
            have hq := hb q (.inl rfl)
            -- x better than p, q not better than p, x not better than q
            by_cases hqx : better q x
            · exact hq (better_trans hqx hxp)
            · have := better_total h hqx
              subst this
              exact hq hxp
          · exact hb _ (.inr hx)
theorem best_some {l : List Bytes} {p : Bytes} : best l = some p ↔ p ∈ l ∧ ∀ x ∈ l, ¬ better x p := by
  cases l with
  | nil => simp [best_eq]
  | cons x l =>
    rw [best_eq, List.foldl_cons]
    obtain ⟨q, e, hm, hb⟩ := pick_fold l x
    show List.foldl pick (some x) l = some p ↔ _
    rw [e]
    have hq : q ∈ x :: l := by
      rcases hm with rfl | hm
      · exact List.mem_cons_self
      · exact List.mem_cons_of_mem _ hm
    constructor
    · intro e
      cases e
      exact ⟨hq, fun y hy => hb y (List.mem_cons.mp hy)⟩
    · rintro ⟨hp, hall⟩
      rw [better_total (hall q hq) (hb p (List.mem_cons.mp hp))]
end Te
end
section
set_option autoImplicit false
namespace Te
open Sh08 Sh08Neutral

/-! ### bytes as whole numbers -/
def Byt (l : List Int) : Prop := ∀ x ∈ l, 0 ≤ x ∧ x ≤ 255
theorem Byt.drop {l : List Int} (h : Byt l) (n : Nat) : Byt (l.drop n) := fun x hx => h x (List.mem_of_mem_drop hx)
theorem Byt.take {l : List Int} (h : Byt l) (n : Nat) : Byt (l.take n) := fun x hx => h x (List.mem_of_mem_take hx)
theorem Byt.append {l m : List Int} (h : Byt l) (k : Byt m) : Byt (l ++ m) := fun x hx => by
  rcases List.mem_append.mp hx with q | q
  · exact h x q
  · exact k x q
theorem Byt.tail {x : Int} {l : List Int} (h : Byt (x :: l)) : Byt l := fun y hy => h y (List.mem_cons_of_mem _ hy)
theorem Byt.nil : Byt [] := fun x hx => by cases hx
theorem bytesOf_cons (x : Int) (l : List Int) : bytesOf (x :: l) = UInt8.ofNat x.toNat :: bytesOf l := rfl
theorem bytesOf_length (l : List Int) : (bytesOf l).length = l.length := by simp [bytesOf]
theorem bytesOf_drop (l : List Int) (n : Nat) : bytesOf (l.drop n) = (bytesOf l).drop n := by simp [bytesOf, List.map_drop]
theorem bytesOf_take (l : List Int) (n : Nat) : bytesOf (l.take n) = (bytesOf l).take n := by simp [bytesOf, List.map_take]
theorem bytesOf_append (l m : List Int) : bytesOf (l ++ m) = bytesOf l ++ bytesOf m := by simp [bytesOf]
theorem byte_toNat {x : Int} (h : 0 ≤ x ∧ x ≤ 255) : (UInt8.ofNat x.toNat).toNat = x.toNat := by
  rw [UInt8.toNat_ofNat']
  exact Nat.mod_eq_of_lt (by omega)
theorem byte_lt {x y : Int} (hx : 0 ≤ x ∧ x ≤ 255) (hy : 0 ≤ y ∧ y ≤ 255) : UInt8.ofNat x.toNat < UInt8.ofNat y.toNat ↔ x < y := by
  rw [UInt8.lt_iff_toNat_lt, byte_toNat hx, byte_toNat hy]
  omega
theorem byte_eq {x y : Int} (hx : 0 ≤ x ∧ x ≤ 255) (hy : 0 ≤ y ∧ y ≤ 255) : UInt8.ofNat x.toNat = UInt8.ofNat y.toNat ↔ x = y := by
  rw [← UInt8.toNat_inj, byte_toNat hx, byte_toNat hy]
  omega
theorem bytesOf_inj : ∀ {a b : List Int}, Byt a → Byt b → (bytesOf a = bytesOf b ↔ a = b)
  | [], [], _, _ => by simp
  | [], _ :: _, _, _ => by simp [bytesOf]
  | _ :: _, [], _, _ => by simp [bytesOf]
  | x :: a, y :: b, ha, hb => by
    rw [bytesOf_cons, bytesOf_cons, List.cons.injEq, List.cons.injEq, byte_eq (ha x List.mem_cons_self) (hb y List.mem_cons_self), bytesOf_inj ha.tail hb.tail]
/-- the order of lists of whole numbers -/
def lexI : List Int → List Int → Bool
  | [], [] => false
  | [], _ :: _ => true
  | _ :: _, [] => false
  | x :: xs, y :: ys => if x = y then lexI xs ys else decide (x < y)
theorem below_bytesOf : ∀ {a b : List Int}, Byt a → Byt b → below (bytesOf a) (bytesOf b) = lexI a b
  | [], [], _, _ => rfl
  | [], _ :: _, _, _ => rfl
  | _ :: _, [], _, _ => rfl
  | x :: a, y :: b, ha, hb => by
    have hx := ha x List.mem_cons_self
    have hy := hb y List.mem_cons_self
    rw [bytesOf_cons, bytesOf_cons, below_cons, below_bytesOf ha.tail hb.tail]
    show _ = if x = y then lexI a b else decide (x < y)
    have e1 : decide (UInt8.ofNat x.toNat < UInt8.ofNat y.toNat) = decide (x < y) := decide_eq_decide.mpr (byte_lt hx hy)
    have e2 : (UInt8.ofNat x.toNat == UInt8.ofNat y.toNat) = decide (x = y) := by
      rw [Bool.beq_eq_decide_eq]
      exact decide_eq_decide.mpr (byte_eq hx hy)
    rw [e1, e2]
    by_cases e : x = y
    · subst e
      simp
    · simp [e]

/-! ### what two endings have in common -/
theorem common_nil_right (a : Bytes) : Sh08.common a [] = 0 := by cases a <;> rfl
theorem common_nil_left (b : Bytes) : Sh08.common [] b = 0 := by cases b <;> rfl
theorem common_cons (x y : UInt8) (r s : Bytes) : Sh08.common (x :: r) (y :: s) = if x = y then Sh08.common r s + 1 else 0 := rfl
/-- one more byte in common -/
theorem common_more {T : List Int} (hT : Byt T) {i j : Nat} {x y : Int} (hi : T[i]? = some x) (hj : T[j]? = some y) :
    Sh08.common ((bytesOf T).drop i) ((bytesOf T).drop j) = if x = y then Sh08.common ((bytesOf T).drop (i + 1)) ((bytesOf T).drop (j + 1)) + 1 else 0 := by
  have di : T.drop i = x :: T.drop (i + 1) := by
    obtain ⟨h, e⟩ := List.getElem?_eq_some_iff.mp hi
    rw [List.drop_eq_getElem_cons h, e]
  have dj : T.drop j = y :: T.drop (j + 1) := by
    obtain ⟨h, e⟩ := List.getElem?_eq_some_iff.mp hj
    rw [List.drop_eq_getElem_cons h, e]
  rw [← bytesOf_drop, ← bytesOf_drop, di, dj, bytesOf_cons, bytesOf_cons, common_cons, bytesOf_drop, bytesOf_drop]
  have e := byte_eq (hT x (List.mem_of_getElem? hi)) (hT y (List.mem_of_getElem? hj))
  by_cases q : x = y
  · rw [if_pos q, if_pos (e.mpr q)]
  · rw [if_neg q, if_neg fun z => q (e.mp z)]
theorem common_end {t : Bytes} {i j : Nat} (h : t.length ≤ i ∨ t.length ≤ j) : Sh08.common (t.drop i) (t.drop j) = 0 := by
  rcases h with h | h
  · rw [List.drop_of_length_le h, common_nil_left]
  · rw [List.drop_of_length_le h, common_nil_right]

/-! ### the places of a piece -/
theorem filter_range_le (p : Nat → Bool) : ∀ (d a : Nat), (∀ i, a ≤ i → p i = false) → (List.range (a + d)).filter p = (List.range a).filter p
  | 0, _, _ => rfl
  | d + 1, a, h => by
    rw [← Nat.add_assoc, List.range_succ, List.filter_append, filter_range_le p d a h]
    have e : p (a + d) = false := h _ (Nat.le_add_right _ _)
    simp [e]
/-- by the first so many places -/
theorem places_eq {T P : List Int} (hT : Byt T) (hP : Byt P) : places (bytesOf T) (bytesOf P) = (List.range (T.length + 1 - P.length)).filter fun i => decide ((T.drop i).take P.length = P) := by
  unfold places
  rw [bytesOf_length, bytesOf_length]
  have e : T.length + 1 = (T.length + 1 - P.length) + (T.length + 1 - (T.length + 1 - P.length)) := by omega
  have f1 : (List.range (T.length + 1)).filter (fun i => ((bytesOf T).drop i).take P.length == bytesOf P && decide (i + P.length ≤ T.length)) =
      (List.range (T.length + 1 - P.length)).filter (fun i => ((bytesOf T).drop i).take P.length == bytesOf P && decide (i + P.length ≤ T.length)) := by
    have := filter_range_le (fun i => ((bytesOf T).drop i).take P.length == bytesOf P && decide (i + P.length ≤ T.length)) (T.length + 1 - (T.length + 1 - P.length)) (T.length + 1 - P.length) fun i hi => by
      have : ¬ i + P.length ≤ T.length ∨ T.length + 1 ≤ P.length ∧ i + P.length ≤ T.length := by omega
      rcases this with h | ⟨h1, h2⟩
      · simp [h]
      · omega
    rw [← e] at this
    exact this
  rw [f1]
  refine List.filter_congr fun i hi => ?_
  have hi := List.mem_range.mp hi
  have h1 : i + P.length ≤ T.length := by omega
  rw [← bytesOf_drop, ← bytesOf_take, Bool.beq_eq_decide_eq, decide_eq_true h1, Bool.and_true]
  exact decide_eq_decide.mpr (bytesOf_inj ((hT.drop i).take _) hP)

/-! ### the calls in the flat list -/
theorem whole_id (c : List (List Int)) : PySh08.whole c = c := by
  unfold PySh08.whole
  split <;> rfl
theorem map_whole (cs : List (List (List Int))) : cs.map PySh08.whole = cs := by
  have e : (PySh08.whole : List (List Int) → List (List Int)) = id := funext whole_id
  rw [e, List.map_id]
theorem calls_nil {sh : Int → Option (Nat × Nat)} {f : Nat} {cs : List (List (List Int))} (h : PyFlat.calls sh f [] = some cs) : cs = [] := by
  cases f <;> exact (Option.some.inj h).symm
theorem calls_cons {sh : Int → Option (Nat × Nat)} {f : Nat} {p : Int} {r : List Int} {cs : List (List (List Int))} (h : PyFlat.calls sh f (p :: r) = some cs) :
    ∃ n k xs t cs' f', sh p = some (n, k) ∧ n ≤ r.length ∧ PyFlat.rows k (r.drop n) = some (xs, t) ∧ cs = ((p :: r.take n) :: xs) :: cs' ∧ PyFlat.calls sh f' t = some cs' := by
  cases f with
  | zero => cases h
  | succ f =>
    unfold PyFlat.calls at h
    cases hc : PyFlat.call sh (p :: r) with
    | none => rw [hc] at h; cases h
    | some ct =>
      obtain ⟨c, t⟩ := ct
      rw [hc] at h
      dsimp only at h
      cases hk : PyFlat.calls sh f t with
      | none => rw [hk] at h; cases h
      | some cs' =>
        rw [hk] at h
        dsimp only at h
        unfold PyFlat.call at hc
        dsimp only at hc
        cases hs : sh p with
        | none => rw [hs] at hc; cases hc
        | some nk =>
          obtain ⟨n, k⟩ := nk
          rw [hs] at hc
          dsimp only at hc
          by_cases hl : r.length < n
          · rw [if_pos hl] at hc; cases hc
          · rw [if_neg hl] at hc
            cases hr : PyFlat.rows k (r.drop n) with
            | none => rw [hr] at hc; cases hc
            | some xt =>
              obtain ⟨xs, t'⟩ := xt
              rw [hr] at hc
              dsimp only at hc
              cases hc
              exact ⟨n, k, xs, t, cs', f, rfl, by omega, hr, (Option.some.inj h).symm, hk⟩
theorem rows_zero {r t : List Int} {xs : List (List Int)} (h : PyFlat.rows 0 r = some (xs, t)) : xs = [] ∧ t = r := by
  cases h
  exact ⟨rfl, rfl⟩
theorem rows_one {r t : List Int} {xs : List (List Int)} (h : PyFlat.rows 1 r = some (xs, t)) : ∃ m r', r = m :: r' ∧ 0 ≤ m ∧ m.toNat ≤ r'.length ∧ xs = [r'.take m.toNat] ∧ t = r'.drop m.toNat := by
  unfold PyFlat.rows at h
  cases r with
  | nil => cases h
  | cons m r' =>
    cases hr : PyFlat.row (m :: r') with
    | none => rw [hr] at h; cases h
    | some xs' =>
      obtain ⟨x, s⟩ := xs'
      rw [hr] at h
      unfold PyFlat.row at hr
      dsimp only at hr
      by_cases hm : 0 ≤ m ∧ m.toNat ≤ r'.length
      · rw [if_pos hm] at hr
        cases hr
        dsimp only [PyFlat.rows] at h
        cases h
        exact ⟨m, r', rfl, hm.1, hm.2, rfl, rfl⟩
      · rw [if_neg hm] at hr; cases hr
theorem told_cons (a : List Int) (l : List (List Int)) : PyFlat.told (a :: l) = ((a.length : Int) :: a) ++ PyFlat.told l := rfl
theorem played_cons {S : Type} (st : S → List (List Int) → S × List Int) (s : S) (c : List (List Int)) (r : List (List (List Int))) : PyFlat.played st s (c :: r) = (st s c).2 :: PyFlat.played st (st s c).1 r := rfl

/-- the request, opened -/
theorem asked_open {l : List Int} (h : PySh08.answers_asked l = true) : ∃ cs f, PyFlat.calls PySh08.shape f l = some cs ∧ cs.length ≤ 100 ∧ (∀ c ∈ cs, asked1 c = true) ∧
    PySh08.answers l = PyFlat.told (PyFlat.played step start cs) ∧ ∃ u cs', cs = [[0], u] :: cs' := by
  unfold PySh08.answers_asked at h
  unfold PySh08.answers
  unfold PySh08.calls at h ⊢
  cases hc : PyFlat.calls PySh08.shape l.length l with
  | none => rw [hc] at h; cases h
  | some cs =>
    rw [hc] at h
    dsimp only at h ⊢
    rw [map_whole] at h
    rw [map_whole]
    rw [Bool.and_eq_true] at h
    obtain ⟨h1, h2⟩ := h
    have h1 : cs.length ≤ 100 := of_decide_eq_true h1
    unfold asked at h2
    simp only [Bool.and_eq_true, List.all_eq_true] at h2
    refine ⟨cs, _, hc, h1, h2.1, rfl, ?_⟩
    have h3 := h2.2.2.2.2
    split at h3
    · exact ⟨_, _, rfl⟩
    · cases h3
end Te
end
section
set_option autoImplicit false
namespace Te
open Sh08 Sh08Neutral

/-! ### the first of the least turns -/
def pickT (t : Bytes) (b i : Nat) : Nat := if below (turned t i) (turned t b) = true then i else b
/-- of the places below m (and b) the first one that comes first -/
def FirstT (t : Bytes) (m b : Nat) : Prop := b < m ∧ (∀ j, j < m → below (turned t j) (turned t b) = false) ∧ ∀ j, j < b → below (turned t b) (turned t j) = true
theorem firstT_step {t : Bytes} {m b : Nat} (h : FirstT t m b) : FirstT t (m + 1) (pickT t b m) := by
  obtain ⟨h1, h2, h3⟩ := h
  unfold pickT
  cases q : below (turned t m) (turned t b) with
  | true =>
    rw [if_pos rfl]
    have low : ∀ j, j < m → below (turned t m) (turned t j) = true := fun j hj => by
      rcases below_nt (turned t m) (turned t j) (turned t b) q with z | z
      · exact z
      · rw [h2 j hj] at z
        cases z
    refine ⟨by omega, fun j hj => ?_, low⟩
    by_cases e : j = m
    · subst e
      exact below_irrefl _
    · exact below_asymm (low j (by omega))
  | false =>
    rw [if_neg (by decide)]
    refine ⟨by omega, fun j hj => ?_, h3⟩
    by_cases e : j = m
    · subst e
      exact q
    · exact h2 j (by omega)
theorem firstT_one (t : Bytes) : FirstT t 1 0 := ⟨by omega, fun j hj => by
  have : j = 0 := by omega
  subst this
  exact below_irrefl _, fun j hj => by omega⟩
theorem firstT_fold (t : Bytes) : ∀ d, FirstT t (d + 1) ((List.range (d + 1)).foldl (pickT t) 0)
  | 0 => by
    have e : (List.range 1).foldl (pickT t) 0 = 0 := by
      show pickT t 0 0 = 0
      unfold pickT
      split <;> rfl
    rw [e]
    exact firstT_one t
  | d + 1 => by
    rw [List.range_succ, List.foldl_append]
    exact firstT_step (firstT_fold t d)
theorem firstT_unique {t : Bytes} {m a b : Nat} (ha : FirstT t m a) (hb : FirstT t m b) : a = b := by
  rcases Nat.lt_trichotomy a b with h | h | h
  · have := hb.2.2 a h
    rw [ha.2.1 b hb.1] at this
    cases this
  · exact h
  · have := ha.2.2 b h
    rw [hb.2.1 a ha.1] at this
    cases this
/-- what turn answers -/
theorem turn_eq {t : Bytes} {b : Nat} (h : FirstT t t.length b) : (List.range t.length).foldl (fun (b i : Nat) => if below (turned t i) (turned t b) = true then i else b) 0 = b := by
  have h0 : 0 < t.length := by
    have := h.1
    omega
  obtain ⟨d, e⟩ : ∃ d, t.length = d + 1 := ⟨t.length - 1, by omega⟩
  refine firstT_unique (m := t.length) ?_ h
  have := firstT_fold t d
  rw [← e] at this
  exact this

/-! ### one call in the flat list -/
def wn (p : Int) : Nat := if p = 4 then 2 else if p = 2 ∨ p = 3 ∨ p = 6 ∨ p = 7 ∨ p = 9 then 1 else 0
def hr (p : Int) : Bool := decide (p = 0 ∨ p = 5 ∨ p = 6 ∨ p = 10)
theorem shape_some {p : Int} {n k : Nat} (h : PySh08.shape p = some (n, k)) : 0 ≤ p ∧ p ≤ 11 ∧ n = wn p ∧ k = if hr p = true then 1 else 0 := by
  unfold PySh08.shape at h
  by_cases e0 : p = 0
  · subst e0
    rw [if_pos rfl] at h
    cases h
    exact ⟨by decide, by decide, by decide, by decide⟩
  rw [if_neg e0] at h
  by_cases e1 : p = 1
  · subst e1
    rw [if_pos rfl] at h
    cases h
    exact ⟨by decide, by decide, by decide, by decide⟩
  rw [if_neg e1] at h
  by_cases e2 : p = 2
  · subst e2
    rw [if_pos rfl] at h
    cases h
    exact ⟨by decide, by decide, by decide, by decide⟩
  rw [if_neg e2] at h
  by_cases e3 : p = 3
  · subst e3
    rw [if_pos rfl] at h
    cases h
    exact ⟨by decide, by decide, by decide, by decide⟩
  rw [if_neg e3] at h
  by_cases e4 : p = 4
  · subst e4
    rw [if_pos rfl] at h
    cases h
    exact ⟨by decide, by decide, by decide, by decide⟩
  rw [if_neg e4] at h
  by_cases e5 : p = 5
  · subst e5
    rw [if_pos rfl] at h
    cases h
    exact ⟨by decide, by decide, by decide, by decide⟩
  rw [if_neg e5] at h
  by_cases e6 : p = 6
  · subst e6
    rw [if_pos rfl] at h
    cases h
    exact ⟨by decide, by decide, by decide, by decide⟩
  rw [if_neg e6] at h
  by_cases e7 : p = 7
  · subst e7
    rw [if_pos rfl] at h
    cases h
    exact ⟨by decide, by decide, by decide, by decide⟩
  rw [if_neg e7] at h
  by_cases e8 : p = 8
  · subst e8
    rw [if_pos rfl] at h
    cases h
    exact ⟨by decide, by decide, by decide, by decide⟩
  rw [if_neg e8] at h
  by_cases e9 : p = 9
  · subst e9
    rw [if_pos rfl] at h
    cases h
    exact ⟨by decide, by decide, by decide, by decide⟩
  rw [if_neg e9] at h
  by_cases e10 : p = 10
  · subst e10
    rw [if_pos rfl] at h
    cases h
    exact ⟨by decide, by decide, by decide, by decide⟩
  rw [if_neg e10] at h
  by_cases e11 : p = 11
  · subst e11
    rw [if_pos rfl] at h
    cases h
    exact ⟨by decide, by decide, by decide, by decide⟩
  rw [if_neg e11] at h
  cases h
def callOf (p : Int) (nums row : List Int) : List (List Int) := if hr p = true then [p :: nums, row] else [p :: nums]

/-- where the walk through the calls stands: at the place at0, with the text T, the numbers G given so far -/
structure Walk (l : List Int) (at0 : Nat) (T G : List Int) : Prop where
  ex : ∃ f cs, PyFlat.calls PySh08.shape f (l.drop at0) = some cs ∧ (∀ c ∈ cs, asked1 c = true) ∧ PySh08.answers l = G ++ PyFlat.told (PyFlat.played step (bytesOf T) cs) ∧ G.length + 22 * cs.length ≤ 2200
  le : at0 ≤ l.length
  byt : Byt T
  len : T.length ≤ 20
theorem walk_start {l : List Int} (h : PySh08.answers_asked l = true) : Walk l 0 [] [] := by
  obtain ⟨cs, f, h1, h2, h3, h4, _⟩ := asked_open h
  exact ⟨⟨f, cs, h1, h3, h4, by simp; omega⟩, Nat.zero_le _, Byt.nil, Nat.zero_le _⟩
theorem walk_end {l T G : List Int} (h : Walk l l.length T G) : PySh08.answers l = G := by
  obtain ⟨f, cs, h1, _, h3, _⟩ := h.ex
  rw [List.drop_length] at h1
  rw [calls_nil h1] at h3
  rw [h3]
  show G ++ [] = G
  exact List.append_nil _
theorem bytes_byt {b : List Int} {m : Nat} (h : bytes b m = true) : Byt b ∧ b.length ≤ m := by
  unfold bytes at h
  rw [Bool.and_eq_true, List.all_eq_true] at h
  refine ⟨fun x hx => ?_, of_decide_eq_true h.2⟩
  have := h.1 x hx
  unfold natural at this
  rw [Bool.and_eq_true] at this
  have h1 := of_decide_eq_true this.1
  have h2 : x < 2 ^ 8 := of_decide_eq_true this.2
  exact ⟨h1, by omega⟩
theorem nat_range {k : Int} (h : natural k 32 = true) : 0 ≤ k ∧ k < 4294967296 := by
  unfold natural at h
  rw [Bool.and_eq_true] at h
  exact ⟨of_decide_eq_true h.1, of_decide_eq_true h.2⟩
/-- what is asked of the call's parts -/
theorem asked_parts {p : Int} {nums row : List Int} (hp : 0 ≤ p ∧ p ≤ 11) (hn : nums.length = wn p) (h : asked1 (callOf p nums row) = true) :
    (∀ x ∈ nums, 0 ≤ x ∧ x < 4294967296) ∧ (hr p = true → Byt row ∧ row.length ≤ 40 ∧ (p = 0 → row.length ≤ 20)) := by
  obtain ⟨k, rfl, hk⟩ : ∃ k : Nat, p = (k : Int) ∧ k ≤ 11 := ⟨p.toNat, by omega, by omega⟩
  match k, hk with
  | 0, _ =>
    have e : nums = [] := List.length_eq_zero_iff.mp hn
    subst e
    have h : bytes row 20 = true := h
    obtain ⟨a, b⟩ := bytes_byt h
    exact ⟨fun x hx => by (cases hx), fun _ => ⟨a, by omega, fun _ => b⟩⟩
  | 1, _ =>
    have e : nums = [] := List.length_eq_zero_iff.mp hn
    subst e
    exact ⟨fun x hx => by (cases hx), fun z => by (cases z)⟩
  | 2, _ =>
    match nums, hn with
    | [a], _ =>
      have h : natural a 32 = true := h
      exact ⟨fun x hx => by rw [List.mem_singleton.mp hx]; exact nat_range h, fun z => by (cases z)⟩
  | 3, _ =>
    match nums, hn with
    | [a], _ =>
      have h : natural a 32 = true := h
      exact ⟨fun x hx => by rw [List.mem_singleton.mp hx]; exact nat_range h, fun z => by (cases z)⟩
  | 4, _ =>
    match nums, hn with
    | [a, b], _ =>
      have h : (natural a 32 && natural b 32) = true := h
      rw [Bool.and_eq_true] at h
      refine ⟨fun x hx => ?_, fun z => by (cases z)⟩
      rcases List.mem_cons.mp hx with rfl | hx
      · exact nat_range h.1
      · rw [List.mem_singleton.mp hx]
        exact nat_range h.2
  | 5, _ =>
    have e : nums = [] := List.length_eq_zero_iff.mp hn
    subst e
    have h : bytes row 40 = true := h
    obtain ⟨a, b⟩ := bytes_byt h
    exact ⟨fun x hx => by (cases hx), fun _ => ⟨a, b, fun z => by omega⟩⟩
  | 6, _ =>
    match nums, hn with
    | [a], _ =>
      have h : (natural a 32 && bytes row 40) = true := h
      rw [Bool.and_eq_true] at h
      obtain ⟨x1, x2⟩ := bytes_byt h.2
      exact ⟨fun x hx => by rw [List.mem_singleton.mp hx]; exact nat_range h.1, fun _ => ⟨x1, x2, fun z => by omega⟩⟩
  | 7, _ =>
    match nums, hn with
    | [a], _ =>
      have h : natural a 32 = true := h
      exact ⟨fun x hx => by rw [List.mem_singleton.mp hx]; exact nat_range h, fun z => by (cases z)⟩
  | 8, _ =>
    have e : nums = [] := List.length_eq_zero_iff.mp hn
    subst e
    exact ⟨fun x hx => by (cases hx), fun z => by (cases z)⟩
  | 9, _ =>
    match nums, hn with
    | [a], _ =>
      have h : natural a 32 = true := h
      exact ⟨fun x hx => by rw [List.mem_singleton.mp hx]; exact nat_range h, fun z => by (cases z)⟩
  | 10, _ =>
    have e : nums = [] := List.length_eq_zero_iff.mp hn
    subst e
    have h : bytes row 40 = true := h
    obtain ⟨a, b⟩ := bytes_byt h
    exact ⟨fun x hx => by (cases hx), fun _ => ⟨a, b, fun z => by omega⟩⟩
  | 11, _ =>
    have e : nums = [] := List.length_eq_zero_iff.mp hn
    subst e
    exact ⟨fun x hx => by (cases hx), fun z => by (cases z)⟩
  | k + 12, hk => omega
/-- an answer has 21 numbers at most -/
theorem step_len {T : List Int} (hl : T.length ≤ 20) (c : List (List Int)) : (step (bytesOf T) c).2.length ≤ 21 := by
  unfold step
  dsimp only
  repeat' split
  all_goals first
    | (simp only [List.length_cons, List.length_nil]; omega)
    | (show (_ :: Sh08Neutral.ints (orderOf (bytesOf T))).length ≤ 21
       rw [List.length_cons]
       have : (Sh08Neutral.ints (orderOf (bytesOf T))).length = T.length := by rw [Sh08Neutral.ints, List.length_map, orderOf_length, bytesOf_length]
       omega)
    | simp
/-- what a call leaves as the text -/
theorem step_text {T : List Int} {p : Int} {nums row : List Int} (hp : 0 ≤ p ∧ p ≤ 11) (hn : nums.length = wn p) (hr20 : p = 0 → row.length ≤ 20) : (step (bytesOf T) (callOf p nums row)).1 = if p = 0 then bytesOf row else bytesOf T := by
  obtain ⟨k, rfl, hk⟩ : ∃ k : Nat, p = (k : Int) ∧ k ≤ 11 := ⟨p.toNat, by omega, by omega⟩
  match k, hk with
  | 0, _ =>
    have e : nums = [] := List.length_eq_zero_iff.mp hn
    subst e
    have := hr20 rfl
    show (if MOST < row.length then (bytesOf T, [-1]) else (bytesOf row, [0]) : Bytes × List Int).1 = _
    rw [if_neg (by unfold MOST; omega)]
    rfl
  | 1, _ => match nums, hn with | [], _ => rfl
  | 2, _ => match nums, hn with | [a], _ => rfl
  | 3, _ => match nums, hn with | [a], _ => rfl
  | 4, _ => match nums, hn with | [a, b], _ => rfl
  | 5, _ => match nums, hn with | [], _ => rfl
  | 6, _ => match nums, hn with | [a], _ => rfl
  | 7, _ => match nums, hn with | [a], _ => rfl
  | 8, _ => match nums, hn with | [], _ => rfl
  | 9, _ => match nums, hn with | [a], _ => rfl
  | 10, _ => match nums, hn with | [], _ => rfl
  | 11, _ => match nums, hn with | [], _ => rfl
  | k + 12, hk => omega
/-- the row of a call -/
structure RowAt (l : List Int) (at1 : Nat) (p : Int) (row : List Int) : Prop where
  yes : hr p = true → l[at1]? = some (row.length : Int) ∧ row = (l.drop (at1 + 1)).take row.length ∧ at1 + 1 + row.length ≤ l.length
  no : hr p = false → row = []
  byt : Byt row
  le : row.length ≤ 40
  le0 : p = 0 → row.length ≤ 20
def behind (at1 : Nat) (p : Int) (row : List Int) : Nat := if hr p = true then at1 + 1 + row.length else at1
theorem walk_turn {l T G : List Int} {at0 : Nat} (h : Walk l at0 T G) (hlt : at0 < l.length) :
    ∃ p nums row, l[at0]? = some p ∧ (0 ≤ p ∧ p ≤ 11) ∧ nums = (l.drop (at0 + 1)).take (wn p) ∧ nums.length = wn p ∧ at0 + 1 + wn p ≤ l.length ∧ (∀ x ∈ nums, 0 ≤ x ∧ x < 4294967296) ∧ RowAt l (at0 + 1 + wn p) p row ∧
      (step (bytesOf T) (callOf p nums row)).2.length ≤ 21 ∧ G.length ≤ 2178 ∧
      Walk l (behind (at0 + 1 + wn p) p row) (if p = 0 then row else T) (G ++ (((step (bytesOf T) (callOf p nums row)).2.length : Int) :: (step (bytesOf T) (callOf p nums row)).2)) := by
  obtain ⟨⟨f, cs, hc, ha, hans, hz⟩, hle, hT, hlen⟩ := h
  have hd : l.drop at0 = l[at0] :: l.drop (at0 + 1) := List.drop_eq_getElem_cons hlt
  rw [hd] at hc
  obtain ⟨n, k, xs, t, cs', f', hs, hn, hrows, rfl, hcs⟩ := calls_cons hc
  obtain ⟨p0, p11, rfl, hk⟩ := shape_some hs
  have hnl : ((l.drop (at0 + 1)).take (wn l[at0])).length = wn l[at0] := by rw [List.length_take]; omega
  have hbound : at0 + 1 + wn l[at0] ≤ l.length := by
    rw [List.length_drop] at hn
    omega
  rw [List.drop_drop] at hrows
  have main : ∀ row : List Int, xs = (if hr l[at0] = true then [row] else []) → RowAt l (at0 + 1 + wn l[at0]) l[at0] row → t = l.drop (behind (at0 + 1 + wn l[at0]) l[at0] row) → behind (at0 + 1 + wn l[at0]) l[at0] row ≤ l.length →
      ∃ p nums row, l[at0]? = some p ∧ (0 ≤ p ∧ p ≤ 11) ∧ nums = (l.drop (at0 + 1)).take (wn p) ∧ nums.length = wn p ∧ at0 + 1 + wn p ≤ l.length ∧ (∀ x ∈ nums, 0 ≤ x ∧ x < 4294967296) ∧ RowAt l (at0 + 1 + wn p) p row ∧
      (step (bytesOf T) (callOf p nums row)).2.length ≤ 21 ∧ G.length ≤ 2178 ∧
      Walk l (behind (at0 + 1 + wn p) p row) (if p = 0 then row else T) (G ++ (((step (bytesOf T) (callOf p nums row)).2.length : Int) :: (step (bytesOf T) (callOf p nums row)).2)) := by
    intro row hx hrow ht hb
    have ec : ((l[at0] :: (l.drop (at0 + 1)).take (wn l[at0])) :: xs) = callOf l[at0] ((l.drop (at0 + 1)).take (wn l[at0])) row := by
      rw [hx]
      unfold callOf
      split <;> rfl
    rw [ec] at ha hans hz
    have hask := ha _ List.mem_cons_self
    have parts := asked_parts ⟨p0, p11⟩ hnl hask
    have hl21 := step_len hlen (callOf l[at0] ((l.drop (at0 + 1)).take (wn l[at0])) row)
    rw [List.length_cons] at hz
    refine ⟨l[at0], _, row, List.getElem?_eq_getElem hlt, ⟨p0, p11⟩, rfl, hnl, hbound, parts.1, hrow, hl21, by omega, ⟨⟨f', cs', by rw [← ht]; exact hcs, fun c hc => ha c (List.mem_cons_of_mem _ hc), ?_, ?_⟩, hb, ?_, ?_⟩⟩
    · rw [hans, played_cons, told_cons, step_text ⟨p0, p11⟩ hnl hrow.le0, List.append_assoc]
      split <;> rfl
    · rw [List.length_append, List.length_cons]
      omega
    · split
      · exact hrow.byt
      · exact hT
    · split
      · rename_i e
        exact hrow.le0 e
      · exact hlen
  cases hrp : hr l[at0] with
  | false =>
    rw [hrp] at hk
    rw [if_neg (by decide)] at hk
    subst hk
    obtain ⟨rfl, rfl⟩ := rows_zero hrows
    refine main [] (by rw [hrp]; rfl) ⟨fun z => (by rw [hrp] at z; cases z), fun _ => rfl, Byt.nil, Nat.zero_le _, fun _ => Nat.zero_le _⟩ ?_ ?_
    · unfold behind
      rw [hrp]
      rfl
    · unfold behind
      rw [hrp]
      exact hbound
  | true =>
    rw [hrp] at hk
    rw [if_pos rfl] at hk
    subst hk
    obtain ⟨m, r', hr', hm0, hml, rfl, rfl⟩ := rows_one hrows
    have hlt1 : at0 + 1 + wn l[at0] < l.length := by
      have := congrArg List.length hr'
      rw [List.length_drop, List.length_cons] at this
      omega
    rw [List.drop_eq_getElem_cons hlt1] at hr'
    injection hr' with e1 e2
    have hrl : (r'.take m.toNat).length = m.toNat := by rw [List.length_take]; omega
    have hb2 : at0 + 1 + wn l[at0] + 1 + m.toNat ≤ l.length := by
      have := congrArg List.length e2
      rw [List.length_drop] at this
      omega
    have hask := ha _ List.mem_cons_self
    have ec : ((l[at0] :: (l.drop (at0 + 1)).take (wn l[at0])) :: [r'.take m.toNat]) = callOf l[at0] ((l.drop (at0 + 1)).take (wn l[at0])) (r'.take m.toNat) := by
      unfold callOf
      rw [hrp]
      rfl
    rw [ec] at hask
    have parts := (asked_parts ⟨p0, p11⟩ hnl hask).2 hrp
    refine main (r'.take m.toNat) (by rw [hrp]; rfl) ⟨fun _ => ⟨?_, ?_, ?_⟩, fun z => (by rw [hrp] at z; cases z), parts.1, parts.2.1, parts.2.2⟩ ?_ ?_
    · rw [List.getElem?_eq_getElem hlt1, e1, hrl]
      congr 1
      omega
    · rw [hrl, e2]
    · rw [hrl]
      exact hb2
    · unfold behind
      rw [hrp, if_pos rfl, hrl, ← e2, List.drop_drop]
    · unfold behind
      rw [hrp, if_pos rfl, hrl]
      exact hb2
end Te
end
section
set_option autoImplicit false
namespace Te
open Sh08 Sh08Neutral

/-! ### pieces -/
theorem mem_pieces {t p : Bytes} : p ∈ pieces t ↔ ∃ i n, i + n + 1 ≤ t.length ∧ p = (t.drop i).take (n + 1) := by
  unfold pieces
  simp only [List.mem_flatMap, List.mem_map, List.mem_range]
  constructor
  · rintro ⟨i, hi, n, hn, rfl⟩
    exact ⟨i, n, by omega, rfl⟩
  · rintro ⟨i, n, h, rfl⟩
    exact ⟨i, by omega, n, by omega, rfl⟩
/-- a run of one or more of the numbers of T -/
def IsPiece (T R : List Int) : Prop := ∃ i n : Nat, i + n + 1 ≤ T.length ∧ R = (T.drop i).take (n + 1)
theorem IsPiece.byt {T R : List Int} (h : IsPiece T R) (hT : Byt T) : Byt R := by
  obtain ⟨i, n, _, rfl⟩ := h
  exact (hT.drop i).take _
theorem IsPiece.len {T R : List Int} (h : IsPiece T R) : 1 ≤ R.length ∧ R.length ≤ T.length := by
  obtain ⟨i, n, h, rfl⟩ := h
  rw [List.length_take, List.length_drop]
  omega
theorem IsPiece.mem {T R : List Int} (h : IsPiece T R) : bytesOf R ∈ pieces (bytesOf T) := by
  obtain ⟨i, n, h, rfl⟩ := h
  exact mem_pieces.mpr ⟨i, n, by rw [bytesOf_length]; exact h, by rw [bytesOf_take, bytesOf_drop]⟩
theorem piece_of {T : List Int} {p : Bytes} (h : p ∈ pieces (bytesOf T)) : ∃ R, IsPiece T R ∧ p = bytesOf R := by
  obtain ⟨i, n, hl, rfl⟩ := mem_pieces.mp h
  have h : i + n + 1 ≤ T.length := by
    have e : List.length (bytesOf T) = T.length := bytesOf_length T
    omega
  exact ⟨(T.drop i).take (n + 1), ⟨i, n, h, rfl⟩, by rw [bytesOf_take, bytesOf_drop]⟩
/-- all different pieces in order, as whole numbers -/
structure DiffI (T : List Int) (L : List (List Int)) : Prop where
  sorted : L.Pairwise fun a b => lexI a b = true
  all : ∀ R, R ∈ L ↔ IsPiece T R
theorem DiffI.eq {T : List Int} {L : List (List Int)} (h : DiffI T L) (hT : Byt T) : differentOf (bytesOf T) = L.map bytesOf := by
  refine (different_unique ?_ fun x => ?_).symm
  · rw [List.pairwise_map]
    refine h.sorted.imp_of_mem fun {a b} ha hb q => ?_
    rw [below_bytesOf (((h.all a).mp ha).byt hT) (((h.all b).mp hb).byt hT)]
    exact q
  · constructor
    · intro hx
      obtain ⟨R, hR, rfl⟩ := List.mem_map.mp hx
      exact ((h.all R).mp hR).mem
    · intro hx
      obtain ⟨R, hR, rfl⟩ := piece_of hx
      exact List.mem_map_of_mem ((h.all R).mpr hR)
/-! ### the longest, of these the first -/
def longer (b p : List Int) : List Int := if b.length < p.length then p else b
theorem longest_fold {T : List Int} (hT : Byt T) : ∀ (L : List (List Int)), (∀ R ∈ L, Byt R ∧ 1 ≤ R.length) → L.Pairwise (fun a b => lexI a b = true) →
    (L = [] → L.foldl longer [] = []) ∧ (L ≠ [] → L.foldl longer [] ∈ L ∧ best (L.map bytesOf) = some (bytesOf (L.foldl longer []))) := by
  intro L
  -- from the end: what holds of a part holds of one more
  have go : ∀ (L : List (List Int)) (pre : List (List Int)) (r : List Int), (∀ R ∈ pre ++ L, Byt R ∧ 1 ≤ R.length) → (pre ++ L).Pairwise (fun a b => lexI a b = true) →
      (r ∈ pre ∧ ∀ x ∈ pre, ¬ better (bytesOf x) (bytesOf r)) → (L.foldl longer r ∈ pre ++ L ∧ ∀ x ∈ pre ++ L, ¬ better (bytesOf x) (bytesOf (L.foldl longer r))) := by
    intro L
    induction L with
    | nil =>
      intro pre r _ _ h
      rw [List.append_nil]
      exact h
    | cons y L ih =>
      intro pre r hb hs h
      have e : pre ++ y :: L = (pre ++ [y]) ++ L := by simp
      rw [e] at hb hs ⊢
      rw [List.foldl_cons]
      refine ih (pre ++ [y]) (longer r y) hb hs ?_
      have hs' := List.pairwise_append.mp (List.pairwise_append.mp hs).1
      unfold longer
      by_cases q : r.length < y.length
      · rw [if_pos q]
        refine ⟨List.mem_append_right _ (List.mem_singleton.mpr rfl), fun x hx => ?_⟩
        rcases List.mem_append.mp hx with hx | hx
        · have h1 := h.2 x hx
          unfold better at h1 ⊢
          rw [bytesOf_length, bytesOf_length] at h1 ⊢
          rintro (z | ⟨z, _⟩)
          · exact h1 (.inl (by omega))
          · exact h1 (.inl (by omega))
        · rw [List.mem_singleton.mp hx]
          exact better_irrefl _
      · rw [if_neg q]
        refine ⟨List.mem_append_left _ h.1, fun x hx => ?_⟩
        rcases List.mem_append.mp hx with hx | hx
        · exact h.2 x hx
        · rw [List.mem_singleton.mp hx]
          unfold better
          rw [bytesOf_length, bytesOf_length]
          rintro (z | ⟨_, z⟩)
          · omega
          · have h1 := hs'.2.2 r h.1 y (List.mem_singleton.mpr rfl)
            have by1 := (hb r (List.mem_append_left _ (List.mem_append_left _ h.1))).1
            have by2 := (hb y (List.mem_append_left _ (List.mem_append_right _ (List.mem_singleton.mpr rfl)))).1
            rw [← below_bytesOf by1 by2] at h1
            rw [below_asymm h1] at z
            cases z
  intro hb hs
  refine ⟨fun e => by rw [e]; rfl, fun hne => ?_⟩
  cases L with
  | nil => exact absurd rfl hne
  | cons y L =>
    have hy := hb y List.mem_cons_self
    have e : longer [] y = y := by
      unfold longer
      rw [if_pos (show ([] : List Int).length < y.length from hy.2)]
    rw [List.foldl_cons, e]
    have h := go L [y] y hb hs ⟨List.mem_singleton.mpr rfl, fun x hx => by rw [List.mem_singleton.mp hx]; exact better_irrefl _⟩
    refine ⟨h.1, best_some.mpr ⟨List.mem_map_of_mem h.1, fun x hx => ?_⟩⟩
    obtain ⟨R, hR, rfl⟩ := List.mem_map.mp hx
    exact h.2 R hR

/-! ### what each call answers -/
def ansOf0 (T : List Int) (c : List (List Int)) : List Int := (step (bytesOf T) c).2
theorem ans1 (T : List Int) : ansOf0 T [[1]] = (T.length : Int) :: Sh08Neutral.ints (orderOf (bytesOf T)) := by
  show ((bytesOf T).length : Int) :: _ = _
  rw [bytesOf_length]
theorem ans2 (T : List Int) (k : Int) : ansOf0 T [[2, k]] = [match (orderOf (bytesOf T))[k.toNat]? with
    | some i => (i : Int)
    | none => -2] := by
  show (match (orderOf (bytesOf T))[k.toNat]? with
    | some i => [(i : Int)]
    | none => [-2]) = _
  split <;> rfl
theorem ans3 (T : List Int) (i : Int) : ansOf0 T [[3, i]] = [if (T.length : Int) ≤ i then -2 else (((orderOf (bytesOf T)).findIdx fun j => j == i.toNat : Nat) : Int)] := by
  show (if ((bytesOf T).length : Int) ≤ i then [-2] else [(((orderOf (bytesOf T)).findIdx fun j => j == i.toNat : Nat) : Int)]) = _
  rw [bytesOf_length]
  split <;> rfl
theorem ans4 (T : List Int) (i j : Int) : ansOf0 T [[4, i, j]] = [if (T.length : Int) < i ∨ (T.length : Int) < j then -2 else (Sh08.common ((bytesOf T).drop i.toNat) ((bytesOf T).drop j.toNat) : Int)] := by
  show (if ((bytesOf T).length : Int) < i ∨ ((bytesOf T).length : Int) < j then [-2] else [(Sh08.common ((bytesOf T).drop i.toNat) ((bytesOf T).drop j.toNat) : Int)]) = _
  rw [bytesOf_length]
  split <;> rfl
theorem notMost {R : List Int} (h : R.length ≤ 40) : (R.length = 0 ∨ MOST < R.length) ↔ R.length = 0 := by
  unfold MOST
  omega
theorem ans5 (T R : List Int) (h : R.length ≤ 40) : ansOf0 T [[5], R] = [if R.length = 0 then -1 else ((places (bytesOf T) (bytesOf R)).length : Int)] := by
  show (if R.length = 0 ∨ MOST < R.length then [-1] else [((places (bytesOf T) (bytesOf R)).length : Int)]) = _
  by_cases e : R.length = 0
  · rw [if_pos ((notMost h).mpr e), if_pos e]
  · rw [if_neg fun z => e ((notMost h).mp z), if_neg e]
theorem ans6 (T R : List Int) (k : Int) (h : R.length ≤ 40) : ansOf0 T [[6, k], R] = [if R.length = 0 then -1 else match (places (bytesOf T) (bytesOf R))[k.toNat]? with
    | some i => (i : Int)
    | none => -2] := by
  show (if R.length = 0 ∨ MOST < R.length then [-1] else match (places (bytesOf T) (bytesOf R))[k.toNat]? with
    | some i => [(i : Int)]
    | none => [-2]) = _
  by_cases e : R.length = 0
  · rw [if_pos ((notMost h).mpr e), if_pos e]
  · rw [if_neg fun z => e ((notMost h).mp z), if_neg e]
    split <;> rfl
def firstI (T R : List Int) : Int := (first (bytesOf T) (bytesOf R) : Int)
theorem ans8 {T : List Int} {L : List (List Int)} (hT : Byt T) (h : DiffI T L) : ansOf0 T [[8]] = [(L.length : Int)] := by
  show [((differentOf (bytesOf T)).length : Int)] = _
  rw [h.eq hT, List.length_map]
theorem ans9 {T : List Int} {L : List (List Int)} (hT : Byt T) (h : DiffI T L) (k : Int) : ansOf0 T [[9, k]] = match L[k.toNat]? with
    | some R => [(R.length : Int), firstI T R]
    | none => [-2] := by
  show (match (differentOf (bytesOf T))[k.toNat]? with
    | some p => [(p.length : Int), (first (bytesOf T) p : Int)]
    | none => [-2]) = _
  rw [h.eq hT, List.getElem?_map]
  cases L[k.toNat]? with
  | none => rfl
  | some R =>
    show [((bytesOf R).length : Int), (first (bytesOf T) (bytesOf R) : Int)] = _
    rw [bytesOf_length]
    rfl
theorem filter_bytes (L : List (List Int)) (f : Bytes → Bool) : (L.map bytesOf).filter f = (L.filter fun R => f (bytesOf R)).map bytesOf := by
  induction L with
  | nil => rfl
  | cons x L ih =>
    rw [List.map_cons, List.filter_cons, List.filter_cons, ih]
    split <;> rfl
/-- repeat and shared: by the longest of those that fit -/
theorem best_in {T : List Int} {L : List (List Int)} (hT : Byt T) (h : DiffI T L) (f : Bytes → Bool) :
    best ((differentOf (bytesOf T)).filter f) = (let M := L.filter fun R => f (bytesOf R)
      if M = [] then none else some (bytesOf (M.foldl longer []))) := by
  rw [h.eq hT, filter_bytes]
  dsimp only
  have hb : ∀ R ∈ L.filter (fun R => f (bytesOf R)), Byt R ∧ 1 ≤ R.length := fun R hR => by
    have := (h.all R).mp (List.mem_filter.mp hR).1
    exact ⟨this.byt hT, this.len.1⟩
  have hf := longest_fold hT (L.filter fun R => f (bytesOf R)) hb (h.sorted.filter _)
  by_cases e : L.filter (fun R => f (bytesOf R)) = []
  · rw [if_pos e, e]
    rfl
  · rw [if_neg e]
    exact (hf.2 e).2
theorem ans7 {T : List Int} {L : List (List Int)} (hT : Byt T) (h : DiffI T L) (k : Int) : ansOf0 T [[7, k]] = if k = 0 then [-1] else
    (let M := L.filter fun R => decide (k.toNat ≤ (places (bytesOf T) (bytesOf R)).length)
     if M = [] then [0] else [((M.foldl longer []).length : Int), firstI T (M.foldl longer [])]) := by
  show (if k = 0 then [-1] else match best ((differentOf (bytesOf T)).filter fun p => decide (k.toNat ≤ (places (bytesOf T) p).length)) with
    | some p => [(p.length : Int), (first (bytesOf T) p : Int)]
    | none => [0]) = _
  rw [best_in hT h]
  dsimp only
  by_cases e0 : k = 0
  · rw [if_pos e0, if_pos e0]
  rw [if_neg e0, if_neg e0]
  by_cases e : L.filter (fun R => decide (k.toNat ≤ (places (bytesOf T) (bytesOf R)).length)) = []
  · rw [if_pos e, if_pos e]
  · rw [if_neg e, if_neg e]
    show [((bytesOf _).length : Int), _] = _
    rw [bytesOf_length]
    rfl
theorem ans10 {T U : List Int} {L : List (List Int)} (hT : Byt T) (h : DiffI T L) (hU : U.length ≤ 40) : ansOf0 T [[10], U] =
    (let M := L.filter fun R => (places (bytesOf U) (bytesOf R)) != []
     if M = [] then [0] else [((M.foldl longer []).length : Int), firstI T (M.foldl longer []), firstI U (M.foldl longer [])]) := by
  show (if MOST < U.length then [-1] else match best ((differentOf (bytesOf T)).filter fun p => (places (bytesOf U) p) != []) with
    | some p => [(p.length : Int), (first (bytesOf T) p : Int), (first (bytesOf U) p : Int)]
    | none => [0]) = _
  rw [if_neg (by unfold MOST; omega), best_in hT h]
  dsimp only
  by_cases e : L.filter (fun R => (places (bytesOf U) (bytesOf R)) != []) = []
  · rw [if_pos e, if_pos e]
  · rw [if_neg e, if_neg e]
    show [((bytesOf _).length : Int), _, _] = _
    rw [bytesOf_length]
    rfl
theorem ans11 (T : List Int) {b : Nat} (h : T ≠ [] → FirstT (bytesOf T) (bytesOf T).length b) : ansOf0 T [[11]] = [if T.length = 0 then -2 else (b : Int)] := by
  show (if ((bytesOf T).length : Int) = 0 then [-2] else [(((List.range (bytesOf T).length).foldl (fun (b i : Nat) => if below (turned (bytesOf T) i) (turned (bytesOf T) b) = true then i else b) 0 : Nat) : Int)]) = _
  by_cases e : T.length = 0
  · rw [if_pos (by rw [bytesOf_length, e]; rfl), if_pos e]
  · rw [if_neg (by rw [bytesOf_length]; omega), if_neg e, turn_eq (h fun z => e (by rw [z]; rfl))]

/-! ### the pieces by the endings in order -/
theorem lexI_prefix : ∀ (l : List Int) (a b : Nat), a < b → b ≤ l.length → lexI (l.take a) (l.take b) = true
  | [], a, b, h, hb => by simp at hb; omega
  | x :: l, 0, b + 1, _, _ => rfl
  | x :: l, a + 1, b + 1, h, hb => by
    rw [List.take_succ_cons, List.take_succ_cons]
    show (if x = x then lexI (l.take a) (l.take b) else decide (x < x)) = true
    rw [if_pos rfl]
    exact lexI_prefix l a b (by omega) (by simpa using hb)
end Te
end
section
set_option autoImplicit false
namespace Te
open Sh08 Sh08Neutral

/-! ### the order of lists of whole numbers -/
theorem lexI_irrefl : ∀ a : List Int, lexI a a = false
  | [] => rfl
  | x :: a => by
    show (if x = x then lexI a a else decide (x < x)) = false
    rw [if_pos rfl]
    exact lexI_irrefl a
theorem lexI_cons_iff (x y : Int) (a b : List Int) : lexI (x :: a) (y :: b) = true ↔ x < y ∨ (x = y ∧ lexI a b = true) := by
  show (if x = y then lexI a b else decide (x < y)) = true ↔ _
  by_cases e : x = y
  · rw [if_pos e]
    constructor
    · intro h
      exact .inr ⟨e, h⟩
    · rintro (h | ⟨_, h⟩)
      · omega
      · exact h
  · rw [if_neg e]
    constructor
    · intro h
      exact .inl (of_decide_eq_true h)
    · rintro (h | ⟨h, _⟩)
      · exact decide_eq_true h
      · exact absurd h e
theorem lexI_nil_right (a : List Int) : lexI a [] = false := by cases a <;> rfl
theorem lexI_trans : ∀ a b c : List Int, lexI a b = true → lexI b c = true → lexI a c = true
  | _, [], _, h, _ => by rw [lexI_nil_right] at h; cases h
  | _, _ :: _, [], _, k => by rw [lexI_nil_right] at k; cases k
  | [], _ :: _, _ :: _, _, _ => rfl
  | x :: a, y :: b, z :: c, h, k => by
    rw [lexI_cons_iff] at h k ⊢
    rcases h with h | ⟨rfl, h⟩
    · rcases k with k | ⟨rfl, k⟩
      · exact .inl (by omega)
      · exact .inl h
    · rcases k with k | ⟨rfl, k⟩
      · exact .inl k
      · exact .inr ⟨rfl, lexI_trans a b c h k⟩
theorem lexI_total : ∀ a b : List Int, lexI a b = false → lexI b a = false → a = b
  | [], [], _, _ => rfl
  | [], _ :: _, h, _ => by cases h
  | _ :: _, [], _, k => by cases k
  | x :: a, y :: b, h, k => by
    have h' : ¬ (x < y ∨ (x = y ∧ lexI a b = true)) := fun q => by
      rw [(lexI_cons_iff x y a b).mpr q] at h
      cases h
    have k' : ¬ (y < x ∨ (y = x ∧ lexI b a = true)) := fun q => by
      rw [(lexI_cons_iff y x b a).mpr q] at k
      cases k
    have e : x = y := by omega
    subst e
    rw [lexI_total a b]
    · cases q : lexI a b with
      | false => rfl
      | true => exact absurd (.inr ⟨rfl, q⟩) h'
    · cases q : lexI b a with
      | false => rfl
      | true => exact absurd (.inr ⟨rfl, q⟩) k'
/-- how much two have in common -/
def comm : List Int → List Int → Nat
  | x :: a, y :: b => if x = y then comm a b + 1 else 0
  | _, _ => 0
theorem comm_bytes : ∀ {a b : List Int}, Byt a → Byt b → Sh08.common (bytesOf a) (bytesOf b) = comm a b
  | [], [], _, _ => rfl
  | [], _ :: _, _, _ => rfl
  | _ :: _, [], _, _ => rfl
  | x :: a, y :: b, ha, hb => by
    rw [bytesOf_cons, bytesOf_cons, common_cons, comm_bytes ha.tail hb.tail]
    have e := byte_eq (ha x List.mem_cons_self) (hb y List.mem_cons_self)
    show _ = if x = y then comm a b + 1 else 0
    by_cases q : x = y
    · rw [if_pos q, if_pos (e.mpr q)]
    · rw [if_neg q, if_neg fun z => q (e.mp z)]
theorem comm_take : ∀ (a b : List Int) (m : Nat), m ≤ comm a b → a.take m = b.take m
  | _, _, 0, _ => by simp
  | [], b, m + 1, h => by
    have : comm [] b = 0 := by cases b <;> rfl
    omega
  | x :: a, [], m + 1, h => by
    have : comm (x :: a) [] = 0 := rfl
    omega
  | x :: a, y :: b, m + 1, h => by
    have h : m + 1 ≤ if x = y then comm a b + 1 else 0 := h
    by_cases e : x = y
    · rw [if_pos e] at h
      rw [List.take_succ_cons, List.take_succ_cons, e, comm_take a b m (by omega)]
    · rw [if_neg e] at h
      omega
/-- what goes on behind the common part comes behind -/
theorem lexI_beyond : ∀ (a e : List Int) (m : Nat), lexI a e = true → comm a e < m → lexI a (e.take m) = true
  | [], [], _, h, _ => by cases h
  | [], y :: e, 0, _, k => by omega
  | [], y :: e, m + 1, _, _ => rfl
  | x :: a, [], _, h, _ => by cases h
  | x :: a, y :: e, 0, _, k => by omega
  | x :: a, y :: e, m + 1, h, k => by
    rw [List.take_succ_cons]
    rw [lexI_cons_iff] at h ⊢
    rcases h with h | ⟨rfl, h⟩
    · exact .inl h
    · refine .inr ⟨rfl, lexI_beyond a e m h ?_⟩
      have k : (if x = x then comm a e + 1 else 0) < m + 1 := k
      rw [if_pos rfl] at k
      omega
theorem prefix_le (l : List Int) (k : Nat) : l.take k = l ∨ lexI (l.take k) l = true := by
  by_cases h : k < l.length
  · right
    have := lexI_prefix l k l.length h (Nat.le_refl _)
    rwa [List.take_length] at this
  · left
    exact List.take_of_length_le (by omega)

/-! ### all pieces, by the endings in order: of each what its forerunner doesn't begin with -/
def newOf (prev e : List Int) : List (List Int) := (List.range' (comm prev e + 1) (e.length - comm prev e)).map fun m => e.take m
/-- the endings es, in order, behind prev -/
def piecesBy : List Int → List (List Int) → List (List Int)
  | _, [] => []
  | prev, e :: es => newOf prev e ++ piecesBy e es
theorem comm_le_right : ∀ a b : List Int, comm a b ≤ b.length
  | [], b => by
    have : comm [] b = 0 := by cases b <;> rfl
    omega
  | x :: a, [] => Nat.le_refl _
  | x :: a, y :: b => by
    show (if x = y then comm a b + 1 else 0) ≤ b.length + 1
    have := comm_le_right a b
    split <;> omega
theorem mem_newOf {prev e R : List Int} : R ∈ newOf prev e ↔ ∃ m, comm prev e < m ∧ m ≤ e.length ∧ R = e.take m := by
  unfold newOf
  rw [List.mem_map]
  constructor
  · rintro ⟨m, hm, rfl⟩
    rw [List.mem_range'] at hm
    obtain ⟨i, hi, rfl⟩ := hm
    exact ⟨_, by omega, by omega, rfl⟩
  · rintro ⟨m, h1, h2, rfl⟩
    exact ⟨m, List.mem_range'.mpr ⟨m - (comm prev e + 1), by omega, by omega⟩, rfl⟩
theorem newOf_sorted (prev e : List Int) : (newOf prev e).Pairwise fun a b => lexI a b = true := by
  unfold newOf
  rw [List.pairwise_map]
  refine (List.pairwise_lt_range' (s := comm prev e + 1) (n := e.length - comm prev e)).imp_of_mem fun {a b} ha hb h => ?_
  rw [List.mem_range'] at hb
  obtain ⟨i, hi, rfl⟩ := hb
  exact lexI_prefix e _ _ h (by omega)
theorem piecesBy_spec : ∀ (es : List (List Int)) (prev : List Int), (prev :: es).Pairwise (fun a b => lexI a b = true) →
    (piecesBy prev es).Pairwise (fun a b => lexI a b = true) ∧ (∀ R, R ∈ piecesBy prev es → lexI prev R = true) ∧
    ∀ R, (R ∈ piecesBy prev es ∨ ∃ m, 1 ≤ m ∧ m ≤ prev.length ∧ R = prev.take m) ↔ (∃ e ∈ prev :: es, ∃ m, 1 ≤ m ∧ m ≤ e.length ∧ R = e.take m)
  | [], prev, _ => by
    refine ⟨List.Pairwise.nil, fun R h => (by cases h), fun R => ?_⟩
    constructor
    · rintro (h | h)
      · cases h
      · exact ⟨prev, List.mem_cons_self, h⟩
    · rintro ⟨e, he, h⟩
      rw [List.mem_singleton.mp he] at h
      exact .inr h
  | e :: es, prev, hs => by
    have hs' := List.pairwise_cons.mp hs
    have hpe : lexI prev e = true := hs'.1 e List.mem_cons_self
    obtain ⟨i1, i2, i3⟩ := piecesBy_spec es e hs'.2
    refine ⟨List.pairwise_append.mpr ⟨newOf_sorted prev e, i1, fun a ha b hb => ?_⟩, fun R hR => ?_, fun R => ?_⟩
    · obtain ⟨m, _, _, rfl⟩ := mem_newOf.mp ha
      have h2 := i2 b hb
      rcases prefix_le e m with q | q
      · rw [q]
        exact h2
      · exact lexI_trans _ _ _ q h2
    · rcases List.mem_append.mp hR with hR | hR
      · obtain ⟨m, h1, _, rfl⟩ := mem_newOf.mp hR
        exact lexI_beyond prev e m hpe h1
      · exact lexI_trans _ _ _ hpe (i2 R hR)
    · constructor
      · rintro (h | h)
        · rcases List.mem_append.mp h with h | h
          · obtain ⟨m, h1, h2, rfl⟩ := mem_newOf.mp h
            exact ⟨e, List.mem_cons_of_mem _ List.mem_cons_self, m, by omega, h2, rfl⟩
          · obtain ⟨e', he', h'⟩ := (i3 R).mp (.inl h)
            exact ⟨e', List.mem_cons_of_mem _ he', h'⟩
        · exact ⟨prev, List.mem_cons_self, h⟩
      · rintro ⟨e', he', m, h1, h2, rfl⟩
        rcases List.mem_cons.mp he' with rfl | he'
        · exact .inr ⟨m, h1, h2, rfl⟩
        · rcases (i3 _).mpr ⟨e', he', m, h1, h2, rfl⟩ with h | ⟨m', h1', h2', e2⟩
          · exact .inl (List.mem_append_right _ h)
          · rw [e2]
            by_cases q : m' ≤ comm prev e
            · right
              refine ⟨m', h1', ?_, (comm_take prev e m' q).symm⟩
              have := congrArg List.length (comm_take prev e m' q)
              rw [List.length_take, List.length_take] at this
              omega
            · exact .inl (List.mem_append_left _ (mem_newOf.mpr ⟨m', by omega, h2', rfl⟩))
/-- behind the empty one: all pieces, in order -/
theorem diff_by {T : List Int} {o : List Nat} (hp : o.Perm (List.range T.length)) (hs : o.Pairwise fun i j => lexI (T.drop i) (T.drop j) = true) : DiffI T (piecesBy [] (o.map fun i => T.drop i)) := by
  have h0 : ([] :: o.map fun i => T.drop i).Pairwise (fun a b => lexI a b = true) := by
    refine List.pairwise_cons.mpr ⟨fun e he => ?_, ?_⟩
    · obtain ⟨i, hi, rfl⟩ := List.mem_map.mp he
      have hi : i < T.length := List.mem_range.mp (hp.mem_iff.mp hi)
      rw [List.drop_eq_getElem_cons hi]
      rfl
    · rw [List.pairwise_map]
      exact hs
  obtain ⟨h1, _, h3⟩ := piecesBy_spec _ _ h0
  refine ⟨h1, fun R => ?_⟩
  have h3 := h3 R
  constructor
  · intro h
    obtain ⟨e, he, m, m1, m2, rfl⟩ := h3.mp (.inl h)
    rcases List.mem_cons.mp he with rfl | he
    · have : m ≤ 0 := m2
      omega
    · obtain ⟨i, hi, rfl⟩ := List.mem_map.mp he
      have hi : i < T.length := List.mem_range.mp (hp.mem_iff.mp hi)
      rw [List.length_drop] at m2
      refine ⟨i, m - 1, by omega, ?_⟩
      rw [show m - 1 + 1 = m by omega]
  · rintro ⟨i, n, h, rfl⟩
    rcases h3.mpr ⟨T.drop i, List.mem_cons_of_mem _ (List.mem_map.mpr ⟨i, hp.mem_iff.mpr (List.mem_range.mpr (by omega)), rfl⟩), n + 1, by omega, by rw [List.length_drop]; omega, rfl⟩ with h | ⟨m, m1, m2, _⟩
    · exact h
    · have : m ≤ 0 := m2
      omega
end Te
end
section
set_option autoImplicit false
/-! The decision tree of a short sort, under a strict total order of the places: it ends with the places in that order. -/
namespace Te
open PySem PySem.W PyProof.Rows

section
variable {cmp : Nat → Nat → (Bool → Shared → Prop) → Shared → Prop} {lt : Nat → Nat → Bool} {n : Nat} {s : Shared}

/-- a strict total order of the places below n -/
structure Tot (lt : Nat → Nat → Bool) (n : Nat) : Prop where
  irr : ∀ i, lt i i = false
  tr : ∀ i j k, lt i j = true → lt j k = true → lt i k = true
  tot : ∀ i j, i < n → j < n → i ≠ j → lt i j = false → lt j i = true
/-- the comparison asks just that order, and nothing else happens -/
def Asks (cmp : Nat → Nat → (Bool → Shared → Prop) → Shared → Prop) (lt : Nat → Nat → Bool) (n : Nat) (s : Shared) : Prop :=
  ∀ i j C, i < n → j < n → C (lt i j) s → cmp i j C s

def Pm (n : Nat) (p : Array Nat) : Prop := p.toList.Perm (List.range n)
def at0 (p : Array Nat) (i : Nat) : Nat := p.getD i 0
def Up (lt : Nat → Nat → Bool) (p : Array Nat) (m : Nat) : Prop := ∀ i j, i < j → j < m → lt (at0 p i) (at0 p j) = true
def Dn (lt : Nat → Nat → Bool) (p : Array Nat) (m : Nat) : Prop := ∀ i j, i < j → j < m → lt (at0 p j) (at0 p i) = true

theorem Pm.size {p : Array Nat} (h : Pm n p) : p.size = n := by
  have := h.length_eq
  rwa [Array.length_toList, List.length_range] at this
theorem Pm.ltn {p : Array Nat} (h : Pm n p) (h0 : 0 < n) (i : Nat) : at0 p i < n := by
  unfold at0
  by_cases hi : i < p.size
  · have e : p.getD i 0 = p[i] := by simp [Array.getD, hi]
    rw [e]
    have : p[i] ∈ p.toList := by simp
    exact List.mem_range.mp (h.mem_iff.mp this)
  · have e : p.getD i 0 = 0 := by simp [Array.getD, hi]
    rw [e]
    exact h0
theorem at0_get? (p : Array Nat) (i : Nat) : at0 p i = (p[i]?).getD 0 := by
  unfold at0
  simp
theorem Pm.inj {p : Array Nat} (h : Pm n p) {i j : Nat} (hi : i < n) (hj : j < n) (ne : i ≠ j) : at0 p i ≠ at0 p j := by
  have nd : p.toList.Nodup := h.nodup_iff.mpr List.nodup_range
  have hz := h.size
  intro e
  rw [at0_get?, at0_get?] at e
  have hi' : i < p.toList.length := by rw [Array.length_toList]; omega
  have hj' : j < p.toList.length := by rw [Array.length_toList]; omega
  have e1 : p[i]? = some p.toList[i] := by simp
  have e2 : p[j]? = some p.toList[j] := by simp
  rw [e1, e2] at e
  simp only [Option.getD_some] at e
  have pw := List.pairwise_iff_getElem.mp nd
  rcases Nat.lt_or_gt_of_ne ne with q | q
  · exact pw i j hi' hj' q e
  · exact pw j i hj' hi' q e.symm
theorem Pm.of_perm {p q : Array Nat} (h : Pm n p) (k : q.Perm p) : Pm n q := (Array.perm_iff_toList_perm.mp k).trans h

theorem up_more {p : Array Nat} (T : Tot lt n) (h : Pm n p) {a : Nat} (h1 : 1 ≤ a) (ha : a < n) (u : Up lt p a) (c : lt (at0 p a) (at0 p (a - 1)) = false) : Up lt p (a + 1) := by
  have h0 : 0 < n := by omega
  have k := T.tot _ _ (h.ltn h0 a) (h.ltn h0 (a - 1)) (h.inj ha (by omega) (by omega)) c
  intro i j hij hj
  by_cases e : j = a
  · subst e
    by_cases e' : i = j - 1
    · subst e'; exact k
    · exact T.tr _ _ _ (u i (j - 1) (by omega) (by omega)) k
  · exact u i j hij (by omega)
theorem dn_more {p : Array Nat} (T : Tot lt n) {a : Nat} (h1 : 1 ≤ a) (u : Dn lt p a) (c : lt (at0 p a) (at0 p (a - 1)) = true) : Dn lt p (a + 1) := by
  intro i j hij hj
  by_cases e : j = a
  · subst e
    by_cases e' : i = j - 1
    · subst e'; exact c
    · exact T.tr _ _ _ c (u i (j - 1) (by omega) (by omega))
  · exact u i j hij (by omega)

theorem asc_wp (T : Tot lt n) (A : Asks cmp lt n s) {p : Array Nat} (h : Pm n p) {Q : Nat → Shared → Prop} : ∀ (f a : Nat), 1 ≤ a → a + f ≤ n → Up lt p a →
    (∀ m, a ≤ m → m ≤ a + f → Up lt p m → (m < a + f → lt (at0 p m) (at0 p (m - 1)) = true) → Q m s) → (kas_asc p f a).kasWp cmp Q s
  | 0, a, _, _, u, q => q a (Nat.le_refl _) (Nat.le_refl _) u fun z => absurd z (by omega)
  | f + 1, a, h1, ha, u, q => by
    have h0 : 0 < n := by omega
    show cmp (at0 p a) (at0 p (a - 1)) _ s
    refine A _ _ _ (h.ltn h0 _) (h.ltn h0 _) ?_
    cases c : lt (at0 p a) (at0 p (a - 1)) with
    | true => exact q a (Nat.le_refl _) (by omega) u fun _ => c
    | false => exact asc_wp T A h f (a + 1) (by omega) (by omega) (up_more T h h1 (by omega) u c) fun m k1 k2 k3 k4 => q m (by omega) (by omega) k3 fun z => k4 (by omega)
theorem desc_wp (T : Tot lt n) (A : Asks cmp lt n s) {p : Array Nat} (h : Pm n p) {Q : Array Nat × Nat × Nat → Shared → Prop} : ∀ (f a : Nat), 1 ≤ a → a + f ≤ n → Dn lt p a →
    (∀ m, a ≤ m → m ≤ a + f → Dn lt p m → Q (p, m, 0) s) → (kas_desc f p a 0).kasWp cmp Q s
  | 0, a, _, _, u, q => q a (Nat.le_refl _) (Nat.le_refl _) u
  | f + 1, a, h1, ha, u, q => by
    have h0 : 0 < n := by omega
    show cmp (at0 p a) (at0 p (a - 1)) _ s
    refine A _ _ _ (h.ltn h0 _) (h.ltn h0 _) ?_
    cases c : lt (at0 p a) (at0 p (a - 1)) with
    | true => exact desc_wp T A h f (a + 1) (by omega) (by omega) (dn_more T h1 u c) fun m k1 k2 k3 => q m (by omega) (by omega) k3
    | false =>
      show cmp (at0 p (a - 1)) (at0 p a) _ s
      refine A _ _ _ (h.ltn h0 _) (h.ltn h0 _) ?_
      rw [T.tot _ _ (h.ltn h0 a) (h.ltn h0 (a - 1)) (h.inj (by omega) (by omega) (by omega)) c]
      exact q a (Nat.le_refl _) (by omega) u

theorem at0_rev {p : Array Nat} {m : Nat} (hm : m ≤ p.size) (k : Nat) : at0 (kas_rev p 0 m) k = if k < m then at0 p (m - 1 - k) else at0 p k := by
  rw [at0_get?]
  unfold kas_rev
  rw [getElem?_mirror_all hm]
  by_cases h : k < m
  · rw [if_pos h, if_pos ⟨Nat.zero_le _, h⟩, at0_get?, Nat.zero_add]
  · rw [if_neg h, if_neg fun z => h z.2, at0_get?]
theorem rev_up {p : Array Nat} {m : Nat} (hm : m ≤ p.size) (d : Dn lt p m) : Up lt (kas_rev p 0 m) m := by
  intro i j hij hj
  rw [at0_rev hm, at0_rev hm, if_pos (by omega), if_pos hj]
  exact d _ _ (by omega) (by omega)
theorem rev_pm {p : Array Nat} {m : Nat} (h : Pm n p) : Pm n (kas_rev p 0 m) := h.of_perm (mirror_perm _ _ _ _)

theorem tail_wp (T : Tot lt n) (A : Asks cmp lt n s) {p : Array Nat} (h : Pm n p) {Q : Nat × Array Nat → Shared → Prop} {a : Nat} (h1 : 1 ≤ a) (ha : a ≤ n) (d : Dn lt p a)
    (q : ∀ m p', 1 ≤ m → m ≤ n → Pm n p' → Up lt p' m → Q (m, p') s) : (kas_tail3 a n p).kasWp cmp Q s := by
  unfold kas_tail3
  rw [KasT.kasWp_bind]
  refine asc_wp T A (rev_pm h) _ _ h1 (by omega) (rev_up (by rw [h.size]; exact ha) d) fun m k1 k2 k3 _ => ?_
  exact q m _ (by omega) (by omega) (rev_pm h) k3
theorem descPart_wp (T : Tot lt n) (A : Asks cmp lt n s) {p : Array Nat} (h : Pm n p) {Q : Nat × Array Nat → Shared → Prop} {a : Nat} (h1 : 1 ≤ a) (ha : a < n) (d : Dn lt p (a + 1))
    (q : ∀ m p', 1 ≤ m → m ≤ n → Pm n p' → Up lt p' m → Q (m, p') s) : (kas_descPart a n p).kasWp cmp Q s := by
  unfold kas_descPart
  rw [KasT.kasWp_bind]
  refine desc_wp T A h _ _ (by omega) (by omega) d fun m k1 k2 k3 => ?_
  show (if (0 : Nat) > 0 then _ else kas_tail3 m n p : KasT _).kasWp cmp Q s
  rw [if_neg (by omega)]
  exact tail_wp T A h (by omega) (by omega) k3 q
theorem count_wp (T : Tot lt n) (A : Asks cmp lt n s) {p : Array Nat} (h : Pm n p) {Q : Nat × Array Nat → Shared → Prop} (h2 : 2 ≤ n)
    (q : ∀ m p', 1 ≤ m → m ≤ n → Pm n p' → Up lt p' m → Q (m, p') s) : (kas_count n p).kasWp cmp Q s := by
  have h0 : 0 < n := by omega
  unfold kas_count
  rw [KasT.kasWp_bind]
  refine asc_wp T A h _ _ (Nat.le_refl _) (by omega) (fun i j hij hj => absurd hij (by omega)) fun m k1 k2 k3 k4 => ?_
  by_cases e : m = n
  · subst e
    rw [if_pos (by simp)]
    exact q _ _ k1 (Nat.le_refl _) h k3
  · rw [if_neg (by simpa using e)]
    have k5 := k4 (by omega)
    by_cases e1 : m > 1
    · rw [if_pos e1]
      show cmp (at0 p 0) (at0 p (m - 1)) _ s
      refine A _ _ _ (h.ltn h0 _) (h.ltn h0 _) ?_
      rw [k3 0 (m - 1) (by omega) (by omega)]
      exact q _ _ k1 (by omega) h k3
    · rw [if_neg e1]
      have e2 : m = 1 := by omega
      subst e2
      refine descPart_wp T A h (Nat.le_refl _) (by omega) (fun i j hij hj => ?_) q
      have ei : i = 0 := by omega
      have ej : j = 1 := by omega
      subst ei ej
      exact k5

theorem place_wp (T : Tot lt n) (A : Asks cmp lt n s) {p : Array Nat} (h : Pm n p) {Q : Nat → Shared → Prop} {k : Nat} (hk : k < n) (u : Up lt p k) : ∀ (f l r : Nat), l ≤ r → r ≤ k → r - l ≤ f →
    (∀ i, i < l → lt (at0 p i) (at0 p k) = true) → (∀ i, r ≤ i → i < k → lt (at0 p k) (at0 p i) = true) →
    (∀ m, m ≤ k → (∀ i, i < m → lt (at0 p i) (at0 p k) = true) → (∀ i, m ≤ i → i < k → lt (at0 p k) (at0 p i) = true) → Q m s) → (kas_place p k f l r).kasWp cmp Q s
  | 0, l, r, hl, hr, hf, lo, hi, q => by
    have e : l = r := by omega
    subst e
    exact q l hr lo hi
  | f + 1, l, r, hl, hr, hf, lo, hi, q => by
    have h0 : 0 < n := by omega
    unfold kas_place
    by_cases e : l ≥ r
    · rw [if_pos e]
      have e : l = r := by omega
      subst e
      exact q l hr lo hi
    · rw [if_neg e]
      show cmp (at0 p k) (at0 p ((l + r) / 2)) _ s
      refine A _ _ _ (h.ltn h0 _) (h.ltn h0 _) ?_
      have m1 : l ≤ (l + r) / 2 := by omega
      have m2 : (l + r) / 2 < r := by omega
      cases c : lt (at0 p k) (at0 p ((l + r) / 2)) with
      | true =>
        refine place_wp T A h hk u f l _ m1 (by omega) (by omega) lo (fun i h1 h2 => ?_) q
        by_cases ei : i = (l + r) / 2
        · subst ei; exact c
        · exact T.tr _ _ _ c (u _ _ (by omega) h2)
      | false =>
        have c' := T.tot _ _ (h.ltn h0 k) (h.ltn h0 ((l + r) / 2)) (h.inj hk (by omega) (by omega)) c
        refine place_wp T A h hk u f _ r (by omega) hr (by omega) (fun i h1 => ?_) hi q
        by_cases ei : i = (l + r) / 2
        · subst ei; exact c'
        · exact T.tr _ _ _ (u _ _ (by omega) (by omega)) c'

theorem at0_bubble {p : Array Nat} {k l : Nat} (hk : k < p.size) (hl : l ≤ k) (i : Nat) : at0 (bubble p k (k - l)) i = if i = l then at0 p k else if l < i ∧ i ≤ k then at0 p (i - 1) else at0 p i := by
  rw [at0_get?, getElem?_bubble hk _ (by omega)]
  have e : k - (k - l) = l := by omega
  rw [e]
  by_cases h1 : i = l
  · rw [if_pos h1, if_pos h1, at0_get?]
  · rw [if_neg h1, if_neg h1]
    by_cases h2 : l < i ∧ i ≤ k
    · rw [if_pos h2, if_pos h2, at0_get?]
    · rw [if_neg h2, if_neg h2, at0_get?]
theorem bin_wp (T : Tot lt n) (A : Asks cmp lt n s) {Q : Array Nat → Shared → Prop} : ∀ (f : Nat) (p : Array Nat) (k : Nat), Pm n p → k + f = n → Up lt p k → (∀ p', Pm n p' → Up lt p' n → Q p' s) → (kas_bin f p k).kasWp cmp Q s
  | 0, p, k, h, e, u, q => by
    have e : k = n := by omega
    subst e
    exact q p h u
  | f + 1, p, k, h, e, u, q => by
    unfold kas_bin
    rw [KasT.kasWp_bind]
    have hk : k < n := by omega
    refine place_wp T A h hk u k 0 k (Nat.zero_le _) (Nat.le_refl _) (Nat.le_refl _) (fun i z => absurd z (by omega)) (fun i z1 z2 => absurd z2 (by omega)) fun m hm lo hi => ?_
    refine bin_wp T A f _ (k + 1) (h.of_perm (bubble_perm _ _ _)) (by omega) (fun i j hij hj => ?_) q
    have hz : k < p.size := by rw [h.size]; exact hk
    rw [at0_bubble hz hm, at0_bubble hz hm]
    by_cases ei : i = m
    · rw [if_pos ei, if_neg (by omega), if_pos ⟨by omega, by omega⟩]
      exact hi _ (by omega) (by omega)
    · rw [if_neg ei]
      by_cases ej : j = m
      · rw [if_pos ej, if_neg (by omega)]
        exact lo _ (by omega)
      · rw [if_neg ej]
        by_cases ci : m < i ∧ i ≤ k
        · rw [if_pos ci, if_pos ⟨by omega, by omega⟩]
          exact u _ _ (by omega) (by omega)
        · rw [if_neg ci]
          by_cases cj : m < j ∧ j ≤ k
          · rw [if_pos cj]
            by_cases eij : i = j - 1
            · omega
            · exact u _ _ (by omega) (by omega)
          · rw [if_neg cj]
            exact u _ _ hij (by omega)

theorem sort_wp (T : Tot lt n) (A : Asks cmp lt n s) {Q : Array Nat → Shared → Prop} (h2 : 2 ≤ n) (q : ∀ p : Array Nat, p.toList.Perm (List.range n) → p.toList.Pairwise (fun i j => lt i j = true) → Q p s) :
    (kas_sort n).kasWp cmp Q s := by
  have fin : ∀ p', Pm n p' → Up lt p' n → Q p' s := fun p' h u => q p' h (by
    rw [List.pairwise_iff_getElem]
    intro i j hi hj hij
    rw [Array.length_toList, h.size] at hi hj
    have k := u i j hij hj
    rw [at0_get?, at0_get?] at k
    have e1 : p'[i]? = some p'.toList[i] := by simp
    have e2 : p'[j]? = some p'.toList[j] := by simp
    rw [e1, e2] at k
    exact k)
  unfold kas_sort
  rw [KasT.kasWp_bind]
  refine count_wp T A (show Pm n (List.toArray (List.range n)) from List.Perm.refl _) h2 fun m p' h1 hm h u => ?_
  show (if m < n then _ else _ : KasT _).kasWp cmp Q s
  by_cases e : m < n
  · rw [if_pos e]
    have e1 : max m 1 = m := by omega
    rw [e1]
    exact bin_wp T A _ _ _ h (by omega) u fin
  · rw [if_neg e]
    have e1 : m = n := by omega
    subst e1
    exact fin p' h u
end
end Te
end
section
set_option autoImplicit false
set_option maxRecDepth 100000
namespace Te
open PySem PyProof.Rows
open PySem.SeqAt
open PySem.AutoSeq1 (wpAny_loadPart')
open PySem.MeetsSeq PySem.MeetsSeq2 PySem.MeetsSeq3

theorem lexI_cons (x y : Int) (xs ys : List Int) : lexI (x :: xs) (y :: ys) = if x = y then lexI xs ys else decide (x < y) := rfl
theorem lexI_end : ∀ {a b : List Int}, a = [] ∨ b = [] → lexI a b = decide (a.length < b.length)
  | [], [], _ => rfl
  | [], _ :: _, _ => by simp [lexI]
  | _ :: _, [], _ => by simp [lexI]
  | _ :: _, _ :: _, h => by rcases h with h | h <;> cases h

theorem ints_at {vs : List Value} {ns : List Int} (h : IntsAre vs ns) {i : Nat} (hi : i < ns.length) : ∃ t, vs[i]? = some (.int ns[i] t) :=
  h.get i _ (List.getElem?_eq_getElem hi)

theorem lt_loop (l b : Addr) (items items2 : Array Value) (n n2 : Nat) (dd dd2 : Option Addr) (sl sl2 : Array (Option Value)) (ns ms : List Int) (hi : IntsAre items.toList ns) (hj : IntsAre items2.toList ms) (k : Nat) :
    ∀ i : Nat, i ≤ ns.length → i ≤ ms.length → min ns.length ms.length - i = k → Meets (Builtin.«list.__eq__.loop» ⟨[.ref l, .ref b, rawInt i, rawInt 0], []⟩)
      (fun _ R s => s.heap.get? l = some { cls := .type "list", dict := dd, data := .seq items n, slots := sl } ∧ s.heap.get? b = some { cls := .type "list", dict := dd2, data := .seq items2 n2, slots := sl2 } ∧
        R (.ok (.ret (.bool (lexI (ns.drop i) (ms.drop i))))) s) := by
  have z1 : items.size = ns.length := by rw [← hi.length]; simp
  have z2 : items2.size = ms.length := by rw [← hj.length]; simp
  induction k with
  | zero =>
    intro i h1 h2 hk prog w A R s h
    obtain ⟨hp, g, d, tk, os⟩ := s; obtain ⟨hl, hb, h⟩ := h
    have hend : ns.drop i = [] ∨ ms.drop i = [] := by
      rcases Nat.le_total ns.length ms.length with q | q
      · exact .inl (List.drop_of_length_le (by omega))
      · exact .inr (List.drop_of_length_le (by omega))
    have hv : lexI (ns.drop i) (ms.drop i) = decide (items.size < items2.size) := by
      rw [lexI_end hend, List.length_drop, List.length_drop, z1, z2]
      exact decide_eq_decide.mpr (by omega)
    rw [hv] at h
    wp_walk using wpAny_loadPart' hl, wpAny_loadPart' hb
    by_cases q1 : i < items.size
    · have q2 : ¬ i < items2.size := by omega
      have hi1 : items[((i : Nat) : Int).toNat]? = some items[i] := by simp [q1]
      have hi2 : items2[((i : Nat) : Int).toNat]? = none := by simp; omega
      rw [hi1, hi2]
      wp_walk using wpAny_loadPart' hl, wpAny_loadPart' hb
      exact h
    · have hi1 : items[((i : Nat) : Int).toNat]? = none := by simp; omega
      rw [hi1]
      wp_walk using wpAny_loadPart' hl, wpAny_loadPart' hb
      exact h
  | succ k ih =>
    intro i h1 h2 hk prog w A R s h
    obtain ⟨hp, g, d, tk, os⟩ := s; obtain ⟨hl, hb, h⟩ := h
    have k1 : i < ns.length := by omega
    have k2 : i < ms.length := by omega
    obtain ⟨t, e1⟩ := ints_at hi k1
    obtain ⟨u, e2⟩ := ints_at hj k2
    have hi1 : items[((i : Nat) : Int).toNat]? = some (.int ns[i] t) := by rw [← Array.getElem?_toList]; exact e1
    have hi2 : items2[((i : Nat) : Int).toNat]? = some (.int ms[i] u) := by rw [← Array.getElem?_toList]; exact e2
    have hc : ((i : Int) + 1) = ((i + 1 : Nat) : Int) := by push_cast; rfl
    rw [List.drop_eq_getElem_cons k1, List.drop_eq_getElem_cons k2, lexI_cons] at h
    wp_walk using wpAny_loadPart' hl, wpAny_loadPart' hb
    rw [hi1, hi2]
    refine wpAny_bind (SeqAt.EqAt.int_int ns[i] t ms[i] u prog w _ _ ?_)
    by_cases q : ns[i] = ms[i]
    · rw [if_pos q] at h
      have e : (ns[i] == ms[i]) = true := by simp [q]
      rw [e]
      wp_walk
      rw [hc]
      exact ⟨plainId_quiet plain_eq_loop _, codeAny_builtin entry_eq_loop (by
        rw [Around.under_plainId plain_eq_loop _]
        exact ih (i + 1) (by omega) (by omega) (by omega) prog w A R _ ⟨hl, hb, h⟩)⟩
    · rw [if_neg q] at h
      have e : (ns[i] == ms[i]) = false := by simp [q]
      rw [e]
      have hri : ∀ (Q : Value → Shared → Prop) (E : Value → Shared → Prop), Q (.bool (decide (ns[i] < ms[i]))) ⟨hp, g, d, tk, os⟩ → wpAny (model prog w) A.in1 (richCompare .Lt (.int ns[i] t) (.int ms[i] u)) Q E ⟨hp, g, d, tk, os⟩ :=
        fun Q E hq => (PyProof.Rows.lt_int hq : wpAny (model prog w) A.in1 (compareOp .Lt (.int ns[i] t) (.int ms[i] u)) Q E ⟨hp, g, d, tk, os⟩)
      wp_walk using wpAny_loadPart' hl, wpAny_loadPart' hb
      rw [hi1, hi2]
      wp_walk using hri
      exact h

theorem list_lt (l b : Addr) (items items2 : Array Value) (n n2 : Nat) (dd dd2 : Option Addr) (sl sl2 : Array (Option Value)) (ns ms : List Int) (hi : IntsAre items.toList ns) (hj : IntsAre items2.toList ms) :
    Meets (Builtin.«list.__lt__» ⟨[.ref l, .ref b], []⟩)
      (fun _ R s => s.heap.get? l = some { cls := .type "list", dict := dd, data := .seq items n, slots := sl } ∧ s.heap.get? b = some { cls := .type "list", dict := dd2, data := .seq items2 n2, slots := sl2 } ∧
        R (.ok (.ret (.bool (lexI ns ms)))) s) := by
  intro prog w A R s h
  obtain ⟨hp, g, d, tk, os⟩ := s; obtain ⟨hl, hb, h⟩ := h
  have f3 := AutoSeq1.sub_list_list
  wp_walk using wpAny_loadPart' hl, wpAny_loadPart' hb
  exact ⟨plainId_quiet plain_eq_loop _, codeAny_builtin entry_eq_loop (by
    rw [Around.under_plainId plain_eq_loop _]
    exact lt_loop l b items items2 n n2 dd dd2 sl sl2 ns ms hi hj _ 0 (Nat.zero_le _) (Nat.zero_le _) rfl prog w A R _ ⟨hl, hb, by simpa using h⟩)⟩

section
variable {prog : Program} {w : World} {A : Around} {E : Value → Shared → Prop} {s : Shared}
/-- xs < ys, lists of whole numbers -/
theorem lt_lists {l b : Addr} {items items2 : Array Value} {ns ms : List Int} {Q : Value → Shared → Prop} (hl : s.heap.IsList l items) (hb : s.heap.IsList b items2) (hi : IntsAre items.toList ns) (hj : IntsAre items2.toList ms)
    (hu : A.units < cLine) (h : Q (.bool (lexI ns ms)) s) : wpAny (model prog w) A (compareOp .Lt (.ref l) (.ref b)) Q E s := by
  obtain ⟨⟨cls, dd, data, sl⟩, ho, hc, n, hd⟩ := id hl
  obtain ⟨⟨cls2, dd2, data2, sl2⟩, ho2, hc2, n2, hd2⟩ := id hb
  simp only at hc hd hc2 hd2
  subst hc hd hc2 hd2
  exact richCompare_meets_room (op := .Lt) ⟨_, ho, rfl⟩ ⟨_, ho2, rfl⟩ F.slot_list_lt F.entry_list_lt (F.args_list_lt_2 _ _) (list_lt l b items items2 n n2 dd dd2 sl sl2 ns ms hi hj)
    ⟨ho, ho2, show Value.bool (lexI ns ms) ≠ Value.notImplemented ∧ Q (.bool (lexI ns ms)) s from ⟨(fun x => nomatch x), h⟩⟩ hu
/-- the sort's own comparison of two lists of whole numbers -/
theorem key_lists {l b : Addr} {items items2 : Array Value} {ns ms : List Int} {Q : Bool → Shared → Prop} (hl : s.heap.IsList l items) (hb : s.heap.IsList b items2) (hi : IntsAre items.toList ns) (hj : IntsAre items2.toList ms)
    (hu : A.units < cLine) (h : Q (lexI ns ms) s) : wpAny (model prog w) A (keyLt' oneType' (.ref l) (.ref b)) Q E s := by
  obtain ⟨⟨cls, dd, data, sl⟩, ho, hc, n, hd⟩ := id hl
  obtain ⟨⟨cls2, dd2, data2, sl2⟩, ho2, hc2, n2, hd2⟩ := id hb
  simp only at hc hd hc2 hd2
  subst hc hd hc2 hd2
  rw [keyLt'_oneType, oneLt'_eq]
  simp only [if_true]
  refine wpAny_bind (wpAny_cRoomFor hu ?_)
  refine wpAny_bind (wpAny_callSpecialIfBound?_slot ⟨_, ho, rfl⟩ F.slot_list_lt ?_)
  refine call_meets F.slot_list_lt ⟨_, ho, rfl⟩ F.entry_list_lt (F.args_list_lt_2 _ _) (list_lt l b items items2 n n2 dd dd2 sl sl2 ns ms hi hj) ⟨ho, ho2, ?_⟩
  exact wpAny_truthy_bool h
end
end Te
end
section
set_option Elab.async false
set_option linter.all false
set_option maxRecDepth 100000
set_option maxHeartbeats 4000000
/-! Over the hand layer: an untracked new list becomes tracked; list.sort and sorted with a key that gives lists of whole numbers. -/
namespace L2
open PySem PySem.W PySem.Spec PyProof.Rows Te

/-! ### what is tracked stays -/
def Ext (H H' : Hp) : Prop := ∀ b o, H b = some o → H' b = some o
theorem Ext.refl (H : Hp) : Ext H H := fun _ _ e => e
theorem Ext.trans {H H1 H2 : Hp} (a : Ext H H1) (b : Ext H1 H2) : Ext H H2 := fun c o e => b c o (a c o e)
theorem Ext.new {H : Hp} {p : Addr} {o : HO} (hn : H p = none) : Ext H (upd H p o) := fun b u e => by
  rw [upd_ne (ne_of_none e hn)]
  exact e
theorem Ext.at_ {H H' : Hp} {p : Addr} {o : HO} (x : Ext H H') (hn : H p = none) : Ext H (upd H' p o) := fun b u e => by
  rw [upd_ne (ne_of_none e hn)]
  exact x b u e
theorem Ext.free {H H' : Hp} (x : Ext H H') {p : Addr} (hn : H' p = none) : H p = none := by
  cases q : H p with
  | none => rfl
  | some o =>
    rw [x p o q] at hn
    cases hn

theorem Ext.rd {H H' : Hp} (x : Ext H H') {a : Addr} {u : HO} (h : Rd H a u) : Rd H' a u := by
  rcases h with h | ⟨o, h⟩
  · exact .inl (x _ _ h)
  · exact .inr ⟨o, x _ _ h⟩
theorem Ext.sqL {H H' : Hp} (x : Ext H H') {K : PySem.W.Frag} {a : Addr} {xs : List V} (h : SqL K H a xs) : SqL K H' a xs := h.elim (fun z => .inl (x.rd z)) .inr
theorem Ext.sqT {H H' : Hp} (x : Ext H H') {K : PySem.W.Frag} {a : Addr} {xs : List V} (h : SqT K H a xs) : SqT K H' a xs := h.elim (fun z => .inl (x.rd z)) .inr

section
variable {X : Cx} {pins : List (Addr × Obj)} {σ : St} {H : Hp} {s : Shared}
/-- an address that came up behind the entry, none of the frame's own -/
structure NewAt (X : Cx) (pins : List (Addr × Obj)) (D : Addr) : Prop where
  ge : X.s_0.heap.objs.size ≤ D
  loc : D ≠ X.env.locals
  cell : ∀ x c, X.env.cells.lookup x = some c → c ≠ D
  fs : D ∉ X.fs
  pin : ∀ p ∈ X.pn ++ pins, p.1 ≠ D
theorem newAt (I : Inv X pins σ H s) {D : Addr} (h : s.heap.objs.size ≤ D) : NewAt X pins D where
  ge := Nat.le_trans I.sz h
  loc := Nat.ne_of_gt (Nat.lt_of_lt_of_le I.lt h)
  cell := fun x c e => by
    obtain ⟨v, o, ho, _⟩ := I.cell x c e
    exact Nat.ne_of_lt (Nat.lt_of_lt_of_le (Heap.lt_size ho) h)
  fs := I.nofs h
  pin := fun p hp => Nat.ne_of_lt (Nat.lt_of_lt_of_le (Heap.lt_size (I.pin p hp).1) h)
/-- an untracked new object is tracked from here on -/
theorem track (I : Inv X pins σ H s) {D : Addr} {o : HO} (hn : H D = none) (nw : NewAt X pins D) (new : ObjOk X.prog X.w (upd H D o) s.heap D o) : Inv X pins σ (upd H D o) s := by
  have st : Inv X pins σ (upd H D o) { s with heap := s.heap, gens := s.gens, drawn := s.drawn, toks := s.toks } := by
    refine I.step (ch := [D]) (fun b hb => ?_) (fun b u _ _ _ e _ => e) (fun b u _ _ _ e _ => ⟨u.slots, e⟩) (fun b u hc e n => ?_) (fun b u _ e => ⟨u, e⟩) (fun b xs q => ?_) (fun b u xs q => ?_) (fun b ps q => ⟨#[], ?_⟩) (fun m hm => hm) (fun b u e => ?_) I.bare
    · have e : b = D := by simpa using hb
      subst e
      exact ⟨.inr nw.ge, nw.loc, nw.cell, nw.pin⟩
    · rw [upd_ne (fun z => hc (by simp [z]))]
      exact n
    · rw [upd_ne (ne_of_none q hn)]
      exact q
    · rw [upd_ne (ne_of_none q hn)]
      exact q
    · rw [upd_ne (ne_of_none q hn), q]
      simp
    · by_cases hb : b = D
      · subst hb
        rw [upd_same] at e
        cases e
        exact new
      · rw [upd_ne hb] at e
        exact (I.hok b u e).stay (fun _ _ _ q => q) (fun c q => by rw [upd_ne (ne_of_none q hn)]; exact q) fun c xs q => by rw [upd_ne (ne_of_none q hn)]; exact q
  exact st
/-- an untracked new list is rewritten -/
theorem relist {D : Addr} {xs : List Value} {e0 : Nat} {f : Array Value → Array Value} (I : Inv X pins σ H s) (hn : H D = none) (nw : NewAt X pins D) :
    Inv X pins σ H { s with heap := s.heap.update D (Obj.mapSeq f) } :=
  I.turned (it := D) (t' := s.toks) (fun b o hb e => (Heap.get?_update_other s.heap _ (Ne.symm hb)).trans e) hn nw.loc (.inr nw.ge) nw.cell nw.pin

/-- fewer pins -/
theorem pins_sub {pins' : List (Addr × Obj)} (I : Inv X pins σ H s) (h : ∀ p ∈ pins', p ∈ pins) : Inv X pins' σ H s := I.pins_of fun p hp => I.pin p (List.mem_append_right _ (h p hp))
end

/-! ### list.sort(key = f): the keys are new lists of whole numbers, all different -/
abbrev lobj (vs : List Value) (e : Nat) : Obj := seqObj "list" vs.toArray e
theorem lobj_nocell (vs : List Value) (e : Nat) : ∀ v, (lobj vs e).data ≠ .cell v := fun v h => by cases h
def iV (l : List Nat) : List V := l.map fun (i : Nat) => V.int (i : Int)

section
variable {X : Cx} {pins : List (Addr × Obj)} {σ : St} {H : Hp} {s : Shared} {A : Around} {E : Value → Shared → Prop} {P : PySem.Fin → Shared → Prop} {D kS : Addr} {vs : List Value} {n e1 : Nat} {key : Nat → List Int}

theorem sort_tail {H' : Hp} {ps : List Addr} {ek : Nat} {st : SortSt} {l : List Nat} {out : List Value} (I : Inv X ((D, lobj [] e1) :: (kS, lobj (ps.map Value.ref) ek) :: pins) σ H' s) (nwD : NewAt X pins D) (nwK : NewAt X pins kS) (hDK : D ≠ kS)
    (hps : ps.length < 64) (hout : (arrOf st).map (·.2) = out.toArray) (hf : failedOf st = none) (hv : Vals (iV l) out) (hl : l.length < 64)
    (q : ∀ s', Inv X pins σ (upd H' D (.lst (iV l))) s' → P (.done (.ret .none)) s') : wpAny (model X.prog X.w) A (ksk_tail D false e1 (.ref kS) st) P E s := by
  have nd := I.pin (D, lobj [] e1) (List.mem_append_right _ (.head _))
  have nk := I.pin (kS, lobj (ps.map Value.ref) ek) (List.mem_append_right _ (.tail _ (.head _)))
  have I0 : Inv X pins σ H' s := pins_sub I fun p hp => .tail _ (.tail _ hp)
  have I1 := relist (xs := ps.map Value.ref) (e0 := ek) (f := fun _ => (#[] : Array Value)) I0 nk.2.1 nwK
  have hd1 : (s.heap.update kS (Obj.mapSeq fun _ => (#[] : Array Value))).get? D = some (lobj [] e1) := (Heap.get?_update_other s.heap _ (Ne.symm hDK)).trans nd.1
  have I2 := relist (xs := []) (e0 := e1) (f := fun _ => out.toArray) I1 nd.2.1 nwD
  obtain ⟨c2, hc2⟩ : ∃ c2, ((s.heap.update kS (Obj.mapSeq fun _ => (#[] : Array Value))).update D (Obj.mapSeq fun _ => out.toArray)).get? D = some (lobj out c2) := ⟨_, get?_update_seq hd1 fun _ => out.toArray⟩
  have hlen : out.length = l.length := by
    rw [← hv.length]
    unfold iV
    rw [List.length_map]
  unfold ksk_tail
  try dsimp only
  rw [hout]
  refine wpAny_bind (listUpdate_at nk.1 rfl ?_ (by rw [List.size_toArray, List.length_map, sizeLine_eq]; omega) (Nat.zero_le _))
  refine wpAny_bind (wpAny_letGo ?_)
  refine wpAny_bind (seqEpoch_at hd1 rfl ?_)
  simp only [Bool.false_eq_true, if_false]
  refine wpAny_bind (listUpdate_at hd1 rfl ?_ (Nat.zero_le _) (by rw [List.size_toArray, sizeLine_eq]; omega))
  rw [hf]
  simp only [bne_self_eq_false, Bool.false_eq_true, if_false]
  refine wpAny_pure (q _ (track I2 nd.2.1 nwD ⟨?_, out, c2, hv, hc2⟩))
  unfold iV
  rw [List.length_map, sizeLine_eq]
  omega

/-- the keys as they stand -/
def KeysAt (H : Hp) (key : Nat → List Int) (ps : List Addr) : Prop := ∀ k p, ps[k]? = some p → H p = some (.lst ((key k).map V.int))

theorem sort_end {H' : Hp} {ps : List Addr} {ek : Nat} (I : Inv X ((D, lobj [] e1) :: (kS, lobj (ps.map Value.ref) ek) :: pins) σ H' s) (nwD : NewAt X pins D) (nwK : NewAt X pins kS) (hDK : D ≠ kS)
    (hps : ps.length = n) (hk : KeysAt H' key ps) (hv : Vals (iV (List.range n)) vs) (h64 : n < 64) (hu : A.units < cLine) (T : Tot (fun i j => lexI (key i) (key j)) n)
    (q : ∀ s' (l : List Nat), Inv X pins σ (upd H' D (.lst (iV l))) s' → l.Perm (List.range n) → l.Pairwise (fun i j => lexI (key i) (key j) = true) → P (.done (.ret .none)) s') :
    wpAny (model X.prog X.w) A (ksk_end D false vs.toArray e1 (.ref kS) (ps.map Value.ref).toArray) P E s := by
  have hlen : vs.length = n := by
    rw [← hv.length]
    unfold iV
    rw [List.length_map, List.length_range]
  have hkl : (ps.map Value.ref).length = vs.length := by rw [List.length_map, hps, hlen]
  unfold ksk_end
  simp only [Bool.false_eq_true, if_false]
  by_cases h2 : vs.toArray.size < 2
  · rw [if_pos h2, if_pos h2]
    refine wpAny_bind (wpAny_pure ?_)
    rw [StateT.run_pure]
    refine wpAny_bind (wpAny_pure ?_)
    try dsimp only
    rw [List.size_toArray] at h2
    refine sort_tail (st := SortSt.mk' general' ((ps.map Value.ref).toArray.zip vs.toArray) #[] 7 none) (l := List.range n) (out := vs) I nwD nwK hDK (by omega) ?_ rfl hv (by rw [List.length_range]; exact h64) fun s' I' => q s' _ I' (List.Perm.refl _) ?_
    · show ((ps.map Value.ref).toArray.zip vs.toArray).map (·.2) = vs.toArray
      apply Array.toList_inj.mp
      rw [Array.toList_map, ksk_zip]
      show ((ps.map Value.ref).zip vs).map Prod.snd = vs
      exact List.map_snd_zip (by omega)
    · match n, hlen with
      | 0, _ => exact List.Pairwise.nil
      | 1, _ => exact List.pairwise_singleton _ _
      | n + 2, hlen => omega
  · rw [if_neg h2, if_neg h2]
    rw [List.size_toArray] at h2
    refine wpAny_bind (kas_kind (T := .type "list") (by rw [List.length_map]; omega) (fun v hv' => ?_) (by decide) (by decide) ?_)
    · obtain ⟨p, hp, rfl⟩ := List.mem_map.mp hv'
      obtain ⟨k, hk'⟩ := List.getElem?_of_mem hp
      obtain ⟨z, its, m, r, hl, e⟩ := I.lstM (hk k p hk')
      exact fun A' Q' E' s' keep hq => wpAny_typeOf ⟨_, keep _ _ e, rfl⟩ hq
    · have asks : Asks (kas_ask X.prog X.w A oneType' (ps.map Value.ref)) (fun i j => lexI (key i) (key j)) vs.length s := by
        intro i j C hi hj hC
        rw [hlen] at hi hj
        have ei : ps[i]? = some ps[i] := List.getElem?_eq_getElem (by omega)
        have ej : ps[j]? = some ps[j] := List.getElem?_eq_getElem (by omega)
        obtain ⟨_, its, m, r, _, e⟩ := I.lstM (hk i _ ei)
        obtain ⟨_, its2, m2, r2, _, e2⟩ := I.lstM (hk j _ ej)
        unfold kas_ask
        have gi : (ps.map Value.ref).getD i Value.none = .ref ps[i] := by simp [List.getD_eq_getElem?_getD, ei]
        have gj : (ps.map Value.ref).getD j Value.none = .ref ps[j] := by simp [List.getD_eq_getElem?_getD, ej]
        rw [gi, gj]
        exact key_lists ⟨_, e, rfl, _, rfl⟩ ⟨_, e2, rfl, _, rfl⟩ (by simpa using intsAre_of r) (by simpa using intsAre_of r2) hu hC
      have T' : Tot (fun i j => lexI (key i) (key j)) vs.length := by rw [hlen]; exact T
      refine wpAny_bind (wpAny_mono (kat_run (E := E) (Q := fun st' s' => s' = s ∧ ∃ p : Array Nat, p.toList.Perm (List.range n) ∧ p.toList.Pairwise (fun i j => lexI (key i) (key j) = true) ∧
          arrOf st' = p.map (kas_item ((ps.map Value.ref).toArray.zip vs.toArray)) ∧ failedOf st' = none)
        (G := fun p s' => s' = s ∧ p.toList.Perm (List.range n) ∧ p.toList.Pairwise (fun i j => lexI (key i) (key j) = true)) hkl (by omega) (by omega)
        (fun p st' s' a1 a2 a3 a4 => ⟨a4.1, p, a4.2.1, a4.2.2, a2, a3⟩) (sort_wp T' asks (by omega) fun p h1 h2 => ⟨rfl, by rw [← hlen]; exact h1, h2⟩)) ?_ fun _ _ x => x)
      rintro ⟨⟨⟩, st'⟩ s' ⟨rfl, p, hp, hs, har, hf⟩
      try dsimp only
      have hin : ∀ i ∈ p.toList, i < n := fun i hi => List.mem_range.mp (hp.mem_iff.mp hi)
      refine sort_tail (l := p.toList) (out := p.toList.map fun i => vs.getD i Value.none) I nwD nwK hDK (by omega) (kat_snds hkl har) hf ?_ (by rw [hp.length_eq, List.length_range]; exact h64) fun s' I' => q s' _ I' hp hs
      have all : ∀ l : List Nat, (∀ i ∈ l, i < n) → Vals (iV l) (l.map fun i => vs.getD i Value.none) := by
        intro l
        induction l with
        | nil => intro _; exact .nil
        | cons a l ih =>
          intro hl
          refine .cons ?_ (ih fun i hi => hl i (List.mem_cons_of_mem _ hi))
          have ha := hl a List.mem_cons_self
          have ea : (iV (List.range n))[a]? = some (V.int (a : Int)) := by
            unfold iV
            rw [List.getElem?_map, List.getElem?_range ha] <;> rfl
          obtain ⟨u, hu', ru⟩ := hv.get ea
          show RelV (V.int (a : Int)) (vs.getD a Value.none)
          rw [List.getD_eq_getElem?_getD, hu']
          exact ru
      exact all _ hin

theorem sort_tree {f : Value} {e0 : Nat} (I : Inv X pins σ H s) (hn : H D = none) (nw : NewAt X pins D) (ho : s.heap.get? D = some (lobj vs e0)) (hv : Vals (iV (List.range n)) vs)
    (h64 : n < 64) (hu : A.units < cLine) (T : Tot (fun i j => lexI (key i) (key j)) n)
    (hc : ∀ (pins' : List (Addr × Obj)) (i : Nat) (t : Tok) (H' : Hp) (s' : Shared), i < n → Ext H H' → Inv X pins' σ H' s' →
      wpAny (model X.prog X.w) A (call f [.int (i : Int) t]) (EP X pins' σ fun v H'' => ∃ p, v = .ref p ∧ H' p = none ∧ H'' = upd H' p (.lst ((key i).map V.int))) (fun _ _ => False) s')
    (q : ∀ H' s' (l : List Nat), Inv X pins σ H' s' → Ext H H' → H' D = some (.lst (iV l)) → l.Perm (List.range n) → l.Pairwise (fun i j => lexI (key i) (key j) = true) → P (.done (.ret .none)) s') :
    wpAny (model X.prog X.w) A (ksk_tree D f false) P E s := by
  have hlen : vs.length = n := by
    rw [← hv.length]
    unfold iV
    rw [List.length_map, List.length_range]
  unfold ksk_tree
  refine wpAny_bind (listItems_at ho rfl ?_)
  refine wpAny_bind (listUpdate_at ho rfl ?_ (by rw [List.size_toArray, sizeLine_eq]; omega) (Nat.zero_le _))
  obtain ⟨e1, ho1⟩ : ∃ e1, (s.heap.update D (Obj.mapSeq fun _ => (#[] : Array Value))).get? D = some (lobj [] e1) := ⟨_, get?_update_seq ho fun _ => #[]⟩
  have I1 := relist (xs := vs) (e0 := e0) (f := fun _ => (#[] : Array Value)) I hn nw
  refine wpAny_bind (seqEpoch_at ho1 rfl ?_)
  refine wpAny_bind (wpAny_newTuple ?_ (by show vs.length ≤ _; rw [sizeLine_eq]; omega))
  refine wpAny_bind (wpAny_newList ?_ (Nat.zero_le _))
  refine wpAny_holding ?_
  have I2 := I1.kept (t' := s.toks) (h' := (s.heap.update D (Obj.mapSeq fun _ => (#[] : Array Value))).push (seqObj "tuple" vs.toArray 0)) fun b u e => Heap.get?_push_of_some _ e
  have I3 := I2.kept (t' := s.toks) (h' := ((s.heap.update D (Obj.mapSeq fun _ => (#[] : Array Value))).push (seqObj "tuple" vs.toArray 0)).push (lobj [] 0)) fun b u e => Heap.get?_push_of_some _ e
  have ho3 : (((s.heap.update D (Obj.mapSeq fun _ => (#[] : Array Value))).push (seqObj "tuple" vs.toArray 0)).push (lobj [] 0)).get? D = some (lobj [] e1) := Heap.get?_push_of_some _ (Heap.get?_push_of_some _ ho1)
  have hk3 : (((s.heap.update D (Obj.mapSeq fun _ => (#[] : Array Value))).push (seqObj "tuple" vs.toArray 0)).push (lobj [] 0)).get? ((s.heap.update D (Obj.mapSeq fun _ => (#[] : Array Value))).push (seqObj "tuple" vs.toArray 0)).objs.size = some (lobj [] 0) := Heap.get?_push_size _ rfl
  have nwK : NewAt X pins ((s.heap.update D (Obj.mapSeq fun _ => (#[] : Array Value))).push (seqObj "tuple" vs.toArray 0)).objs.size := newAt I2 (Nat.le_refl _)
  have hKn : H ((s.heap.update D (Obj.mapSeq fun _ => (#[] : Array Value))).push (seqObj "tuple" vs.toArray 0)).objs.size = none := I2.hok.fresh (Nat.le_refl _)
  have hDK : D ≠ ((s.heap.update D (Obj.mapSeq fun _ => (#[] : Array Value))).push (seqObj "tuple" vs.toArray 0)).objs.size := Nat.ne_of_lt (Heap.lt_size (Heap.get?_push_of_some _ ho1))
  revert I3 ho3 hk3 nwK hKn hDK
  generalize ((s.heap.update D (Obj.mapSeq fun _ => (#[] : Array Value))).push (seqObj "tuple" vs.toArray 0)).objs.size = kS
  generalize ((s.heap.update D (Obj.mapSeq fun _ => (#[] : Array Value))).push (seqObj "tuple" vs.toArray 0)).push (lobj [] 0) = h3
  intro I3 ho3 hk3 nwK hKn hDK
  have I4 : Inv X ((D, lobj [] e1) :: (kS, lobj (([] : List Addr).map Value.ref) 0) :: pins) σ H { s with heap := h3 } := I3.pins_of fun p hp => by
    rcases List.mem_cons.mp hp with rfl | hp
    · exact ⟨ho3, hn, nw.loc, nw.fs, lobj_nocell _ _⟩
    · rcases List.mem_cons.mp hp with rfl | hp
      · exact ⟨hk3, hKn, nwK.loc, nwK.fs, lobj_nocell _ _⟩
      · exact I3.pin p (List.mem_append_right _ hp)
  show wpAny (model X.prog X.w) A (ksk_rest D f false vs.toArray e1 (.ref kS)) P E { s with heap := h3 }
  unfold ksk_rest
  refine wpAny_bind (wpAny_rule ?_)
  first
    | rw [List.forIn_toArray]
    | (rw [← Array.forIn_toList]; simp only [List.toList_toArray])
    | rw [← Array.forIn_toList]
  refine wpAny_bind (ksk_fold (fun j s' => ∃ (H' : Hp) (ps : List Addr) (ek : Nat), ps.length = j ∧ Inv X ((D, lobj [] e1) :: (kS, lobj (ps.map Value.ref) ek) :: pins) σ H' s' ∧ Ext H H' ∧ KeysAt H' key ps) vs 0 _
    ⟨H, [], 0, rfl, I4, Ext.refl _, fun k p e => by simp at e⟩ ?step ?done)
  case step =>
    rintro j x s' hx ⟨H', ps, ek, hpl, J, hext, hks⟩
    have hj : j < vs.length := (List.getElem?_eq_some_iff.mp hx).1
    have hpj : ps.length = j := by omega
    obtain ⟨t, rfl⟩ : ∃ t, x = .int (j : Int) t := by
      have ea : (iV (List.range n))[j]? = some (V.int (j : Int)) := by
        unfold iV
        rw [List.getElem?_map, List.getElem?_range (by omega)] <;> rfl
      obtain ⟨u, hu', ru⟩ := hv.get ea
      rw [hx] at hu'
      cases hu'
      exact ru
    refine wpAny_bind (wpAny_attempt (wpAny_mono (hc _ j t H' s' (by omega) hext J) (fun v s'' he => ?_) fun _ _ hF => hF.elim))
    obtain ⟨v', H'', J', r, p, rfl, hpn, rfl⟩ := he
    obtain rfl : v = Value.ref p := r
    try dsimp only
    have nk := J'.pin (kS, lobj (ps.map Value.ref) ek) (List.mem_append_right _ (.tail _ (.head _)))
    have nd := J'.pin (D, lobj [] e1) (List.mem_append_right _ (.head _))
    have Jb : Inv X pins σ (upd H' p (.lst ((key j).map V.int))) s'' := pins_sub J' fun p hp => .tail _ (.tail _ hp)
    have Jc := relist (xs := ps.map Value.ref) (e0 := ek) (f := (·.push (Value.ref p))) Jb nk.2.1 nwK
    have ea : ((ps.map Value.ref).toArray).push (Value.ref p) = ((ps ++ [p]).map Value.ref).toArray := by simp
    obtain ⟨c2, hc2⟩ : ∃ c2, (s''.heap.update kS (Obj.mapSeq (·.push (Value.ref p)))).get? kS = some (lobj ((ps ++ [p]).map Value.ref) c2) := ⟨_, by
      have := get?_update_seq nk.1 (·.push (Value.ref p))
      rw [ea] at this
      exact this⟩
    refine wpAny_bind (listUpdate_at nk.1 rfl ?_ (by rw [List.size_toArray, List.length_map, sizeLine_eq]; omega) (by rw [Array.size_push, List.size_toArray, List.length_map, sizeLine_eq]; omega))
    refine wpAny_pure ⟨rfl, _, ps ++ [p], c2, by rw [List.length_append, List.length_singleton]; omega, Jc.pins_of fun r hr => ?_, hext.trans (Ext.new hpn), fun k p' e => ?_⟩
    · rcases List.mem_cons.mp hr with rfl | hr
      · exact ⟨(Heap.get?_update_other s''.heap _ (Ne.symm hDK)).trans nd.1, nd.2.1, nw.loc, nw.fs, lobj_nocell _ _⟩
      · rcases List.mem_cons.mp hr with rfl | hr
        · exact ⟨hc2, nk.2.1, nwK.loc, nwK.fs, lobj_nocell _ _⟩
        · exact Jc.pin r (List.mem_append_right _ hr)
    · by_cases hk : k < ps.length
      · rw [List.getElem?_append_left hk] at e
        have e' := hks k p' e
        rw [upd_ne (ne_of_none e' hpn)]
        exact e'
      · rw [List.getElem?_append_right (by omega)] at e
        have hkj : k - ps.length = 0 := by
          cases hh : k - ps.length with
          | zero => rfl
          | succ m => rw [hh] at e; simp at e
        rw [hkj] at e
        have e' : p = p' := by simpa using e
        subst e'
        have hkj' : k = j := by omega
        subst hkj'
        exact upd_same
  case done =>
    rintro s' ⟨H', ps, ek, hpl, J, hext, hks⟩
    have nk := J.pin (kS, lobj (ps.map Value.ref) ek) (List.mem_append_right _ (.tail _ (.head _)))
    have nd := J.pin (D, lobj [] e1) (List.mem_append_right _ (.head _))
    try dsimp only
    refine wpAny_bind (listItems_at nk.1 rfl ?_)
    refine sort_end (n := n) J nw nwK hDK (by omega) hks hv h64 hu T fun s'' l I' hp hs => q _ s'' l I' (hext.trans (Ext.new nd.2.1)) upd_same hp hs
end
end L2
end
section
set_option Elab.async false
set_option linter.all false
set_option maxRecDepth 100000
set_option maxHeartbeats 4000000
/-! Over the hand layer: sorted(range(n), key = a lambda); a lambda made, a lambda called. -/
namespace L2
open PySem PySem.W PySem.Spec PyProof.Rows Te

theorem items_vals {n : Nat} {acc : Array Value} (h : ItemsOf (fun i v => ∃ t, v = Value.int (0 + (i : Int) * 1) t) acc n) : Vals (iV (List.range n)) acc.toList := by
  obtain ⟨hz, hall⟩ := h
  have go : ∀ (l : List Value) (k : Nat), (∀ (j : Nat) v, l[j]? = some v → ∃ t, v = Value.int ((k + j : Nat) : Int) t) → Vals (iV (List.range' k l.length)) l := by
    intro l
    induction l with
    | nil => intro k _; exact .nil
    | cons a l ih =>
      intro k hk
      rw [List.length_cons, List.range'_succ]
      refine .cons ?_ (ih (k + 1) fun j v hv => ?_)
      · obtain ⟨t, e⟩ := hk 0 a rfl
        exact ⟨t, e⟩
      · obtain ⟨t, e⟩ := hk (j + 1) v (by simpa using hv)
        exact ⟨t, by rw [e]; congr 2; omega⟩
  have e : List.range n = List.range' 0 acc.toList.length := by rw [Array.length_toList, hz, List.range_eq_range']
  rw [e]
  refine go _ 0 fun j v hv => ?_
  obtain ⟨t, e⟩ := hall j v (by rw [← Array.getElem?_toList]; exact hv)
  exact ⟨t, by rw [e]; congr 1; omega⟩

theorem collect_range {prog : Program} {w : World} {A : Around} {E : Value → Shared → Prop} {s : Shared} {r : Addr} {n : Nat} {t u v : Tok} {Q : List Value → Shared → Prop} (hh : A.handled = none)
    (hr : s.heap.get? r = some { cls := .type "range", data := .fields #[.int 0 t, .int (n : Int) u, .int 1 v] }) (hn : n ≤ 1000)
    (h : ∀ vs h' tk, (∀ b o, s.heap.get? b = some o → h'.get? b = some o) → Vals (iV (List.range n)) vs → Q vs { s with heap := h', toks := tk }) : wpAny (model prog w) A (collect (.ref r)) Q E s := by
  unfold collect
  refine wpAny_bind (wpAny_runValue (codeAny_builtin entry_proto_collect' ?_))
  show wpAny _ _ (do again (.builtin "list.__iadd__" ⟨[← newList [], .ref r], []⟩)) _ _ s
  refine wpAny_bind (wpAny_newList (wpAny_pure ⟨Code.quiet_builtin _ (by decide +kernel), codeAny_builtin entry_list_iadd' ?_⟩) (Nat.zero_le _))
  rw [Around.under_plainId (by decide +kernel) _]
  show wpAny _ _ (Builtin.List.listExtendWith (.ref s.heap.objs.size) (.ref r) (.ref s.heap.objs.size)) _ _ { s with heap := s.heap.push (lobj [] 0) }
  have hsm : Builtin.Range.small 0 (n : Int) 1 = true := small_one (by omega) (by omega) (by omega) (by omega)
  have hrs : Builtin.Range.rangeSize 0 (n : Int) 1 = (n : Int) := by rw [rangeSize_one]; split <;> omega
  have hS0 : (s.heap.push (lobj [] 0)).get? s.heap.objs.size = some { cls := .type "list", data := .seq #[] 0 } := Heap.get?_push_size _ rfl
  have hr0 : (s.heap.push (lobj [] 0)).get? r = some { cls := .type "range", data := .fields #[.int 0 t, .int (n : Int) u, .int 1 v] } := Heap.get?_push_of_some _ hr
  let R : Result → Shared → Prop := fun r s' => match r with
    | .ok (.ret v) => wpAny (model prog w) A (match v with
      | .ref a => do
        match (← load a).data with
        | .seq xs _ => pure xs.toList
        | _ => unsupported "internal:collect"
      | _ => unsupported "internal:collect") Q E s'
    | .ok _ => False
    | .error e => E e s'
  refine wpAny_extend_range (R := R) (s := { s with heap := s.heap.push (lobj [] 0) }) (n := n) hh hr0 hsm hrs (by omega) s.heap.objs.size _ 0 hS0 fun h' tk acc' c' keep hS hit => ?_
  show wpAny (model prog w) A (do
      let o ← load s.heap.objs.size
      match o.data with
      | .seq xs _ => pure xs.toList
      | _ => unsupported "internal:collect") Q E { s with heap := h', toks := tk }
  refine wpAny_bind (wpAny_load hS ?_)
  refine wpAny_pure (h _ h' tk (fun b o e => keep b o (Nat.ne_of_lt (Heap.lt_size e)) (Heap.get?_push_of_some _ e)) (items_vals hit))

section
variable {X : Cx} {pins : List (Addr × Obj)} {σ : St} {H : Hp} {s : Shared}

/-- sorted(range(n), key = f) -/
theorem sorted_range {E : Value → Shared → Prop} {r q : Addr} {n : Nat} {key : Nat → List Int} {Q : VK} (I : Inv X pins σ H s) (hcalm : X.calm = true) (hr : H r = some (.rng 0 (n : Int))) (h64 : n < 64) (hu : X.A.units + 2 < cLine)
    (T : Tot (fun i j => lexI (key i) (key j)) n)
    (hc : ∀ (pins' : List (Addr × Obj)) (i : Nat) (t : Tok) (H' : Hp) (s' : Shared), i < n → Ext H H' → Inv X pins' σ H' s' →
      wpAny (model X.prog X.w) X.A.in1.in1 (call (.ref q) [.int (i : Int) t]) (EP X pins' σ fun v H'' => ∃ p, v = .ref p ∧ H' p = none ∧ H'' = upd H' p (.lst ((key i).map V.int))) (fun _ _ => False) s')
    (k : ∀ D H' (l : List Nat), Ext H H' → H D = none → H' D = some (.lst (iV l)) → l.Perm (List.range n) → l.Pairwise (fun i j => lexI (key i) (key j) = true) → Q (.ref D) H') :
    wpAny (model X.prog X.w) X.A (call (.builtin "sorted") [.ref r] [(Str.ofString "key", .ref q)]) (EP X pins σ Q) E s := by
  obtain ⟨t, u, v, hrg⟩ := I.hok r _ hr
  refine call_function_entry_kw kind_sorted plain_sorted entry_sorted (ksk_s1 _ _) ?_
  unfold Builtin.«sorted»
  refine wpAny_bind (m := checkCount "sorted" 1 1 _) (wpAny_pure ?_)
  refine wpAny_bind (collect_range (A := X.A.in1) (I.ok.hd hcalm) hrg (by omega) fun vs h' tk keep hv => ?_)
  have hlen : vs.length = n := by
    rw [← hv.length]
    unfold iV
    rw [List.length_map, List.length_range]
  refine wpAny_bind (wpAny_newList ?_ (by rw [sizeLine_eq]; omega))
  have I1 : Inv X pins σ H { s with heap := h', toks := tk } := I.kept keep
  have nw : NewAt X pins h'.objs.size := newAt I1 (Nat.le_refl _)
  have hn : H h'.objs.size = none := I1.hok.fresh (Nat.le_refl _)
  have I2 : Inv X pins σ H { s with heap := h'.push (lobj vs 0), toks := tk } := I1.kept (t' := tk) fun b o e => Heap.get?_push_of_some _ e
  have ho : (h'.push (lobj vs 0)).get? h'.objs.size = some (lobj vs 0) := Heap.get?_push_size _ rfl
  refine wpAny_bind (wpAny_holding (wpAny_call_entry_kw slot_list_sort ⟨_, ho, rfl⟩ entry_list_sort ?body (ksk_l1 _ _)))
  case body =>
    show wpAny (model X.prog X.w) X.A.in1.in1 (Builtin.«list.sort» ⟨[.ref h'.objs.size], [(Str.ofString "key", .ref q)]⟩) _ _ _
    rw [ksk_t1]
    refine sort_tree (n := n) I2 hn nw ho hv h64 (by show X.A.units + 1 + 1 < cLine; omega) T hc fun H' s' l I' hx hD hp hs => ⟨_, rfl, ?_⟩
    exact wpAny_pure ⟨_, rfl, .ref h'.objs.size, H', I', rfl, k _ H' l hx hn hD hp hs⟩

/-! ### a lambda is made -/
/-- a code object, by its name; a function object -/
def codeO (c : Addr) (qual : Str) : HO := .ext fun h => h.CodeRec (.ref c) qual
def fnO (q : Addr) (o : Obj) : HO := .ext fun h => h.get? q = some o
theorem codeO_ok {P : Program} {w : World} {H : Hp} {h : Heap} {c : Addr} {qual : Str} (x : h.CodeRec (.ref c) qual) : ObjOk P w H h c (codeO c qual) := by
  refine ⟨x, ?_, fun h1 h2 y k => ?_⟩
  · obtain ⟨c', o, vs, t, e, ho, _⟩ := x
    cases e
    exact ⟨o, ho⟩
  · obtain ⟨c', o, vs, t, e, ho, r⟩ := y
    cases e
    exact ⟨c, o, vs, t, rfl, k o ho, r⟩
theorem fnO_ok {P : Program} {w : World} {H : Hp} {h : Heap} {q : Addr} {o : Obj} (x : h.get? q = some o) : ObjOk P w H h q (fnO q o) := ⟨x, ⟨o, x⟩, fun h1 h2 y k => k o y⟩
/-- the table of a def's own code: nothing yet, or the lambda's code -/
def TabAt (H : Hp) (P : Addr) (pos : Pos) (qual : Str) : Prop :=
  H P = some (.tbl #[]) ∨ ∃ c', H P = some (.tbl #[rawInt pos.line, rawInt pos.col, .ref c']) ∧ H c' = some (codeO c' qual)
/-- all but the table stays -/
def ExtT (P : Addr) (H H' : Hp) : Prop := ∀ b o, H b = some o → b ≠ P → H' b = some o
theorem ExtT.of {P : Addr} {H H' : Hp} (x : Ext H H') : ExtT P H H' := fun b o e _ => x b o e
theorem ExtT.refl (P : Addr) (H : Hp) : ExtT P H H := fun b o e _ => e
theorem ExtT.trans {P : Addr} {H H1 H2 : Hp} (a : ExtT P H H1) (b : ExtT P H1 H2) : ExtT P H H2 := fun c o e n => b c o (a c o e n) n
structure LamSite (X : Cx) (c P : Addr) : Prop where
  code : X.env.code = .ref c
  hd : CodeHd X.base c P
  bm : X.base.BuiltinsAt X.mg P
  gl : mainGlobals ≠ P

theorem upd_get {H : Hp} {a b : Addr} {o u : HO} (h : upd H a o b = some u) : (b = a ∧ o = u) ∨ (b ≠ a ∧ H b = some u) := by
  by_cases e : b = a
  · subst e
    rw [upd_same] at h
    exact .inl ⟨rfl, Option.some.inj h⟩
  · rw [upd_ne e] at h
    exact .inr ⟨e, h⟩

theorem lam_make {c P : Addr} {params : Arguments} {body : Expr} {lscope : Scope} {pos : Pos} {qual : Str} {clos : List (Str × Addr)} {Q : VK} {E : Value → Shared → Prop} (I : Inv X pins σ H s) (L : LamSite X c P) (tab : TabAt H P pos qual)
    (hcl : closureFor lscope X.env = pure clos) (hqual : X.env.qual ++ "<lambda>" = qual) (hdef : defaultsOf params X.env = ([], []))
    (k : ∀ q c' ctv H', ExtT P H H' → TabAt H' P pos qual → H q = none → H' q = some (fnO q (kla_obj "<lambda>" qual params body lscope clos ((X.mg "__name__").getD .none) c' ctv)) → H' c' = some (codeO c' qual) → Q (.ref q) H') :
    wpAny (model X.prog X.w) X.A (eval (.Lambda params body lscope pos) X.env) (EP X pins σ Q) E s := by
  refine kla_eval hdef ?_
  rw [hqual]
  have hg : s.heap.Ns mainGlobals X.mg := I.mod.glob.keeps I.bk
  have C : CodeHd s.heap c P := L.hd.keeps I.bk
  have B : s.heap.BuiltinsAt X.mg P := L.bm.keeps I.bk
  rcases tab with e | ⟨c', e, ec⟩
  · have hP : s.heap.get? P = some (tabObj #[]) := I.hok P _ e
    refine kla_makeFunction hcl I.ok.glob hg L.code C hP (show TriplesOk [] from trivial) rfl L.gl B fun c' ctv h' tk hx hge hlt hrec htab => ?_
    have hsz : s.heap.objs.size ≤ h'.objs.size := Nat.le_trans hge (Nat.le_of_lt hlt)
    have hPs : P < s.heap.objs.size := Heap.lt_size hP
    have hcP : c' ≠ P := Nat.ne_of_gt (Nat.lt_of_lt_of_le hPs hge)
    have hqP : h'.objs.size ≠ P := Nat.ne_of_gt (Nat.lt_of_lt_of_le hPs hsz)
    have hqc : h'.objs.size ≠ c' := Nat.ne_of_gt hlt
    have hcn : H c' = none := I.hok.fresh hge
    have hqn : H h'.objs.size = none := I.hok.fresh hsz
    have etab : (#[] ++ #[rawInt pos.line, rawInt pos.col, Value.ref c'] : Array Value) = #[rawInt pos.line, rawInt pos.col, Value.ref c'] := by simp
    rw [etab] at htab
    have old : ∀ b o, b ≠ P → s.heap.get? b = some o → (h'.push (kla_obj "<lambda>" qual params body lscope clos ((X.mg "__name__").getD .none) c' ctv)).get? b = some o := fun b o hb q => Heap.get?_push_of_some _ (hx b o hb q)
    let H1 : Hp := upd (upd (upd H P (.tbl #[rawInt pos.line, rawInt pos.col, .ref c'])) c' (codeO c' qual)) h'.objs.size (fnO h'.objs.size (kla_obj "<lambda>" qual params body lscope clos ((X.mg "__name__").getD .none) c' ctv))
    have H1P : H1 P = some (.tbl #[rawInt pos.line, rawInt pos.col, .ref c']) := by
      show upd _ _ _ P = _
      rw [upd_ne (Ne.symm hqP), upd_ne (Ne.symm hcP), upd_same]
    have H1c : H1 c' = some (codeO c' qual) := by
      show upd _ _ _ c' = _
      rw [upd_ne (Ne.symm hqc), upd_same]
    have H1q : H1 h'.objs.size = some (fnO h'.objs.size (kla_obj "<lambda>" qual params body lscope clos ((X.mg "__name__").getD .none) c' ctv)) := upd_same
    have H1o : ∀ b, b ≠ P → b ≠ c' → b ≠ h'.objs.size → H1 b = H b := fun b h1 h2 h3 => by
      show upd _ _ _ b = _
      rw [upd_ne h3, upd_ne h2, upd_ne h1]
    have ext : ExtT P H H1 := fun b o eb hb => by
      rw [H1o b hb (ne_of_none eb hcn) (ne_of_none eb hqn)]
      exact eb
    have u : Un X.fs [] H H1 s.heap (h'.push (kla_obj "<lambda>" qual params body lscope clos ((X.mg "__name__").getD .none) c' ctv)) := by
      have nP : ∀ b, H b = none → b ≠ P := fun b n z => by rw [z, e] at n; cases n
      refine ⟨fun b o q n _ _ => old b o (nP b n) q, fun b o q n _ _ => ⟨o.slots, old b o (nP b n) q⟩, fun b o q n _ => ?_, fun b o q _ => ?_, fun b xs q => ?_, fun b o xs q => ?_, fun b ps q => ?_⟩
      · have hb : b < s.heap.objs.size := Heap.lt_size q
        rw [H1o b (nP b n) (Nat.ne_of_lt (Nat.lt_of_lt_of_le hb hge)) (Nat.ne_of_lt (Nat.lt_of_lt_of_le hb hsz))]
        exact n
      · by_cases hb : b = P
        · subst hb
          exact ⟨_, Heap.get?_push_of_some _ htab⟩
        · exact ⟨o, old b o hb q⟩
      · exact ext b _ q fun z => by rw [z, e] at q; cases q
      · exact ext b _ q fun z => by rw [z, e] at q; cases q
      · by_cases hb : b = P
        · subst hb
          rw [e] at q
          cases q
          exact ⟨_, by rw [H1P, etab]⟩
        · exact ⟨#[], by rw [ext b _ q hb]; simp⟩
    have hok : HOk X.prog X.w H1 (h'.push (kla_obj "<lambda>" qual params body lscope clos ((X.mg "__name__").getD .none) c' ctv)) := fun b o eb => by
      rcases upd_get eb with ⟨rfl, rfl⟩ | ⟨n1, eb⟩
      · exact fnO_ok (Heap.get?_push_size _ rfl)
      · rcases upd_get eb with ⟨rfl, rfl⟩ | ⟨n2, eb⟩
        · exact codeO_ok (hrec.push _)
        · rcases upd_get eb with ⟨rfl, rfl⟩ | ⟨n3, eb⟩
          · exact Heap.get?_push_of_some _ htab
          · refine (I.hok b o eb).stay (fun a v ha q => old a v ?_ q) (fun a q => ?_) fun a xs q => ?_
            · rcases ha with rfl | ha
              · exact n3
              · intro z
                rw [z, e] at ha
                cases ha
            · exact ext a _ q fun z => by rw [z, e] at q; cases q
            · exact ext a _ q fun z => by rw [z, e] at q; cases q
    exact ⟨.ref h'.objs.size, H1, I.un u hok, rfl, k _ c' ctv H1 ext (.inr ⟨c', H1P, H1c⟩) hqn H1q H1c⟩
  · have hP : s.heap.get? P = some (tabObj #[rawInt pos.line, rawInt pos.col, .ref c']) := I.hok P _ e
    refine kla_makeFunctionHit (cv := .ref c') hcl I.ok.glob hg L.code C hP (show TriplesOk [rawInt pos.line, rawInt pos.col, .ref c'] from trivial) (by simp [codeAmong, rawInt]) B fun ctv h' tk keep hsz => ?_
    have hqn : H h'.objs.size = none := I.hok.fresh hsz
    refine ⟨.ref h'.objs.size, upd H h'.objs.size (fnO h'.objs.size (kla_obj "<lambda>" qual params body lscope clos ((X.mg "__name__").getD .none) c' ctv)),
      I.laid (fun b o q => Heap.get?_push_of_some _ (keep b o q)) hsz (fnO_ok (Heap.get?_push_size _ rfl)), rfl, ?_⟩
    have x : Ext H (upd H h'.objs.size (fnO h'.objs.size (kla_obj "<lambda>" qual params body lscope clos ((X.mg "__name__").getD .none) c' ctv))) := Ext.new hqn
    exact k _ c' ctv _ (ExtT.of x) (.inr ⟨c', x _ _ e, x _ _ ec⟩) hqn upd_same (x _ _ ec)

/-! ### a lambda of one parameter is called -/
def lamCx (X : Cx) (A : Around) (N : List Str) (qual : Str) (lscope : Scope) (q c' : Addr) (clos : List (Str × Addr)) (s : Shared) (H : Hp) : Cx where
  prog := X.prog
  w := X.w
  K := X.K
  mg := X.mg
  base := X.base
  A := A.deeper (envX qual lscope s.heap.objs.size q (.ref c') clos)
  N := N
  s_0 := s
  H_0 := H
  env := envX qual lscope s.heap.objs.size q (.ref c') clos
  outer := X.stack
  stack := envX qual lscope s.heap.objs.size q (.ref c') clos :: X.stack
  ex := []
  fn := fun _ => false
  calm := true
  pn := []
  xe := fun _ _ => False

theorem lam_call {A : Around} {q c' : Addr} {qual x : Str} {params : Arguments} {body : Expr} {lscope : Scope} {clos : List (Str × Addr)} {pm ctv u : Value} {N : List Str} {σ2 : St} {Q : VK} {t : TE}
    (I : Inv X pins σ H s) (hA : A.frames = some X.stack) (hh : A.handled = none) (hroom : A.depth < recursionLimit)
    (hq : H q = some (fnO q (kla_obj "<lambda>" qual params body lscope clos pm c' ctv))) (hc' : H c' = some (codeO c' qual))
    (hb : bindArgs (kla_fn "<lambda>" qual params body lscope clos pm (.ref c') ctv) ⟨[u], []⟩ = pure [(x, u)])
    (hloc : lscope.names.lookup x = some .local) (hco : lscope.isCoroutine = false) (hgen : lscope.isGenerator = false) (hk : lscope.kind = .function) (hcell : ∀ y ∈ lscope.names, y.2 ≠ .cell)
    (hfree : ∀ y, lscope.names.lookup y = some .free → ∃ c, clos.lookup y = some c) (hcl : ∀ y c, clos.lookup y = some c → X.env.cells.lookup y = some c)
    (hσ : ∀ (i : Nat) (y : Str) (z : V), N[i]? = some y → σ2[i]? = some (some z) → (y = x ∧ RelV z u) ∨ (lscope.names.lookup y = some .free ∧ ∃ j : Nat, X.N[j]? = some y ∧ σ[j]? = some (some z) ∧ X.env.scope.names.lookup y = some .cell))
    (hl2 : σ2.length = N.length) (ht : PE (lamCx X A N qual lscope q c' clos s H) body t) (hq2 : t σ2 H Q) :
    wpAny (model X.prog X.w) A (call (.ref q) [u]) (EP X pins σ Q) (fun _ _ => False) s := by
  obtain ⟨hqo, _⟩ := I.hok q _ hq
  obtain ⟨hrec, _⟩ := I.hok c' _ hc'
  have lim := I.nolimit
  refine wpAny_call (kla_callFunE hroom hqo rfl hco hgen rfl hrec ?_)
  rw [hb]
  refine wpAny_pure (wpAny_newFunctionEnv hcell (fun y hy => ?_) (fun h1 hns hsb => ⟨lim.fresh _ hsb, ?_⟩) hk)
  · rw [List.mem_singleton.mp hy]
    exact hloc
  show codeAny _ _ (.expr body (envX qual lscope s.heap.objs.size q (.ref c') clos)) _ _
  have hk1 : ∀ b o, s.heap.get? b = some o → h1.get? b = some o := fun b o e => hsb.extBut b o (Nat.ne_of_lt (Heap.lt_size e)) (Heap.get?_push_of_some _ e)
  have noA : ∀ b : Addr, b ∉ (lamCx X A N qual lscope q c' clos s H).ex := fun b z => absurd (show b ∈ ([] : List Addr) from z) (by simp)
  have I2 : Inv (lamCx X A N qual lscope q c' clos s H) [] σ2 H { s with heap := h1, toks := s.toks + 1 } := by
    refine ⟨⟨I.mod, hk, rfl, rfl, Nat.le_refl _, fun y z c e1 e2 => I.ok.inj y z c (hcl y c e1) (hcl z c e2), fun y hy => ?_, fun y c z _ => Bool.noConfusion (show false = true from z), fun _ => hh, Around.frames_deeper hA, .inr ⟨rfl, rfl⟩,
        fun b z => absurd z (noA b), I.bs, Nat.le_trans I.ok.bsz I.sz, fun b _ _ => noA b, fun b z => absurd z (noA b), I.stack, I.stkFree⟩,
      rfl, I.bare, Un.kept hk1, ⟨_, hns, fun i y z e1 e2 e3 => ?_⟩, fun y c e => ?_, I.hok.fresh (Nat.le_refl _), fun y c e => I.freeC y c (hcl y c e), fun p hp => absurd (show p ∈ ([] : List (Addr × Obj)) from hp) (by simp), I.hok.kept hk1, hl2⟩
    · have hy : lscope.names.lookup y = some .cell ∨ lscope.names.lookup y = some .free := hy
      rcases hy with hy | hy
      · exact absurd rfl (hcell _ (PySem.mem_of_lookup hy))
      · exact hfree y hy
    · rcases hσ i y z e1 e2 with ⟨rfl, r⟩ | ⟨hf, j, h1', h2', h3'⟩
      · refine ⟨u, r, .inl ⟨hloc, ?_⟩⟩
        show ([(y, u)].reverse.lookup y) = some u
        simp
      · obtain ⟨m, _, hl⟩ := I.loc
        obtain ⟨u', r', l⟩ := hl j y z h1' h2' (.inr (.inl h3'))
        refine ⟨u', r', .inr ⟨.inr hf, ?_⟩⟩
        rcases l with ⟨hk', _⟩ | ⟨_, c, ec, hcel⟩
        · have hk' : X.env.scope.names.lookup y = some .local := hk'
          rw [h3'] at hk'
          cases hk'
        · obtain ⟨c2, ec2⟩ := hfree y hf
          have := hcl y c2 ec2
          rw [ec] at this
          cases this
          obtain ⟨o, ho, hd⟩ := hcel
          exact ⟨c, ec2, o, hk1 _ _ ho, hd⟩
    · obtain ⟨z, o, ho, hd⟩ := I.cell y c (hcl y c e)
      exact ⟨z, o, hk1 _ _ ho, hd⟩
  refine kla_codeExpr (wpAny_mono (ht [] _ σ2 H Q I2 hq2) (fun z s' hz => ?_) fun _ _ hF => hF.elim)
  obtain ⟨v', H', J, rv, qv⟩ := hz
  exact I.after ⟨v', H', J.os, J.bare, J.base, J.hok, rv, qv⟩
end
end L2
end
section
set_option Elab.async false
set_option linter.all false
set_option maxRecDepth 100000
set_option maxHeartbeats 4000000
/-! Over the hand layer: lists of whole numbers compared; range as a value; sorted with a lambda as an expression. -/
namespace L2
open PySem PySem.W PySem.Spec PyProof.Rows Te

/-! ### lists of whole numbers: <, == -/
theorem eqv_ints : ∀ a b : List Int, PyData.eqv (.list (a.map PyData.int)) (.list (b.map PyData.int)) = decide (a = b) := by
  intro a b
  have go : ∀ a b : List Int, PyData.eqvAll (a.map PyData.int) (b.map PyData.int) = decide (a = b) := by
    intro a
    induction a with
    | nil => intro b; cases b <;> rfl
    | cons x a ih =>
      intro b
      cases b with
      | nil => rfl
      | cons y b =>
        show (PyData.eqv (.int x) (.int y) && PyData.eqvAll (a.map PyData.int) (b.map PyData.int)) = _
        rw [ih b]
        show ((x == y) && decide (a = b)) = _
        by_cases e : x = y <;> by_cases e2 : a = b <;> simp [e, e2]
  exact go a b
section
variable {X : Cx}
theorem dp_ints {K : PySem.W.Frag} {H : Hp} : ∀ ns : List Int, DpAll K H (ns.map V.int) (ns.map PyData.int)
  | [] => .nil
  | n :: r => .cons (.int n) (dp_ints r)
theorem lay_ints : ∀ l : List Int, PyData.canLayAll0 (l.map PyData.int) = true ∧ PyData.depthAll (l.map PyData.int) = 0
  | [] => ⟨by simp [PyData.canLayAll0], by simp [PyData.depthAll]⟩
  | x :: l => by
    obtain ⟨h1, h2⟩ := lay_ints l
    constructor
    · simp [PyData.canLayAll0, PyData.canLay0, h1]
    · simp [PyData.depthAll, PyData.depth, h2]
theorem shaped_ints (ns : List Int) : SeqAt.shaped (.list (ns.map PyData.int)) = true := by
  obtain ⟨h1, h2⟩ := lay_ints ns
  unfold SeqAt.shaped
  simp [PyData.canLay0, PyData.depth, h1, h2]
def rEqL (K : PySem.W.Frag) : R2 := fun x y H Q => ∃ (a b : Addr) (ns ms : List Int), x = .ref a ∧ y = .ref b ∧ SqL K H a (ns.map V.int) ∧ SqL K H b (ms.map V.int) ∧ Q (.bl (decide (ns = ms))) H
theorem op_eqL (hu : X.A.units + 64 < cLine) : OpR X (compareOp .Eq) (rEqL X.K) := by
  intro pins s σ H x y v u Q I rx ry h
  obtain ⟨a, b, ns, ms, rfl, rfl, ha, hb, q⟩ := h
  refine op_eqD hu pins s σ H _ _ v u Q I rx ry ⟨.list (ns.map PyData.int), .list (ms.map PyData.int), .lst ha (dp_ints ns), .lst hb (dp_ints ms), shaped_ints ns, shaped_ints ms, ?_⟩
  rw [eqv_ints]
  exact q

/-! ### a statement, an expression, by what holds behind it -/
def tCut (t : TS) : TS := fun D σ H => ∃ N : St → Hp → Prop, (∀ σ' H', N σ' H' → D.nx σ' H') ∧ t { D with nx := N } σ H
theorem ps_cut {st : Stmt} {t : TS} (h : PS X st t) : PS X st (tCut t) := by
  intro pins s σ H D I hw
  obtain ⟨N, h1, h2⟩ := hw
  refine thn (h pins s σ H _ I h2) fun f s' q => ?_
  cases f with
  | next =>
    obtain ⟨σ', H', I', n⟩ := q
    exact ⟨σ', H', I', h1 _ _ n⟩
  | brk => exact q
  | cont => exact q
  | ret u => exact q
/-! ### range(n) as a value -/
theorem call_rangeV : CallR X (.type "range") (fun xs H Q => ∃ n : Int, xs = [.int n] ∧ ∀ p, H p = none → Q (.ref p) (upd H p (.rng 0 n))) := by
  intro pins s σ H xs us Q I r h
  obtain ⟨n, rfl, q⟩ := h
  obtain ⟨u, rfl, ru⟩ := Vals.one r
  obtain ⟨t, rfl⟩ := ru
  refine call_range_1 ?_
  refine ⟨.ref s.heap.objs.size, upd H s.heap.objs.size (.rng 0 n), I.laid (fun b o e => Heap.get?_push_of_some _ e) (Nat.le_refl _) ⟨_, _, _, Heap.get?_push_size _ rfl⟩, rfl, q _ (I.hok.fresh (Nat.le_refl _))⟩

/-! ### sorted(range, key = lambda) -/
/-- a key function's call: a new list of whole numbers -/
def KeyRuns (X : Cx) (σ : St) (H : Hp) (q : Addr) (n : Nat) (key : Nat → List Int) : Prop :=
  ∀ (pins' : List (Addr × Obj)) (i : Nat) (t : Tok) (H' : Hp) (s' : Shared), i < n → Ext H H' → Inv X pins' σ H' s' →
    wpAny (model X.prog X.w) X.A.in1.in1 (call (.ref q) [.int (i : Int) t]) (EP X pins' σ fun v H'' => ∃ p, v = .ref p ∧ H' p = none ∧ H'' = upd H' p (.lst ((key i).map V.int))) (fun _ _ => False) s'
def bSortK (X : Cx) (Pt : Addr) (lpos : Pos) (qual : Str) (obj : Addr → Value → Obj) (σ : St) (Q : VK) (x : V) (H1 : Hp) : Prop :=
  ∃ (r : Addr) (n : Nat) (key : Nat → List Int), x = .ref r ∧ H1 r = some (.rng 0 (n : Int)) ∧ n < 64 ∧ Tot (fun i j => lexI (key i) (key j)) n ∧ TabAt H1 Pt lpos qual ∧
    (∀ q c' ctv H2, ExtT Pt H1 H2 → H2 q = some (fnO q (obj c' ctv)) → H2 c' = some (codeO c' qual) → KeyRuns X σ H2 q n key) ∧
    ∀ D H2 (l : List Nat), ExtT Pt H1 H2 → TabAt H2 Pt lpos qual → H1 D = none → H2 D = some (.lst (iV l)) → l.Perm (List.range n) → l.Pairwise (fun i j => lexI (key i) (key j) = true) → Q (.ref D) H2
def tSortK (X : Cx) (te : TE) (Pt : Addr) (lpos : Pos) (qual : Str) (obj : Addr → Value → Obj) : TE := fun σ H Q => te σ H fun x H1 => bSortK X Pt lpos qual obj σ Q x H1
theorem ext_tab {Pt : Addr} {H H' : Hp} {lpos : Pos} {qual : Str} (x : Ext H H') (t : TabAt H Pt lpos qual) : TabAt H' Pt lpos qual := by
  rcases t with e | ⟨c', e, ec⟩
  · exact .inl (x _ _ e)
  · exact .inr ⟨c', x _ _ e, x _ _ ec⟩
theorem pe_sortK {e : Expr} {te : TE} {params : Arguments} {body : Expr} {lscope : Scope} {lpos kpos p pos : Pos} {c Pt : Addr} {qual : Str} {clos : List (Str × Addr)} (hcalm : X.calm = true) (hg : Gl X "sorted") (hm : X.mg "sorted" = none)
    (ha : PE X e te) (L : LamSite X c Pt) (hcl : closureFor lscope X.env = pure clos) (hqual : X.env.qual ++ "<lambda>" = qual) (hdef : defaultsOf params X.env = ([], [])) (hu : X.A.units + 2 < cLine)
    (hs : starEach [e] X.env = [(false, eval e X.env)] := by rfl) :
    PE X (.Call (.Name "sorted" p) [e] [⟨some "key", .Lambda params body lscope lpos, kpos⟩] pos) (tSortK X te Pt lpos qual (kla_obj "<lambda>" qual params body lscope clos ((X.mg "__name__").getD .none))) := by
  intro pins s σ H Q I h
  refine wpAny_Call_Name_kw (ld_blt I hg hm boot_sorted ?_)
  refine callWith_kw (e := e) (rest := []) (thn ((pa_cons ha pa_nil (hs := hs)) pos pins s σ H (fun vs H1 => match vs with
    | [x] => bSortK X Pt lpos qual (kla_obj "<lambda>" qual params body lscope clos ((X.mg "__name__").getD .none)) σ Q x H1
    | _ => False) I h) fun us s1 ⟨vs, H1, I1, r1, q1⟩ => ?_) (by rw [hs]; rfl) (by rw [hs]; rfl)
  match vs, q1 with
  | [x], q1 =>
    obtain ⟨u, rfl, ru⟩ := Vals.one r1
    obtain ⟨r, n, key, rfl, hr, h64, T, tab, hk, k⟩ := q1
    obtain rfl : u = Value.ref r := ru
    refine kws_cons (thn (lam_make (E := X.xe) (Q := fun v H2 => ∃ q c' ctv, v = .ref q ∧ ExtT Pt H1 H2 ∧ TabAt H2 Pt lpos qual ∧ H2 q = some (fnO q (kla_obj "<lambda>" qual params body lscope clos ((X.mg "__name__").getD .none) c' ctv)) ∧ H2 c' = some (codeO c' qual))
      I1 L tab hcl hqual hdef fun q c' ctv H2 x2 t2 hq0 hq hc' => ⟨q, c', ctv, rfl, x2, t2, hq, hc'⟩) fun v s2 hv => ?_)
    obtain ⟨v', H2, I2, rv, q, c', ctv, rfl, x2, t2, hq, hc'⟩ := hv
    obtain rfl : v = Value.ref q := rv
    refine kws_nil ?_
    show wpAny (model X.prog X.w) X.A (call (.builtin "sorted") [.ref r] [(Str.ofString "key", .ref q)]) (EP X pins σ Q) X.xe s2
    have hPt : ∃ o, H1 Pt = some (.tbl o) := by
      rcases tab with e | ⟨_, e, _⟩
      · exact ⟨_, e⟩
      · exact ⟨_, e⟩
    have hPt2 : ∃ o, H2 Pt = some (.tbl o) := by
      rcases t2 with e | ⟨_, e, _⟩
      · exact ⟨_, e⟩
      · exact ⟨_, e⟩
    have hrP : r ≠ Pt := fun z => by
      obtain ⟨o, e⟩ := hPt
      rw [z, e] at hr
      cases hr
    refine sorted_range I2 hcalm (x2 _ _ hr hrP) h64 hu T (hk q c' ctv H2 x2 hq hc') fun D H3 l x3 hn hD hp hs => k D H3 l (x2.trans (ExtT.of x3)) (ext_tab x3 t2) ?_ hD hp hs
    cases z : H1 D with
    | none => rfl
    | some o =>
      by_cases e : D = Pt
      · obtain ⟨o', e'⟩ := hPt2
        rw [e, e'] at hn
        cases hn
      · rw [x2 D o z e] at hn
        cases hn
end
end L2
end
section
set_option Elab.async false
set_option linter.all false
set_option maxRecDepth 100000
set_option maxHeartbeats 4000000
/-! Over the hand layer, for a list of lists of whole numbers: max(ls, key=len, default=[]), min(ls), ls.index(l). -/
namespace L2
open PySem PySem.W PySem.Spec PyProof.Rows Te

/-- the lists Rs stand at the references xs -/
structure RowsAt (H : Hp) (xs : List V) (Rs : List (List Int)) : Prop where
  len : xs.length = Rs.length
  row : ∀ (i : Nat) (R : List Int), Rs[i]? = some R → ∃ p, xs[i]? = some (V.ref p) ∧ H p = some (.lst (R.map V.int))
theorem RowsAt.nil (H : Hp) : RowsAt H [] [] := ⟨rfl, fun i R h => by cases h⟩
theorem RowsAt.ext {H H' : Hp} {xs : List V} {Rs : List (List Int)} (h : RowsAt H xs Rs) (x : Ext H H') : RowsAt H' xs Rs :=
  ⟨h.len, fun i R e => let ⟨p, h1, h2⟩ := h.row i R e; ⟨p, h1, x _ _ h2⟩⟩
theorem RowsAt.append {H : Hp} {xs ys : List V} {Rs Ss : List (List Int)} (h : RowsAt H xs Rs) (h' : RowsAt H ys Ss) : RowsAt H (xs ++ ys) (Rs ++ Ss) := by
  refine ⟨by rw [List.length_append, List.length_append, h.len, h'.len], fun i R e => ?_⟩
  by_cases hi : i < Rs.length
  · rw [List.getElem?_append_left hi] at e
    obtain ⟨p, h1, h2⟩ := h.row i R e
    exact ⟨p, by rw [List.getElem?_append_left (by rw [h.len]; exact hi)]; exact h1, h2⟩
  · rw [List.getElem?_append_right (by omega)] at e
    obtain ⟨p, h1, h2⟩ := h'.row _ R e
    exact ⟨p, by rw [List.getElem?_append_right (by rw [h.len]; omega), h.len]; exact h1, h2⟩
theorem RowsAt.one {H : Hp} {p : Addr} {R : List Int} (h : H p = some (.lst (R.map V.int))) : RowsAt H [V.ref p] [R] :=
  ⟨rfl, fun i S e => match i, e with
    | 0, e => by cases e; exact ⟨p, rfl, h⟩
    | i + 1, e => by cases e⟩
theorem RowsAt.upd {H : Hp} {xs : List V} {Rs : List (List Int)} (h : RowsAt H xs Rs) {g : Addr} {o : HO} (n : V.ref g ∉ xs) : RowsAt (upd H g o) xs Rs :=
  ⟨h.len, fun i R e => let ⟨p, h1, h2⟩ := h.row i R e; ⟨p, h1, by rw [upd_ne fun z => n (by rw [← z]; exact List.mem_of_getElem? h1)]; exact h2⟩⟩
/-- of the places below m the first of the least -/
def FirstK (key : Nat → List Int) (m b : Nat) : Prop := b < m ∧ (∀ j, j < m → lexI (key j) (key b) = false) ∧ ∀ j, j < b → lexI (key b) (key j) = true
theorem firstK_one (key : Nat → List Int) : FirstK key 1 0 := ⟨by omega, fun j hj => by
  have e : j = 0 := by omega
  subst e
  exact lexI_irrefl _, fun j hj => absurd hj (by omega)⟩
theorem firstK_more {key : Nat → List Int} {j ib : Nat} (hb : FirstK key j ib) (h : lexI (key j) (key ib) = true) : FirstK key (j + 1) j := by
  have low : ∀ j', j' < j → lexI (key j) (key j') = true := fun j' hj' => by
    have h1 := hb.2.1 j' hj'
    cases q2 : lexI (key ib) (key j') with
    | true => exact lexI_trans _ _ _ h q2
    | false =>
      rw [lexI_total _ _ h1 q2]
      exact h
  refine ⟨by omega, fun j' hj' => ?_, low⟩
  by_cases e : j' = j
  · subst e
    exact lexI_irrefl _
  · cases q2 : lexI (key j') (key j) with
    | false => rfl
    | true =>
      have := lexI_trans _ _ _ (low j' (by omega)) q2
      rw [lexI_irrefl] at this
      cases this
theorem firstK_same {key : Nat → List Int} {j ib : Nat} (hb : FirstK key j ib) (h : lexI (key j) (key ib) = false) : FirstK key (j + 1) ib := by
  refine ⟨by have := hb.1; omega, fun j' hj' => ?_, hb.2.2⟩
  by_cases e : j' = j
  · subst e
    exact h
  · exact hb.2.1 j' (by omega)

section
variable {X : Cx} {pins : List (Addr × Obj)} {σ : St} {H : Hp} {E : Value → Shared → Prop} {it S a : Addr} {xs : List V} {Rs : List (List Int)} {Q : VK} {kw : List (Str × Value)}
def BestEnd (X : Cx) (pins : List (Addr × Obj)) (σ : St) (Q : VK) (E : Value → Shared → Prop) : Result → Shared → Prop := fun r s' => match r with
  | .ok (.ret v) => EP X pins σ Q v s'
  | .ok _ => False
  | .error e => E e s'
/-- a list's iterator, at its j-th turn -/
structure LItr (o : Obj) (a : Addr) (j : Nat) : Prop where
  cls : o.cls = .type "list_iterator"
  data : o.data = .fields #[.ref a, .int j 0]
theorem LItr.at_ {o : Obj} {a b : Addr} {j : Nat} (l : LItr o a j) {h : Heap} (e : h.get? b = some o) : h.IsListIter b a j := ⟨o, e, l.cls, l.data⟩
theorem LItr.nocell {o : Obj} {a : Addr} {j : Nat} (l : LItr o a j) : ∀ v, o.data ≠ .cell v := fun v h => by rw [l.data] at h; cases h
/-- the iterator has turned, the pins stand again -/
theorem litr_turned {s' : Shared} {vs : List Value} {c j : Nat} {o : Obj} {h' : Heap} {tk : Nat} (J : Inv X ((it, o) :: (S, lobj vs c) :: pins) σ H s') (nI : NewAt X pins it) (nS : NewAt X pins S) (hIS : it ≠ S)
    (hit : h'.IsListIter it a (j + 1)) (sb : Heap.SameBut it s'.heap h') : ∃ o', LItr o' a (j + 1) ∧ Inv X ((it, o') :: (S, lobj vs c) :: pins) σ H { s' with heap := h', toks := tk } := by
  have pI := J.pin (it, o) (List.mem_append_right _ (.head _))
  have pS := J.pin (S, lobj vs c) (List.mem_append_right _ (.tail _ (.head _)))
  have J0 : Inv X pins σ H s' := pins_sub J fun p hp => .tail _ (.tail _ hp)
  have J1 : Inv X pins σ H { s' with heap := h', toks := tk } := J0.turned (it := it) (t' := tk) (fun b o hb e => (sb.2 b hb).trans e) pI.2.1 nI.loc (.inr nI.ge) nI.cell nI.pin
  obtain ⟨o', ho', hc, hd⟩ := hit
  refine ⟨o', ⟨hc, hd⟩, J1.pins_of fun p hp => ?_⟩
  rcases List.mem_cons.mp hp with rfl | hp
  · exact ⟨ho', pI.2.1, nI.loc, nI.fs, LItr.nocell ⟨hc, hd⟩⟩
  · rcases List.mem_cons.mp hp with rfl | hp
    · exact ⟨(sb.2 S (Ne.symm hIS)).trans pS.1, pS.2.1, nS.loc, nS.fs, lobj_nocell _ _⟩
    · exact J1.pin p (List.mem_append_right _ hp)
/-- the best one is written down anew -/
theorem best_put {s' : Shared} {vs ws : List Value} {c : Nat} {o : Obj} (ho : ∀ v, o.data ≠ .cell v) (J : Inv X ((it, o) :: (S, lobj vs c) :: pins) σ H s') (nI : NewAt X pins it) (nS : NewAt X pins S) (hIS : it ≠ S) :
    ∃ c', Inv X ((it, o) :: (S, lobj ws c') :: pins) σ H { s' with heap := s'.heap.update S (Obj.mapSeq fun _ => ws.toArray) } := by
  have pI := J.pin (it, o) (List.mem_append_right _ (.head _))
  have pS := J.pin (S, lobj vs c) (List.mem_append_right _ (.tail _ (.head _)))
  have J0 : Inv X pins σ H s' := pins_sub J fun p hp => .tail _ (.tail _ hp)
  have J1 := relist (xs := vs) (e0 := c) (f := fun _ => ws.toArray) J0 pS.2.1 nS
  obtain ⟨c', hc'⟩ : ∃ c', (s'.heap.update S (Obj.mapSeq fun _ => ws.toArray)).get? S = some (lobj ws c') := ⟨_, get?_update_seq pS.1 fun _ => ws.toArray⟩
  refine ⟨c', J1.pins_of fun p hp => ?_⟩
  rcases List.mem_cons.mp hp with rfl | hp
  · exact ⟨(Heap.get?_update_other s'.heap _ (Ne.symm hIS)).trans pI.1, pI.2.1, nI.loc, nI.fs, ho⟩
  · rcases List.mem_cons.mp hp with rfl | hp
    · exact ⟨hc', pS.2.1, nS.loc, nS.fs, lobj_nocell _ _⟩
    · exact J1.pin p (List.mem_append_right _ hp)
/-- a turn's item -/
theorem item_at {s' : Shared} {j : Nat} {R : List Int} (J : Inv X pins σ H s') (hl : SqL X.K H a xs) (hr : RowsAt H xs Rs) (hR : Rs[j]? = some R) :
    ∃ (its : Array Value) (p : Addr), s'.heap.IsList a its ∧ its[j]? = some (.ref p) ∧ H p = some (.lst (R.map V.int)) ∧ xs[j]? = some (V.ref p) := by
  obtain ⟨its, rv, pl, _⟩ := J.list hl
  obtain ⟨p, h1, h2⟩ := hr.row j R hR
  obtain ⟨u, hu, ru⟩ := rv.get h1
  obtain rfl : u = Value.ref p := ru
  exact ⟨its.toArray, p, pl.isList, by simpa using hu, h2, h1⟩
theorem item_end {s' : Shared} (J : Inv X pins σ H s') (hl : SqL X.K H a xs) : ∃ its : Array Value, s'.heap.IsList a its ∧ its[xs.length]? = none := by
  obtain ⟨its, rv, pl, _⟩ := J.list hl
  refine ⟨its.toArray, pl.isList, ?_⟩
  have := rv.length
  simp
  omega

/-! ### max, by len -/
theorem max_loop (hh : X.A.handled = none) (nI : NewAt X pins it) (nS : NewAt X pins S) (hIS : it ≠ S) (hl : SqL X.K H a xs) (hr : RowsAt H xs Rs)
    (k : ∀ p, H p = some (.lst ((Rs.foldl longer []).map V.int)) → Q (.ref p) H) :
    ∀ (r j : Nat) (s' : Shared) (B : List Int) (tb : Tok) (pb : Addr) (c : Nat) (o : Obj), Rs.length - j = r → j ≤ Rs.length → LItr o a j → Inv X ((it, o) :: (S, lobj [.ref pb, .int (B.length : Int) tb] c) :: pins) σ H s' →
      H pb = some (.lst (B.map V.int)) → B = (Rs.take j).foldl longer [] →
      codeAny (model X.prog X.w) X.A (.builtin "max.loop" ⟨[.ref it, .builtin "len", .ref S], kw⟩) (BestEnd X pins σ Q E) s' := by
  have hname : (toString "max" ++ toString ".loop" : String) = "max.loop" := by decide
  intro r
  induction r with
  | zero =>
    intro j s' B tb pb c o hrr hj hit J hpb hB
    have e : j = Rs.length := by omega
    subst e
    have pI := J.pin (it, o) (List.mem_append_right _ (.head _))
    have pS := J.pin (S, lobj [.ref pb, .int (B.length : Int) tb] c) (List.mem_append_right _ (.tail _ (.head _)))
    have J0 : Inv X pins σ H s' := pins_sub J fun p hp => .tail _ (.tail _ hp)
    obtain ⟨its, hls, hend⟩ := item_end J0 hl
    rw [hr.len] at hend
    refine codeAny_builtin PySem.F.entry_max_loop ?_
    rw [Around.under_plainId PySem.F.plain_max_loop _]
    show wpAny _ X.A.in1 (seqItems? (.ref S) >>= _) _ _ _
    refine wpAny_bind (wpAny_seqItems pS.1 rfl ?_)
    show wpAny _ X.A.in1 (tryCatch (pyNext (.ref it)) _ >>= _) _ _ _
    refine wpAny_bind (wpAny_tryCatch (wpAny_pyNext_list_end (A := X.A.in1) hh (hit.at_ pI.1) hls hend fun h' hx' => ?_))
    have J1 : Inv X pins σ H { s' with heap := h' } := J0.turned (it := it) (t' := s'.toks) (fun b o hb e => hx' b o hb e) pI.2.1 nI.loc (.inr nI.ge) nI.cell nI.pin
    have hS' : h'.get? S = some (lobj [.ref pb, .int (B.length : Int) tb] c) := hx' _ _ (Ne.symm hIS) pS.1
    have J2 := relist (xs := [.ref pb, .int (B.length : Int) tb]) (e0 := c) (f := fun _ => (#[] : Array Value)) J1 pS.2.1 nS
    show wpAny _ X.A.in1 (updateSeq S (fun _ => #[]) >>= _) _ _ _
    refine wpAny_bind (wpAny_updateSeq hS' rfl (wpAny_bind (wpAny_letGo (wpAny_pure ?_))))
    refine ⟨.ref pb, H, J2, rfl, k pb ?_⟩
    rw [List.take_length] at hB
    rw [← hB]
    exact hpb
  | succ r ih =>
    intro j s' B tb pb c o hrr hj hit J hpb hB
    have hjn : j < Rs.length := by omega
    have hR : Rs[j]? = some Rs[j] := List.getElem?_eq_getElem hjn
    have pI := J.pin (it, o) (List.mem_append_right _ (.head _))
    have pS := J.pin (S, lobj [.ref pb, .int (B.length : Int) tb] c) (List.mem_append_right _ (.tail _ (.head _)))
    obtain ⟨its, p, hls, hitem, hp, _⟩ := item_at J hl hr hR
    have hB2 : (Rs.take (j + 1)).foldl longer [] = longer B Rs[j] := by
      rw [List.take_add_one, hR, List.foldl_append, ← hB]
      rfl
    generalize Rs[j] = R at hR hp hB2
    refine codeAny_builtin PySem.F.entry_max_loop ?_
    rw [Around.under_plainId PySem.F.plain_max_loop _]
    show wpAny _ X.A.in1 (seqItems? (.ref S) >>= _) _ _ _
    refine wpAny_bind (wpAny_seqItems pS.1 rfl ?_)
    show wpAny _ X.A.in1 (tryCatch (pyNext (.ref it)) _ >>= _) _ _ _
    refine wpAny_bind (wpAny_tryCatch (wpAny_pyNext_list_item (A := X.A.in1) (hit.at_ pI.1) hls hitem fun h' hit' sb => ?_))
    obtain ⟨o', ho', J1⟩ := litr_turned (tk := s'.toks) J nI nS hIS hit' sb
    obtain ⟨its2, rv2, pl2, hz2⟩ := J1.list (.inl (.inl hp))
    have hn := line63
    have hlen2 : its2.length = R.length := by
      have := rv2.length
      rw [List.length_map] at this
      exact this.symm
    rw [List.length_map] at hz2
    show wpAny _ X.A.in1 (tryCatch (holding [.ref p] (call (.builtin "len") [.ref p])) _ >>= _) _ _ _
    refine wpAny_bind (wpAny_tryCatch (wpAny_holding (Calls.call_len_list (A := X.A.in1) pl2.isList (by simp only [List.size_toArray]; omega) ?_)))
    rw [List.size_toArray, hlen2]
    have J2 := J1.tok (s'.toks + 1 + 1)
    have pS2 := J2.pin (S, lobj [.ref pb, .int (B.length : Int) tb] c) (List.mem_append_right _ (.tail _ (.head _)))
    show wpAny _ X.A.in1 (tryCatch (holding [.ref p, .int (R.length : Int) (s'.toks + 1)] (richCompare .Gt (.int (R.length : Int) (s'.toks + 1)) (.int (B.length : Int) tb) >>= _)) _ >>= _) _ _ _
    refine wpAny_bind (wpAny_tryCatch (wpAny_holding (wpAny_bind ?_)))
    refine (gt_int (A := X.A.in1) ?_ : wpAny (model X.prog X.w) X.A.in1 (compareOp .Gt (.int (R.length : Int) (s'.toks + 1)) (.int (B.length : Int) tb)) _ _ _)
    refine wpAny_bind (wpAny_holding (wpAny_truthy_bool ?_))
    refine wpAny_bind (wpAny_letGo (wpAny_pure ?_))
    by_cases hb' : B.length < R.length
    · rw [if_pos (decide_eq_true (by omega))]
      refine wpAny_bind (wpAny_updateSeq pS2.1 rfl (wpAny_bind (wpAny_letGo ?_)))
      rw [hname]
      obtain ⟨c', J3⟩ := best_put (ws := [.ref p, .int (R.length : Int) (s'.toks + 1)]) ho'.nocell J2 nI nS hIS
      refine wpAny_pure ⟨plainId_quiet PySem.F.plain_max_loop _, ih (j + 1) _ R _ p c' o' (by omega) hjn ho' J3 hp ?_⟩
      rw [hB2]
      unfold longer
      rw [if_pos hb']
    · rw [if_neg (by rw [decide_eq_true_eq]; omega)]
      refine wpAny_bind (wpAny_letGo ?_)
      rw [hname]
      refine wpAny_pure ⟨plainId_quiet PySem.F.plain_max_loop _, ih (j + 1) _ B tb pb c o' (by omega) hjn ho' J2 hpb ?_⟩
      rw [hB2]
      unfold longer
      rw [if_neg hb']
theorem max_args (u v w : Value) : argsOk "max" ⟨[u], [(Str.ofString "key", v), (Str.ofString "default", w)]⟩ := by unfold argsOk; kernel_rfl
/-- max(ls, key = len, default = an empty list) -/
theorem max_len {s : Shared} {d : Addr} (I : Inv X pins σ H s) (hcalm : X.calm = true) (hl : SqL X.K H a xs) (hr : RowsAt H xs Rs) (hpos : ∀ R ∈ Rs, 1 ≤ R.length) (hd : H d = some (.lst []))
    (k : ∀ p, H p = some (.lst ((Rs.foldl longer []).map V.int)) → Q (.ref p) H) :
    wpAny (model X.prog X.w) X.A (call (.builtin "max") [.ref a] [(Str.ofString "key", .builtin "len"), (Str.ofString "default", .ref d)]) (EP X pins σ Q) E s := by
  have hname : (toString "max" ++ toString ".loop" : String) = "max.loop" := by decide
  have hh := I.ok.hd hcalm
  obtain ⟨its0, rv0, pl0, _⟩ := I.list hl
  refine kmk_tree PySem.F.kind_max PySem.F.plain_max PySem.F.entry_max (max_args _ _ _) ?_
  show wpAny _ X.A.in1 (Builtin.Builtins.bindParams "max" ["key", "default"] 0 ⟨[], [(Str.ofString "key", .builtin "len"), (Str.ofString "default", .ref d)]⟩ >>= _) _ _ s
  refine wpAny_bind (wpAny_of_eq (show Builtin.Builtins.bindParams "max" ["key", "default"] 0 ⟨[], [(Str.ofString "key", .builtin "len"), (Str.ofString "default", .ref d)]⟩ = pure [some (.builtin "len"), some (.ref d)] from rfl) ?_)
  refine wpAny_bind (wpAny_pure ?_)
  refine wpAny_bind (wpAny_pyIter_list pl0.isList ?_)
  refine wpAny_bind (wpAny_newList ?_ (Nat.zero_le _))
  rw [hname]
  generalize ho : ({ cls := .type "list_iterator", data := .fields #[.ref a, .int 0 0] } : Obj) = o
  have hit : LItr o a 0 := ⟨by rw [← ho], by rw [← ho]; rfl⟩
  have hfr : o.isFreed = false := by rw [← ho]; rfl
  have I1 : Inv X pins σ H { s with heap := s.heap.push o } := I.kept (t' := s.toks) fun b o e => Heap.get?_push_of_some _ e
  have I2 : Inv X pins σ H { s with heap := (s.heap.push o).push (lobj [] 0) } := I1.kept (t' := s.toks) fun b o e => Heap.get?_push_of_some _ e
  have nI : NewAt X pins s.heap.objs.size := newAt I (Nat.le_refl _)
  have nS : NewAt X pins (s.heap.push o).objs.size := newAt I1 (Nat.le_refl _)
  have gI : ((s.heap.push o).push (lobj [] 0)).get? s.heap.objs.size = some o := Heap.get?_push_of_some _ (Heap.get?_push_size _ hfr)
  have gS : ((s.heap.push o).push (lobj [] 0)).get? (s.heap.push o).objs.size = some (lobj [] 0) := Heap.get?_push_size _ rfl
  have zI : H s.heap.objs.size = none := I.hok.fresh (Nat.le_refl _)
  have zS : H (s.heap.push o).objs.size = none := I1.hok.fresh (Nat.le_refl _)
  have hIS : s.heap.objs.size ≠ (s.heap.push o).objs.size := by
    rw [size_push']
    exact Nat.ne_of_lt (Nat.lt_succ_self _)
  refine wpAny_pure ⟨plainId_quiet PySem.F.plain_max_loop _, ?_⟩
  show codeAny (model X.prog X.w) X.A (.builtin "max.loop" ⟨[.ref s.heap.objs.size, .builtin "len", .ref (s.heap.push o).objs.size], [(Str.ofString "default", .ref d)]⟩) (BestEnd X pins σ Q E) { s with heap := (s.heap.push o).push (lobj [] 0) }
  revert I2 nS gI gS zS hIS
  generalize (s.heap.push o).objs.size = S
  generalize (s.heap.push o).push (lobj [] 0) = h2
  revert nI zI
  generalize s.heap.objs.size = it
  intro nI zI I2 nS gI gS zS hIS
  have J : Inv X ((it, o) :: (S, lobj [] 0) :: pins) σ H { s with heap := h2 } := I2.pins_of fun p hp => by
    rcases List.mem_cons.mp hp with rfl | hp
    · exact ⟨gI, zI, nI.loc, nI.fs, hit.nocell⟩
    · rcases List.mem_cons.mp hp with rfl | hp
      · exact ⟨gS, zS, nS.loc, nS.fs, lobj_nocell _ _⟩
      · exact I2.pin p (List.mem_append_right _ hp)
  refine codeAny_builtin PySem.F.entry_max_loop ?_
  rw [Around.under_plainId PySem.F.plain_max_loop _]
  show wpAny _ X.A.in1 (seqItems? (.ref S) >>= _) _ _ _
  refine wpAny_bind (wpAny_seqItems gS rfl ?_)
  show wpAny _ X.A.in1 (tryCatch (pyNext (.ref it)) _ >>= _) _ _ _
  cases hRs : Rs with
  | nil =>
    obtain ⟨its, hls, hend⟩ := item_end I2 hl
    rw [hr.len, hRs] at hend
    refine wpAny_bind (wpAny_tryCatch (wpAny_pyNext_list_end (A := X.A.in1) hh (hit.at_ gI) hls hend fun h' hx' => ?_))
    have J1 : Inv X pins σ H { s with heap := h' } := Inv.turned (s := { s with heap := h2 }) I2 (it := it) (t' := s.toks) (fun b o hb e => hx' b o hb e) zI nI.loc (.inr nI.ge) nI.cell nI.pin
    refine wpAny_bind (wpAny_rule (wpAny_pure ?_))
    refine ⟨.ref d, H, J1, rfl, k d ?_⟩
    rw [hRs]
    exact hd
  | cons R Rr =>
    have hR : Rs[0]? = some R := by rw [hRs]; rfl
    obtain ⟨its, p, hls, hitem, hp, _⟩ := item_at J hl hr hR
    have hRp : 1 ≤ R.length := hpos R (by rw [hRs]; exact List.mem_cons_self)
    refine wpAny_bind (wpAny_tryCatch (wpAny_pyNext_list_item (A := X.A.in1) (hit.at_ gI) hls hitem fun h' hit' sb => ?_))
    obtain ⟨o', ho', J1⟩ := litr_turned (tk := s.toks) J nI nS hIS hit' sb
    obtain ⟨its2, rv2, pl2, hz2⟩ := J1.list (.inl (.inl hp))
    have hn := line63
    have hlen2 : its2.length = R.length := by
      have := rv2.length
      rw [List.length_map] at this
      exact this.symm
    rw [List.length_map] at hz2
    show wpAny _ X.A.in1 (tryCatch (holding [.ref p] (call (.builtin "len") [.ref p])) _ >>= _) _ _ _
    refine wpAny_bind (wpAny_tryCatch (wpAny_holding (Calls.call_len_list (A := X.A.in1) pl2.isList (by simp only [List.size_toArray]; omega) ?_)))
    rw [List.size_toArray, hlen2]
    have J2 := J1.tok (s.toks + 1 + 1)
    have pS2 := J2.pin (S, lobj [] 0) (List.mem_append_right _ (.tail _ (.head _)))
    refine wpAny_bind (wpAny_updateSeq pS2.1 rfl ?_)
    rw [hname]
    obtain ⟨c', J3⟩ := best_put (ws := [.ref p, .int (R.length : Int) (s.toks + 1)]) ho'.nocell J2 nI nS hIS
    refine wpAny_pure ⟨plainId_quiet PySem.F.plain_max_loop _, max_loop (Rs := Rs) hh nI nS hIS hl hr k (Rs.length - 1) 1 _ R _ p c' o' rfl (by rw [hRs]; exact Nat.succ_le_succ (Nat.zero_le _)) ho' J3 hp ?_⟩
    rw [hRs]
    show R = longer [] R
    unfold longer
    rw [if_pos (show ([] : List Int).length < R.length from hRp)]

/-! ### min -/
theorem min_loopL (hh : X.A.handled = none) (hu : X.A.units + 1 < cLine) (nI : NewAt X pins it) (nS : NewAt X pins S) (hIS : it ≠ S) (hl : SqL X.K H a xs) (hr : RowsAt H xs Rs)
    (k : ∀ (i : Nat) (p : Addr), FirstK (fun i => Rs.getD i []) Rs.length i → xs[i]? = some (V.ref p) → Q (.ref p) H) :
    ∀ (r j ib : Nat) (s' : Shared) (B : List Int) (pb : Addr) (c : Nat) (o : Obj), Rs.length - j = r → j ≤ Rs.length → LItr o a j → Inv X ((it, o) :: (S, lobj [.ref pb, .ref pb] c) :: pins) σ H s' →
      H pb = some (.lst ((Rs.getD ib []).map V.int)) → xs[ib]? = some (V.ref pb) → FirstK (fun i => Rs.getD i []) j ib →
      codeAny (model X.prog X.w) X.A (.builtin "min.loop" ⟨[.ref it, .none, .ref S], []⟩) (BestEnd X pins σ Q E) s' := by
  have hname : (toString "min" ++ toString ".loop" : String) = "min.loop" := by decide
  intro r
  induction r with
  | zero =>
    intro j ib s' B pb c o hrr hj hit J hpb hxb hb
    have e : j = Rs.length := by omega
    subst e
    have pI := J.pin (it, o) (List.mem_append_right _ (.head _))
    have pS := J.pin (S, lobj [.ref pb, .ref pb] c) (List.mem_append_right _ (.tail _ (.head _)))
    have J0 : Inv X pins σ H s' := pins_sub J fun p hp => .tail _ (.tail _ hp)
    obtain ⟨its, hls, hend⟩ := item_end J0 hl
    rw [hr.len] at hend
    refine codeAny_builtin PySem.F.entry_min_loop ?_
    rw [Around.under_plainId PySem.F.plain_min_loop _]
    show wpAny _ X.A.in1 (seqItems? (.ref S) >>= _) _ _ _
    refine wpAny_bind (wpAny_seqItems pS.1 rfl ?_)
    show wpAny _ X.A.in1 (tryCatch (pyNext (.ref it)) _ >>= _) _ _ _
    refine wpAny_bind (wpAny_tryCatch (wpAny_pyNext_list_end (A := X.A.in1) hh (hit.at_ pI.1) hls hend fun h' hx' => ?_))
    have J1 : Inv X pins σ H { s' with heap := h' } := J0.turned (it := it) (t' := s'.toks) (fun b o hb e => hx' b o hb e) pI.2.1 nI.loc (.inr nI.ge) nI.cell nI.pin
    have hS' : h'.get? S = some (lobj [.ref pb, .ref pb] c) := hx' _ _ (Ne.symm hIS) pS.1
    have J2 := relist (xs := [.ref pb, .ref pb]) (e0 := c) (f := fun _ => (#[] : Array Value)) J1 pS.2.1 nS
    show wpAny _ X.A.in1 (updateSeq S (fun _ => #[]) >>= _) _ _ _
    refine wpAny_bind (wpAny_updateSeq hS' rfl (wpAny_bind (wpAny_letGo (wpAny_pure ?_))))
    exact ⟨.ref pb, H, J2, rfl, k ib pb hb hxb⟩
  | succ r ih =>
    intro j ib s' B pb c o hrr hj hit J hpb hxb hb
    have hjn : j < Rs.length := by omega
    have hR : Rs[j]? = some Rs[j] := List.getElem?_eq_getElem hjn
    have hRg : Rs.getD j [] = Rs[j] := by rw [List.getD_eq_getElem?_getD, hR]; rfl
    have pI := J.pin (it, o) (List.mem_append_right _ (.head _))
    have pS := J.pin (S, lobj [.ref pb, .ref pb] c) (List.mem_append_right _ (.tail _ (.head _)))
    obtain ⟨its, p, hls, hitem, hp, hxp⟩ := item_at J hl hr hR
    rw [← hRg] at hp
    refine codeAny_builtin PySem.F.entry_min_loop ?_
    rw [Around.under_plainId PySem.F.plain_min_loop _]
    show wpAny _ X.A.in1 (seqItems? (.ref S) >>= _) _ _ _
    refine wpAny_bind (wpAny_seqItems pS.1 rfl ?_)
    show wpAny _ X.A.in1 (tryCatch (pyNext (.ref it)) _ >>= _) _ _ _
    refine wpAny_bind (wpAny_tryCatch (wpAny_pyNext_list_item (A := X.A.in1) (hit.at_ pI.1) hls hitem fun h' hit' sb => ?_))
    obtain ⟨o', ho', J1⟩ := litr_turned (tk := s'.toks) J nI nS hIS hit' sb
    have pS2 := J1.pin (S, lobj [.ref pb, .ref pb] c) (List.mem_append_right _ (.tail _ (.head _)))
    obtain ⟨i1, r1, p1, _⟩ := J1.list (.inl (.inl hp))
    obtain ⟨i2, r2, p2, _⟩ := J1.list (.inl (.inl hpb))
    refine wpAny_bind (wpAny_pure ?_)
    show wpAny _ X.A.in1 (tryCatch (holding [.ref p, .ref p] (richCompare .Lt (.ref p) (.ref pb) >>= _)) _ >>= _) _ _ _
    refine wpAny_bind (wpAny_tryCatch (wpAny_holding (wpAny_bind ?_)))
    refine (lt_lists (A := X.A.in1) (ns := Rs.getD j []) (ms := Rs.getD ib []) p1.isList p2.isList (intsAre_of r1) (intsAre_of r2) hu ?_ : wpAny (model X.prog X.w) X.A.in1 (compareOp .Lt (.ref p) (.ref pb)) _ _ _)
    refine wpAny_bind (wpAny_holding (wpAny_truthy_bool ?_))
    refine wpAny_bind (wpAny_letGo (wpAny_pure ?_))
    cases hlt : lexI (Rs.getD j []) (Rs.getD ib []) with
    | true =>
      rw [if_pos rfl]
      refine wpAny_bind (wpAny_updateSeq pS2.1 rfl (wpAny_bind (wpAny_letGo ?_)))
      rw [hname]
      obtain ⟨c', J3⟩ := best_put (ws := [.ref p, .ref p]) ho'.nocell J1 nI nS hIS
      exact wpAny_pure ⟨plainId_quiet PySem.F.plain_min_loop _, ih (j + 1) j _ B p c' o' (by omega) hjn ho' J3 hp hxp (firstK_more (key := fun i => Rs.getD i []) hb hlt)⟩
    | false =>
      rw [if_neg (by decide)]
      refine wpAny_bind (wpAny_letGo ?_)
      rw [hname]
      exact wpAny_pure ⟨plainId_quiet PySem.F.plain_min_loop _, ih (j + 1) ib _ B pb c o' (by omega) hjn ho' J1 hpb hxb (firstK_same (key := fun i => Rs.getD i []) hb hlt)⟩
theorem min_args (u : Value) : argsOk "min" ⟨[u], []⟩ := by unfold argsOk; kernel_rfl
/-- min(ls) -/
theorem min_lists {s : Shared} (I : Inv X pins σ H s) (hcalm : X.calm = true) (hu : X.A.units + 1 < cLine) (hl : SqL X.K H a xs) (hr : RowsAt H xs Rs) (hne : 0 < Rs.length)
    (k : ∀ (i : Nat) (p : Addr), FirstK (fun i => Rs.getD i []) Rs.length i → xs[i]? = some (V.ref p) → Q (.ref p) H) :
    wpAny (model X.prog X.w) X.A (call (.builtin "min") [.ref a] []) (EP X pins σ Q) E s := by
  have hname : (toString "min" ++ toString ".loop" : String) = "min.loop" := by decide
  have hh := I.ok.hd hcalm
  obtain ⟨its0, rv0, pl0, _⟩ := I.list hl
  refine kmk_tree PySem.F.kind_min PySem.F.plain_min PySem.F.entry_min (min_args _) ?_
  show wpAny _ X.A.in1 (Builtin.Builtins.bindParams "min" ["key", "default"] 0 ⟨[], []⟩ >>= _) _ _ s
  refine wpAny_bind (wpAny_of_eq (show Builtin.Builtins.bindParams "min" ["key", "default"] 0 ⟨[], []⟩ = pure [none, none] from rfl) ?_)
  refine wpAny_bind (wpAny_pure ?_)
  refine wpAny_bind (wpAny_pyIter_list pl0.isList ?_)
  refine wpAny_bind (wpAny_newList ?_ (Nat.zero_le _))
  rw [hname]
  generalize ho : ({ cls := .type "list_iterator", data := .fields #[.ref a, .int 0 0] } : Obj) = o
  have hit : LItr o a 0 := ⟨by rw [← ho], by rw [← ho]; rfl⟩
  have hfr : o.isFreed = false := by rw [← ho]; rfl
  have I1 : Inv X pins σ H { s with heap := s.heap.push o } := I.kept (t' := s.toks) fun b o e => Heap.get?_push_of_some _ e
  have I2 : Inv X pins σ H { s with heap := (s.heap.push o).push (lobj [] 0) } := I1.kept (t' := s.toks) fun b o e => Heap.get?_push_of_some _ e
  have nI : NewAt X pins s.heap.objs.size := newAt I (Nat.le_refl _)
  have nS : NewAt X pins (s.heap.push o).objs.size := newAt I1 (Nat.le_refl _)
  have gI : ((s.heap.push o).push (lobj [] 0)).get? s.heap.objs.size = some o := Heap.get?_push_of_some _ (Heap.get?_push_size _ hfr)
  have gS : ((s.heap.push o).push (lobj [] 0)).get? (s.heap.push o).objs.size = some (lobj [] 0) := Heap.get?_push_size _ rfl
  have zI : H s.heap.objs.size = none := I.hok.fresh (Nat.le_refl _)
  have zS : H (s.heap.push o).objs.size = none := I1.hok.fresh (Nat.le_refl _)
  have hIS : s.heap.objs.size ≠ (s.heap.push o).objs.size := by
    rw [size_push']
    exact Nat.ne_of_lt (Nat.lt_succ_self _)
  refine wpAny_pure ⟨plainId_quiet PySem.F.plain_min_loop _, ?_⟩
  show codeAny (model X.prog X.w) X.A (.builtin "min.loop" ⟨[.ref s.heap.objs.size, .none, .ref (s.heap.push o).objs.size], []⟩) (BestEnd X pins σ Q E) { s with heap := (s.heap.push o).push (lobj [] 0) }
  revert I2 nS gI gS zS hIS
  generalize (s.heap.push o).objs.size = S
  generalize (s.heap.push o).push (lobj [] 0) = h2
  revert nI zI
  generalize s.heap.objs.size = it
  intro nI zI I2 nS gI gS zS hIS
  have J : Inv X ((it, o) :: (S, lobj [] 0) :: pins) σ H { s with heap := h2 } := I2.pins_of fun p hp => by
    rcases List.mem_cons.mp hp with rfl | hp
    · exact ⟨gI, zI, nI.loc, nI.fs, hit.nocell⟩
    · rcases List.mem_cons.mp hp with rfl | hp
      · exact ⟨gS, zS, nS.loc, nS.fs, lobj_nocell _ _⟩
      · exact I2.pin p (List.mem_append_right _ hp)
  refine codeAny_builtin PySem.F.entry_min_loop ?_
  rw [Around.under_plainId PySem.F.plain_min_loop _]
  show wpAny _ X.A.in1 (seqItems? (.ref S) >>= _) _ _ _
  refine wpAny_bind (wpAny_seqItems gS rfl ?_)
  show wpAny _ X.A.in1 (tryCatch (pyNext (.ref it)) _ >>= _) _ _ _
  have hR : Rs[0]? = some Rs[0] := List.getElem?_eq_getElem hne
  have hRg : Rs.getD 0 [] = Rs[0] := by rw [List.getD_eq_getElem?_getD, hR]; rfl
  obtain ⟨its, p, hls, hitem, hp, hxp⟩ := item_at J hl hr hR
  rw [← hRg] at hp
  refine wpAny_bind (wpAny_tryCatch (wpAny_pyNext_list_item (A := X.A.in1) (hit.at_ gI) hls hitem fun h' hit' sb => ?_))
  obtain ⟨o', ho', J1⟩ := litr_turned (tk := s.toks) J nI nS hIS hit' sb
  have pS2 := J1.pin (S, lobj [] 0) (List.mem_append_right _ (.tail _ (.head _)))
  refine wpAny_bind (wpAny_pure ?_)
  refine wpAny_bind (wpAny_updateSeq pS2.1 rfl ?_)
  rw [hname]
  obtain ⟨c', J3⟩ := best_put (ws := [.ref p, .ref p]) ho'.nocell J1 nI nS hIS
  exact wpAny_pure ⟨plainId_quiet PySem.F.plain_min_loop _, min_loopL hh hu nI nS hIS hl hr k (Rs.length - 1) 1 0 _ [] p c' o' rfl hne ho' J3 hp hxp (firstK_one _)⟩
end

section
variable {X : Cx}
/-! ### as rules -/
def tMaxL (K : PySem.W.Frag) (te : TE) : TE := fun σ H Q => te σ H fun x H1 => ∃ (a : Addr) (xs : List V) (Rs : List (List Int)), x = .ref a ∧ SqL K H1 a xs ∧ RowsAt H1 xs Rs ∧ (∀ R ∈ Rs, 1 ≤ R.length) ∧
  ∀ (p : Addr) (H2 : Hp), Ext H1 H2 → H2 p = some (.lst ((Rs.foldl longer []).map V.int)) → Q (.ref p) H2
theorem pe_maxL {e : Expr} {te : TE} {p pl pd kp1 kp2 pos : Pos} (hcalm : X.calm = true) (hg : Gl X "max") (hm : X.mg "max" = none) (hgl : Gl X "len") (hml : X.mg "len" = none) (ha : PE X e te)
    (hs : starEach [e] X.env = [(false, eval e X.env)] := by rfl) :
    PE X (.Call (.Name "max" p) [e] [⟨some "key", .Name "len" pl, kp1⟩, ⟨some "default", .List [] pd, kp2⟩] pos) (tMaxL X.K te) := by
  intro pins s σ H Q I h
  refine wpAny_Call_Name_kw (ld_blt I hg hm boot_max ?_)
  refine callWith_kw (e := e) (rest := []) (thn ((pa_cons ha pa_nil (hs := hs)) pos pins s σ H (fun vs H1 => match vs with
    | [x] => ∃ (a : Addr) (xs : List V) (Rs : List (List Int)), x = .ref a ∧ SqL X.K H1 a xs ∧ RowsAt H1 xs Rs ∧ (∀ R ∈ Rs, 1 ≤ R.length) ∧ ∀ (p : Addr) (H2 : Hp), Ext H1 H2 → H2 p = some (.lst ((Rs.foldl longer []).map V.int)) → Q (.ref p) H2
    | _ => False) I h) fun us s1 ⟨vs, H1, I1, r1, q1⟩ => ?_) (by rw [hs]; rfl) (by rw [hs]; rfl)
  match vs, q1 with
  | [x], q1 =>
    obtain ⟨u, rfl, ru⟩ := Vals.one r1
    obtain ⟨a, xs, Rs, rfl, hl, hr, hpos, k⟩ := q1
    obtain rfl : u = Value.ref a := ru
    refine kws_cons (ld_blt I1 hgl hml PySem.boot_len ?_)
    refine kws_cons (thn ((pe_lst (pos := pd) (pa_nil (X := X))) pins s1 σ H1 (fun v H2 => ∃ d, v = V.ref d ∧ H1 d = none ∧ H2 = upd H1 d (.lst [])) I1 ⟨Nat.zero_le _, fun d hd => ⟨d, rfl, hd, rfl⟩⟩) fun v s2 hv => ?_)
    obtain ⟨v', H2, I2, rv, d, rfl, hd, rfl⟩ := hv
    obtain rfl : v = Value.ref d := rv
    refine kws_nil ?_
    show wpAny (model X.prog X.w) X.A (call (.builtin "max") [.ref a] [(Str.ofString "key", .builtin "len"), (Str.ofString "default", .ref d)]) (EP X pins σ Q) X.xe s2
    have x : Ext H1 (upd H1 d (.lst [])) := Ext.new hd
    exact max_len I2 hcalm (x.sqL hl) (hr.ext x) hpos upd_same fun p hp => k p _ x hp
theorem call_minL (hcalm : X.calm = true) (hu : X.A.units + 1 < cLine) : CallR X (.builtin "min") (fun vs H Q => ∃ (a : Addr) (xs : List V) (Rs : List (List Int)), vs = [.ref a] ∧ SqL X.K H a xs ∧ RowsAt H xs Rs ∧ 0 < Rs.length ∧
    ∀ (i : Nat) (p : Addr), FirstK (fun i => Rs.getD i []) Rs.length i → xs[i]? = some (V.ref p) → Q (.ref p) H) := by
  intro pins s σ H vs us Q I r h
  obtain ⟨a, xs, Rs, rfl, hl, hr, hne, k⟩ := h
  obtain ⟨u, rfl, ru⟩ := Vals.one r
  obtain rfl : u = Value.ref a := ru
  exact min_lists I hcalm hu hl hr hne k

/-! ### ls.index(l) -/
theorem vInt_inj : ∀ {ns ms : List Int}, ns.map V.int = ms.map V.int → ns = ms
  | [], [], _ => rfl
  | [], _ :: _, h => by cases h
  | _ :: _, [], h => by cases h
  | n :: ns, m :: ms, h => by
    rw [List.map_cons, List.map_cons] at h
    injection h with h1 h2
    injection h1 with h1
    rw [h1, vInt_inj h2]
theorem eqAt_lists {A : Around} {pins : List (Addr × Obj)} {σ : St} {H : Hp} {s : Shared} {p q : Addr} {ns ms : List Int} (I : Inv X pins σ H s) (hu : A.units + 64 < cLine) (hp : SqL X.K H p (ns.map V.int)) (hq : SqL X.K H q (ms.map V.int)) :
    SeqAt.EqAt A s (.ref p) (.ref q) (decide (ns = ms)) := by
  by_cases e : p = q
  · subst e
    have e := vInt_inj (I.list_inj hp hq)
    subst e
    rw [decide_eq_true rfl]
    exact SeqAt.EqAt.same _
  · refine SeqAt.EqAt.of_refs e fun prog w E Q h => ?_
    obtain ⟨as, r1⟩ := Dp.reads I (.list (ns.map PyData.int)) (.ref p) (.ref p) (.lst hp (dp_ints ns)) rfl
    obtain ⟨bs, r2⟩ := Dp.reads I (.list (ms.map PyData.int)) (.ref q) (.ref q) (.lst hq (dp_ints ms)) rfl
    refine (SeqAt.compareEq_shaped (prog := prog) (w := w) (A := A) (E := E) (Q := Q) r1 r2 (shaped_ints ns) (shaped_ints ms) hu ?_ : wpAny (model prog w) A (compareOp .Eq (.ref p) (.ref q)) Q E s)
    rw [eqv_ints]
    exact h
def rIndexL (K : PySem.W.Frag) : V → List V → Hp → VK → Prop := fun x vs H Q => ∃ (a y : Addr) (xs : List V) (Rs : List (List Int)) (R : List Int) (j : Nat), x = V.ref a ∧ vs = [V.ref y] ∧ SqL K H a xs ∧ RowsAt H xs Rs ∧ SqL K H y (R.map V.int) ∧ Rs[j]? = some R ∧
  (∀ (m : Nat) (R' : List Int), m < j → Rs[m]? = some R' → R' ≠ R) ∧ Q (.int (j : Nat)) H
open Classical in
theorem mt_indexL (hu : X.A.units + 65 < cLine) : MtR X "list.index" (rIndexL X.K) := by
  intro pins s σ H x vs v us Q I rx rxs h
  obtain ⟨a, y, xs, Rs, R, j, rfl, rfl, hs, hr, hy, hj, hno, q⟩ := h
  obtain rfl : v = Value.ref a := rx
  obtain ⟨u, rfl, ru⟩ := Vals.one rxs
  obtain rfl : u = Value.ref y := ru
  obtain ⟨its, rv, ⟨⟨cls, dd, data, sl⟩, n, ho, hc, hdn, hd⟩, hlen⟩ := I.list hs
  simp only at hc hd
  subst hc hd
  have hvl := rv.length
  have hrl := hr.len
  have hjl : j < Rs.length := (List.getElem?_eq_some_iff.mp hj).1
  have hsl := sizeLine_eq
  -- the item at i
  have item : ∀ (i : Nat) (S : List Int), Rs[i]? = some S → ∃ p, its[i]? = some (.ref p) ∧ SqL X.K H p (S.map V.int) := fun i S e => by
    obtain ⟨p, h1, h2⟩ := hr.row i S e
    obtain ⟨u, hu1, ru⟩ := rv.get h1
    obtain rfl : u = Value.ref p := ru
    exact ⟨p, hu1, .inl (.inl h2)⟩
  have same : ∀ (i : Nat) (S : List Int) (u : Value), Rs[i]? = some S → its[i]? = some u → (decide (∃ p, u = Value.ref p ∧ SqL X.K H p (R.map V.int)) = decide (S = R)) ∧ ∃ p, u = Value.ref p ∧ SqL X.K H p (S.map V.int) := fun i S u e1 e2 => by
    obtain ⟨p, h1, h2⟩ := item i S e1
    rw [h1] at e2
    cases e2
    refine ⟨decide_eq_decide.mpr ⟨fun ⟨p', z1, z2⟩ => ?_, fun z => ⟨p, rfl, z ▸ h2⟩⟩, p, rfl, h2⟩
    cases z1
    exact vInt_inj (I.list_inj h2 z2)
  refine call_meets PySem.F.slot_list_index ⟨_, ho, rfl⟩ PySem.F.entry_list_index (PySem.F.args_list_index_2 _ _)
    (SeqAt.list_indexAt a its.toArray n dd sl (.ref y) (fun u => decide (∃ p, u = Value.ref p ∧ SqL X.K H p (R.map V.int))) j (by simp; omega) (by omega) ?_ ?_) ⟨ho, fun u hu1 => ?_, ?_⟩
  · obtain ⟨p, h1, h2⟩ := item j R hj
    obtain ⟨_, h3⟩ := List.getElem?_eq_some_iff.mp h1
    have h3 : its.toArray[j]'(by simp; omega) = Value.ref p := by simpa using h3
    rw [h3]
    exact decide_eq_true ⟨p, rfl, h2⟩
  · intro m hm hmj
    have hml : m < its.length := by simpa using hm
    have hmR : Rs[m]? = some (Rs[m]'(by omega)) := List.getElem?_eq_getElem (by omega)
    have e1 : its[m]? = some its[m] := List.getElem?_eq_getElem hml
    have e2 : its.toArray[m] = its[m] := by simp
    rw [e2, (same m _ _ hmR e1).1]
    exact decide_eq_false (hno m _ hmj hmR)
  · have hu1 : u ∈ its := by simpa using hu1
    obtain ⟨i, hi, hie⟩ := List.getElem_of_mem hu1
    have hiR : Rs[i]? = some (Rs[i]'(by omega)) := List.getElem?_eq_getElem (by omega)
    have e1 : its[i]? = some u := by rw [List.getElem?_eq_getElem hi, hie]
    obtain ⟨h1, p, rfl, h2⟩ := same i _ u hiR e1
    rw [h1]
    exact eqAt_lists (A := X.A.in1) I (by show X.A.units + 1 + 64 < cLine; omega) h2 hy
  · exact ⟨.int (j : Nat), H, I.tok _, ⟨_, rfl⟩, q⟩
end
end L2
end
section
set_option Elab.async false
set_option linter.all false
set_option maxRecDepth 100000
set_option maxHeartbeats 4000000
/-! The row's head where one def makes a lambda: that def's table of code is tracked. -/
namespace L2
open PySem PySem.W PySem.Spec PyProof.Rows Te
open PySem.W (WData Codec OpenSpec Well WellAll ReadsW ReadsAllW)

mutual
theorem dw_ext1 {K : PySem.W.Frag} {H H' : Hp} (x : Ext H H') : ∀ {v : V} {d : WData}, Dw K H v d → Dw K H' v d
  | _, _, .non => .non
  | _, _, .bl b => .bl b
  | _, _, .int i => .int i
  | _, _, .str y => .str y
  | _, _, .byt b => .byt b
  | _, _, .lst hs ha => .lst (x.sqL hs) (dw_ext x ha)
  | _, _, .tup hs ha => .tup (x.sqT hs) (dw_ext x ha)
theorem dw_ext {K : PySem.W.Frag} {H H' : Hp} (x : Ext H H') : ∀ {vs : List V} {ds : List WData}, DwAll K H vs ds → DwAll K H' vs ds
  | _, _, .nil => .nil
  | _, _, .cons h1 h2 => .cons (dw_ext1 x h1) (dw_ext x h2)
end
/-- the heap at the call: the request, the table -/
def withTab (Pt : Addr) (H : Hp) : Hp := upd H Pt (.tbl #[])

theorem bm_at {p : Program} {loose : List Str} {mean : ExcName → Option Value} {mg mb : Str → Option Value} {h : Heap} {Pt : Addr} (T : Top p loose mean mg mb h) (hP : h.get? Pt = some (tabObj #[])) : h.BuiltinsAt mg Pt ∧ mainGlobals ≠ Pt := by
  obtain ⟨bm, ob, b1, b2, b3, b4, b5, b6⟩ := T.bmain
  have hg : mainGlobals ≠ Pt := fun q => by
    obtain ⟨o, es, ep, e, hd, _⟩ := T.g
    rw [q, hP] at e
    cases e
    cases hd
  have hbP : bm ≠ Pt := fun q => by
    rw [q, hP] at b3
    cases b3
    cases b4
  have hbG : bm ≠ mainGlobals := fun q => by
    obtain ⟨o, es, ep, e, hd, _⟩ := T.g
    rw [q, e] at b3
    cases b3
    rw [hd] at b6
    cases b6
  exact ⟨⟨bm, ob, b1, b2, hbG, hbP, b3, b4, b5, b6⟩, hg⟩

theorem spec_callT {P : Program} {w : World} {K : PySem.W.Frag} {mg mb : Str → Option Value} {k : Nat} {fa c Pt : Addr} {fd : FuncData} {ps : List Str} {sp : Sp} {s1 : Shared} {vals : List Value} {ds : List WData} {R : PySem.W.WRecords} {cl : Str → Option Addr} {d0 : WData}
    (KX : K.In s1.heap) (hns : s1.heap.Ns mainGlobals mg) (hb : s1.heap.Ns builtinsNs mb) (hbb : ∀ x : Str, x ≠ "__name__" → mb x = bootBuiltins x) (hlim : s1.heap.NoLimit) (hg : s1.gens = #[])
    (hC : CodeHd s1.heap c Pt) (hPt : s1.heap.get? Pt = some (tabObj #[])) (hKt : K.lookup Pt = none) (hbm : s1.heap.BuiltinsAt mg Pt)
    (hwl : WellAll w.params s1.heap vals ds) (hpl : plWs ds = true) (hwt : ∀ d ∈ ds, d.weight ≤ 1048576) (hr : Room k callerA)
    (F : ∀ base : Heap, K.In base → base.Ns mainGlobals mg → CodeHd base c Pt → base.BuiltinsAt mg Pt → FnOk P w K mg base CX0 k fa fd ps sp) (hbind : ∀ (s : Shared) (us : List Value), us.length = ps.length → BindsTo s fd ⟨us, []⟩ (ps.zip us)) (hlen : ds.length = ps.length)
    (hsp : ∀ (H : Hp) (xs : List V), H Pt = some (.tbl #[]) → DwAll K H xs ds → sp xs H (fun v H' => Dw K H' v d0) fun _ _ _ => False) :
    codeAny (model P w) callerA (.call (.ref fa) ⟨vals, []⟩) (fun r s' => ∃ u as, r = .ok (.ret u) ∧ ReadsW R cl s'.heap u d0 as ∧ OldK s1.heap s'.heap ∧ s'.os = s1.os ∧ AllBare s'.gens) s1 := by
  obtain ⟨A, ho, ar⟩ := area_all ds vals hwl hpl hwt
  have hO : OnlyF (argH K s1.heap A) := argH_only ar
  have hok0 : HOk P w (argH K s1.heap A) s1.heap := argH_ok ar
  have hS0 := dw_all KX ar ds vals hwl hpl ho
  have hV := vals_toV ho
  have hK : ∀ b u, argH K s1.heap A b = some u → K.lookup b = none := fun b u q => (argH_is ar q).1
  have seqs : ∀ {b : Addr} {u : HO}, argH K s1.heap A b = some u → ∃ o xs n, s1.heap.get? b = some o ∧ o.data = .seq xs n := fun {b u} q => by
    obtain ⟨_, vs, _, _, ⟨e2, _⟩ | ⟨e2, _⟩⟩ := argH_is ar q
    · exact ⟨_, _, _, e2, rfl⟩
    · exact ⟨_, _, _, e2, rfl⟩
  generalize argH K s1.heap A = H0 at hO hok0 hS0 hK seqs
  have hP0 : H0 Pt = none := by
    cases q : H0 Pt with
    | none => rfl
    | some u =>
      obtain ⟨o, xs, n, e, d⟩ := seqs q
      rw [hPt] at e
      cases e
      cases d
  have hok : HOk P w (withTab Pt H0) s1.heap := fun b u e => by
    rcases upd_get e with ⟨rfl, rfl⟩ | ⟨n, e⟩
    · exact hPt
    · exact (hok0 b u e).stay (fun _ _ _ q => q) (fun c q => by show upd H0 Pt _ c = _; rw [upd_ne (ne_of_none q hP0)]; exact q) fun c xs q => by show upd H0 Pt _ c = _; rw [upd_ne (ne_of_none q hP0)]; exact q
  have hext : Ext H0 (withTab Pt H0) := Ext.new hP0
  have tabAt : withTab Pt H0 Pt = some (.tbl #[]) := upd_same
  have old : ∀ b, b ≠ Pt → withTab Pt H0 b = H0 b := fun b n => upd_ne n
  have hS : DwAll K (withTab Pt H0) (vals.map toV) ds := dw_ext hext hS0
  have noA : ∀ {b : Addr} {o : Obj}, s1.heap.get? b = some o → (∀ xs n, o.data ≠ .seq xs n) → b ≠ Pt → withTab Pt H0 b = none := fun {b o} e d n => by
    rw [old b n]
    cases q : H0 b with
    | none => rfl
    | some u =>
      obtain ⟨o', xs, n', e', d'⟩ := seqs q
      rw [e] at e'
      cases e'
      exact absurd d' (d _ _)
  generalize withTab Pt H0 = H at hok hext tabAt old hS noA
  have base_of : ∀ {b : Addr} {o : Obj}, s1.heap.get? b = some o → H b = none → (hidT s1.heap H).get? b = some o := fun e n => hidT_get e n
  have nsK : ∀ {b : Addr} {m : Str → Option Value}, s1.heap.Ns b m → (hidT s1.heap H).Ns b m := fun {b m} ⟨o, es, ep, e, d, r⟩ => ⟨o, es, ep, base_of e (noA e (fun xs n z => by rw [d] at z; cases z) fun z => by rw [z, hPt] at e; cases e; cases d), d, r⟩
  have nK : ∀ b o, K.lookup b = some o → H b = none := fun b o e => by
    have n : b ≠ Pt := fun z => by rw [z, hKt] at e; cases e
    rw [old b n]
    cases q : H0 b with
    | none => rfl
    | some u =>
      rw [hK b u q] at e
      cases e
  have hKb : K.In (hidT s1.heap H) := fun b o e => base_of (KX b o e) (nK b o e)
  have hM : Mod K mg (hidT s1.heap H) := ⟨hKb, nsK hns, ⟨mb, nsK hb, hbb⟩, let ⟨mc, h1, h2⟩ := hlim; ⟨mc, nsK h1, h2⟩⟩
  have e0 : Env0 P w K mg (hidT s1.heap H) callerA [] s1 H := ⟨rfl, hM, fun b o e => of_hidT e, Nat.le_of_eq (hidT_size _ _), trivial, fun b hb => absurd (show b ∈ ([] : List Addr) from hb) (by simp), hok, .of_eq hg⟩
  have hl : vals.length = ps.length := by rw [wellAll_len hwl]; exact hlen
  have hCb : CodeHd (hidT s1.heap H) c Pt := by
    obtain ⟨o, vs, file, tf, flags, tg, inF, text, tt, e1, r1, r2, r3, r4, r5, r6, r7, r8, hne⟩ := hC
    exact ⟨o, vs, file, tf, flags, tg, inF, text, tt, base_of e1 (noA e1 (fun xs n z => by rw [r2] at z; cases z) hne), r1, r2, r3, r4, r5, r6, r7, r8, hne⟩
  have hBb : (hidT s1.heap H).BuiltinsAt mg Pt := by
    obtain ⟨bm, ob, b1, b2, b3, b4, b5, b6, b7, b8⟩ := hbm
    exact ⟨bm, ob, b1, b2, b3, b4, base_of b5 (noA b5 (fun xs n z => by rw [b8] at z; cases z) b4), b6, b7, b8⟩
  refine codeAny_mono ((F _ hKb (nsK hns) hCb hBb).run callerA [] s1 H ⟨vals, []⟩ vals (vals.map toV) _ _ hr e0 (hbind s1 vals hl) hV (hsp H _ tabAt hS)) fun r s' x => ?_
  cases r with
  | error e => exact False.elim x
  | ok fl =>
    cases fl with
    | next => exact False.elim x
    | brk => exact False.elim x
    | cont => exact False.elim x
    | ret u =>
      obtain ⟨v, H', os, bare, un, hok', r', q⟩ := x
      have kept : ∀ b o, b ≠ Pt → s1.heap.get? b = some o → s'.heap.get? b = some o := fun b o n e => by
        cases q2 : H b with
        | none => exact un.keep b o e q2 (by intro z; exact absurd (show b ∈ ([] : List Addr) from z) (by simp)) (by simp)
        | some u2 =>
          have q3 : H0 b = some u2 := by rw [← old b n]; exact q2
          rcases hO b with z | ⟨ob, u3, z⟩
          · rw [q3] at z
            cases z
          · have z1 := hext b _ z
            have z2 := un.frzs b ob _ z1
            obtain ⟨e1, _⟩ := hok b _ z1
            obtain ⟨e2, _⟩ := hok' b _ z2
            rw [e] at e1
            cases e1
            exact e2
      have KX' : K.In s'.heap := fun b o e => kept b o (fun z => by rw [z, hKt] at e; cases e) (KX b o e)
      obtain ⟨as, hrd⟩ := Dw.reads (R := R) (cl := cl) hok' KX' d0 v u q r'
      obtain ⟨more, z2⟩ := un.tbls Pt _ tabAt
      have hP' : s'.heap.get? Pt = some { cls := .none, data := .fields (#[] ++ more) } := hok' Pt _ z2
      refine ⟨u, as, rfl, hrd, ⟨fun b o e => ?_, fun b o e => ?_⟩, os, bare⟩
      · by_cases n : b = Pt
        · subst n
          rw [hPt] at e
          cases e
          exact .inr (.inl ⟨(hC.tab hPt).isCodeTable, rfl, #[], more, rfl, hP'⟩)
        · exact .inl (kept b o n e)
      · by_cases n : b = Pt
        · subst n
          exact ⟨_, hP'⟩
        · exact ⟨o, kept b o n e⟩

/-- the goal that k_headS leaves (case hc), where the def x makes a lambda -/
theorem walk_specT {r : OpenSpec} {k : Nat} {q : Program} {loose : List Str} {XP : (Str → Option Value) → Heap → Prop} {YP : World → Heap → Prop} {d dx : DefRec} {K : Params → PySem.W.Frag} {ps : List Str} {sp : PySem.W.Frag → Addr → Sp} {x : Str} {c Pt : Addr}
    (hwell : r.wellSaid = true) (hdf : d.params.defaults = []) (hlen : r.args.length = ps.length) (hr : Room k callerA)
    (hrec : (recsOf q).find? (fun e => e.name == x) = some dx) (htab : ∀ w : World, tabIn (K w.params) x = some (c, Pt)) (hno : ∀ w : World, noTabs (K w.params) = true)
    (hY : ∀ (w : World) (h : Heap), YP w h → (K w.params).In h)
    (F : ∀ (w : World) (mg : Str → Option Value) (fa : Addr) (h : Heap), YP w h → (K w.params).In h → h.Ns mainGlobals mg → mg d.name = some (.ref fa) →
      ∃ fd : FuncData, (∀ (s : Shared) (us : List Value), us.length = ps.length → BindsTo s fd ⟨us, []⟩ (ps.zip us)) ∧
        ∀ base : Heap, (K w.params).In base → base.Ns mainGlobals mg → CodeHd base c Pt → base.BuiltinsAt mg Pt → mainGlobals ≠ Pt → FnOk r.prog w (K w.params) mg base CX0 k fa fd ps (sp (K w.params) Pt))
    (hsp : ∀ (K : PySem.W.Frag) (H : Hp) (xs : List V) (a : Codec.denoteAll r.args), H Pt = some (.tbl #[]) → Codec.withinAll r.args a = true → Codec.app r.args r.asked a = true → DwAll K H xs (Codec.encAll r.args a) →
      sp K Pt xs H (fun v H' => Dw K H' v (r.ret.enc (Codec.app r.args r.f a))) fun _ _ _ => False) :
    PySem.W.WalkOS q loose XP YP r d [] (fun f vs => PySem.call f vs) := by
  intro w s_0 s1 mg mb G Y fa o pm cd doc dV kV ho hd hcd hD hmg hg args vals as hpre hlay hrd hwl hlo
  obtain ⟨a, e1, e2⟩ := PySem.W.os_pre_some hpre
  obtain ⟨e3, hwi⟩ := Codec.encAll_of_decAll r.args args a e1
  subst e3
  have KX := hY w _ Y
  obtain ⟨fd, hb, hF⟩ := F w mg fa _ Y KX G.T.g hmg
  obtain ⟨hC, hPt⟩ := tab_of G.T KX hrec (htab w)
  obtain ⟨hbm, hgl⟩ := bm_at G.T hPt
  have hKt : (K w.params).lookup Pt = none := by
    cases z : (K w.params).lookup Pt with
    | none => rfl
    | some ob =>
      have z1 := KX _ _ z
      rw [hPt] at z1
      have z2 := List.all_eq_true.mp (hno w) (Pt, ob) (mem_of_lookupK z)
      have z3 : tabObj #[] = ob := Option.some.inj z1
      subst z3
      exact absurd (show false = true from z2) Bool.false_ne_true
  refine PySem.W.enter_call (codeAny_mono (spec_callT (R := []) (cl := classAt s_0.heap) (d0 := r.ret.enc (Codec.app r.args r.f a)) KX G.T.g G.T.b G.T.builtins G.T.nolimit hg hC hPt hKt hbm hwl (pl_encAll _ _) (layable_weight hlay) hr (fun base h1 h2 h3 h4 => hF base h1 h2 h3 h4 hgl) hb (by rw [encAll_len]; exact hlen)
    (fun H xs hT hS => hsp _ H xs a hT hwi e2 hS)) fun r' s' hq => ?_)
  obtain ⟨u, as', rfl, h1, h2, h3, h4⟩ := hq
  exact ⟨.inl ⟨u, _, as', rfl, fun _ => rfl, h1, (OpenSpec.post_iff hwell hwi _ _).mpr rfl, fun z => Bool.noConfusion (show false = true from z)⟩, h2, h3, h4⟩
end L2
end
section
set_option Elab.async false
set_option linter.all false
set_option maxRecDepth 100000
set_option maxHeartbeats 4000000
namespace L2
open PySem PySem.W PySem.Spec PyProof.Rows Te

/-! ### the text by places -/
def topS (i : Nat) : Stmt := PySem.Challenge.pw_textendings_s01_answers.main.body.getD i (.Pass ⟨0, 0, 0, 0⟩)
abbrev sOrd : Stmt := topS 17

/-! ### heaps -/
/-- a text of bytes stands at a -/
structure TextAt (K : PySem.W.Frag) (H : Hp) (a : Addr) (T : List Int) : Prop where
  at_ : SqL K H a (T.map V.int)
  byt : Byt T
  len : T.length ≤ 20
def lamQ : Str := "places_in_order" ++ ".<locals>." ++ "<lambda>"
def lamPos : Pos := ⟨19, 40, 19, 66⟩
abbrev Tab (Pt : Addr) (H : Hp) : Prop := TabAt H Pt lamPos lamQ
theorem Tab.tbl {Pt : Addr} {H : Hp} (t : Tab Pt H) : ∃ ps, H Pt = some (.tbl ps) := by
  rcases t with e | ⟨_, e, _⟩
  · exact ⟨_, e⟩
  · exact ⟨_, e⟩
theorem ExtT.rd {Pt : Addr} {H H' : Hp} (x : ExtT Pt H H') (t : ∃ ps, H Pt = some (.tbl ps)) {a : Addr} {u : HO} (h : Rd H a u) (hu : ∀ ps, u ≠ .tbl ps) : Rd H' a u := by
  obtain ⟨ps, e⟩ := t
  rcases h with h | ⟨o, h⟩
  · exact .inl (x _ _ h fun z => by rw [z, e] at h; cases h; exact hu _ rfl)
  · exact .inr ⟨o, x _ _ h fun z => by rw [z, e] at h; cases h⟩
theorem ExtT.sqL {Pt : Addr} {H H' : Hp} (x : ExtT Pt H H') (t : ∃ ps, H Pt = some (.tbl ps)) {K : PySem.W.Frag} {a : Addr} {xs : List V} (h : SqL K H a xs) : SqL K H' a xs :=
  h.elim (fun z => .inl (x.rd t z fun ps q => by cases q)) .inr
theorem TextAt.ext {K : PySem.W.Frag} {H H' : Hp} {a : Addr} {T : List Int} (h : TextAt K H a T) (x : Ext H H') : TextAt K H' a T := ⟨x.sqL h.at_, h.byt, h.len⟩
theorem TextAt.extT {Pt : Addr} {K : PySem.W.Frag} {H H' : Hp} {a : Addr} {T : List Int} (h : TextAt K H a T) (x : ExtT Pt H H') (t : Tab Pt H) : TextAt K H' a T := ⟨x.sqL t.tbl h.at_, h.byt, h.len⟩

/-! ### the order of the endings -/
theorem tot_drop {T : List Int} (hT : Byt T) : Tot (fun i j => lexI (T.drop i) (T.drop j)) T.length where
  irr := fun i => by rw [← below_bytesOf (hT.drop i) (hT.drop i)]; exact below_irrefl _
  tr := fun i j k h1 h2 => by
    rw [← below_bytesOf (hT.drop _) (hT.drop _)] at h1 h2 ⊢
    exact below_trans _ _ _ h1 h2
  tot := fun i j hi hj ne h => by
    rw [← below_bytesOf (hT.drop _) (hT.drop _)] at h ⊢
    cases q : Sh08.below (Sh08Neutral.bytesOf (T.drop j)) (Sh08Neutral.bytesOf (T.drop i)) with
    | true => rfl
    | false =>
      have e := below_total _ _ h q
      rw [bytesOf_drop, bytesOf_drop] at e
      exact absurd (drop_inj (by rw [bytesOf_length]; exact hi) (by rw [bytesOf_length]; exact hj) e) ne
def orderI (T : List Int) : List Int := Sh08Neutral.ints (Sh08Neutral.orderOf (Sh08Neutral.bytesOf T))
theorem order_of {T : List Int} (hT : Byt T) {l : List Nat} (hp : l.Perm (List.range T.length)) (hs : l.Pairwise fun i j => lexI (T.drop i) (T.drop j) = true) : iV l = (orderI T).map V.int := by
  have e : l = Sh08Neutral.orderOf (Sh08Neutral.bytesOf T) := by
    refine orderOf_unique (by rw [bytesOf_length]; exact hp) (hs.imp fun {i j} h => ?_)
    rw [← bytesOf_drop, ← bytesOf_drop]
    refine below_asymm ?_
    rw [below_bytesOf (hT.drop _) (hT.drop _)]
    exact h
  unfold orderI iV Sh08Neutral.ints
  rw [← e, List.map_map]
  rfl
theorem cut_from (T : List Int) (i : Nat) (h : i ≤ T.length) : cutV (T.map V.int) (some (i : Int)) none = (T.drop i).map V.int := by
  unfold cutV
  rw [List.length_map, HT.sIx_nat, HT.sIx_none, Nat.min_eq_left h, List.map_drop]
  exact List.take_of_length_le (by rw [List.length_drop, List.length_map]; omega)

/-! ### places_in_order -/
def spOrd (K : PySem.W.Frag) (Pt : Addr) : Sp := fun vs H Q _ => ∃ (a : Addr) (T : List Int), vs = [.ref a] ∧ TextAt K H a T ∧ Tab Pt H ∧
  ∀ (D : Addr) (H' : Hp), ExtT Pt H H' → Tab Pt H' → H D = none → H' D = some (.lst ((orderI T).map V.int)) → Q (.ref D) H'
/-- what the defs lean on -/
structure Txt (K : PySem.W.Frag) (mg : Str → Option Value) : Prop where
  len : mg "len" = none
  range : mg "range" = none
  sorted : mg "sorted" = none
  max : mg "max" = none
  min : mg "min" = none
  nob : ∃ t, mg "NO_BYTE" = some (.int (-1) t)
  oor : ∃ t, mg "OUT_OF_REACH" = some (.int (-2) t)
  not : ∃ t, mg "NO_TIMES" = some (.int (-1) t)
theorem Room.u2 {k : Nat} {A : Around} (h : Room k A) : A.units + 2 < cLine := by
  have := h.un
  omega
theorem Room.dp0 {k : Nat} {A : Around} (h : Room k A) : A.depth < recursionLimit := by
  have := h.dp
  omega
theorem free_is {a b y : Str} (h : List.lookup y [(a, NameKind.local), (b, NameKind.free)] = some .free) : y = b := by
  rw [List.lookup_cons] at h
  cases q : y == a with
  | true =>
    rw [q] at h
    cases h
  | false =>
    rw [q] at h
    rw [List.lookup_cons] at h
    cases q2 : y == b with
    | true => exact eq_of_beq q2
    | false =>
      rw [q2] at h
      cases h
section
variable {P : Program} {w : World} {K : PySem.W.Frag} {mg : Str → Option Value} {base : Heap}
theorem scOrd : FnScope ["text"] ["text"] (defScope sOrd) := ⟨rfl, rfl, rfl, by decide +kernel, rfl, by decide +kernel, by decide +kernel⟩
theorem ok_ord {f c Pt : Addr} {fd : FuncData} (F : Fun K "places_in_order" "places_in_order" sOrd f fd) (hfc : fd.code = .ref c) (T : Txt K mg) (hC : CodeHd base c Pt) (hB : base.BuiltinsAt mg Pt) (hG : mainGlobals ≠ Pt) :
    FnOk P w K mg base CX0 2 f fd ["text"] (spOrd K Pt) := by
  obtain ⟨oc, od, kV, doc, pm, an, cdv, ct, osl, rfl, lk, hcd⟩ := F.ex
  have hcdv : cdv = .ref c := hfc
  subst hcdv
  refine fn_of lk hcd scOrd (fun vs H Q E h => ?_) (fun A outer s H vs Q E hr h => ?_)
  · obtain ⟨a, X, rfl, _⟩ := h
    rfl
  · obtain ⟨a, X, rfl, hX, ht, k⟩ := h
    have L : LamSite (cxOf CX0 P w K mg base ["text"] "places_in_order" (defScope sOrd) f (.ref c) A outer s H E).nox c Pt := ⟨rfl, hC, hB, hG⟩
    have hu := hr.u2
    refine ⟨_, PSs.nox (pss_one (ps_ret (pe_sortK (qual := lamQ) rfl rfl T.sorted (pe_callTy call_rangeV rfl T.range boot_range (pa_cons (pe_callB call_len_seq rfl T.len PySem.boot_len (pa_cons (pv 0) pa_nil)) pa_nil)) L rfl rfl rfl hu))), ?_⟩
    refine ⟨_, rfl, a, _, rfl, .inl hX.at_, _, rfl, fun r hr0 => ?_⟩
    rw [List.length_map]
    refine ⟨r, X.length, fun i => X.drop i, rfl, upd_same, by have := hX.len; omega, tot_drop hX.byt, ext_tab (Ext.new hr0) ht, ?_, ?_⟩
    · intro q c' ctv H2 x2 hq hc' pins' i t H' s' hi x3 I
      have hX' : TextAt K H' a X := ((hX.ext (Ext.new hr0)).extT x2 (ext_tab (Ext.new hr0) ht)).ext x3
      refine lam_call (x := "place") (N := ["place", "text"]) (σ2 := [some (.int (i : Int)), some (.ref a)]) I I.ok.frames (I.ok.hd rfl) hr.dp0 (x3 _ _ hq) (x3 _ _ hc') rfl rfl rfl rfl rfl (by decide +kernel) (fun y hy => ?_) (fun y c h => h) (fun j y z h1 h2 => ?_) rfl
        (pe_slice sl_list (pv 1) (po_some (pv 0)) po_none) ?_
      · rw [free_is hy]
        exact ⟨_, rfl⟩
      · match j, h1, h2 with
        | 0, h1, h2 =>
          cases h1
          cases h2
          exact .inl ⟨rfl, t, rfl⟩
        | 1, h1, h2 =>
          cases h1
          cases h2
          exact .inr ⟨rfl, 0, rfl, rfl, rfl⟩
        | j + 2, h1, _ => cases h1
      · refine ⟨_, rfl, _, rfl, _, rfl, a, _, rfl, hX'.at_, fun p hp => ⟨p, rfl, hp, ?_⟩⟩
        rw [cut_from X i (Nat.le_of_lt hi)]
    · intro D H2 l x2 t2 hD0 hD hp hs
      rw [order_of hX.byt hp hs] at hD
      exact k D H2 ((ExtT.of (Ext.new hr0)).trans x2) t2 ((Ext.new hr0).free hD0) hD
end
end L2
end
section
set_option Elab.async false
set_option linter.all false
set_option maxRecDepth 100000
set_option maxHeartbeats 4000000
namespace L2
open PySem PySem.W PySem.Spec PyProof.Rows Te
abbrev sPl : Stmt := topS 21

/-- a row of bytes stands at b -/
structure RowOf (K : PySem.W.Frag) (H : Hp) (b : Addr) (R : List Int) : Prop where
  at_ : SqL K H b (R.map V.int)
  byt : Byt R
  len : R.length ≤ 40
theorem RowOf.ext {K : PySem.W.Frag} {H H' : Hp} {a : Addr} {T : List Int} (h : RowOf K H a T) (x : Ext H H') : RowOf K H' a T := ⟨x.sqL h.at_, h.byt, h.len⟩
theorem TextAt.row {K : PySem.W.Frag} {H : Hp} {a : Addr} {T : List Int} (h : TextAt K H a T) : RowOf K H a T := ⟨h.at_, h.byt, by have := h.len; omega⟩
def placesN (T R : List Int) : List Nat := Sh08.places (Sh08Neutral.bytesOf T) (Sh08Neutral.bytesOf R)
theorem placesN_eq {T R : List Int} (hT : Byt T) (hR : Byt R) : placesN T R = (List.range (T.length + 1 - R.length)).filter fun i => decide ((T.drop i).take R.length = R) := places_eq hT hR
theorem cut_mid (T : List Int) (i m : Nat) (h : i + m ≤ T.length) : cutV (T.map V.int) (some (i : Int)) (some ((i : Int) + (m : Int))) = ((T.drop i).take m).map V.int := by
  unfold cutV
  have e : (i : Int) + (m : Int) = ((i + m : Nat) : Int) := by omega
  rw [e, List.length_map, HT.sIx_nat, HT.sIx_nat, Nat.min_eq_left (show i ≤ T.length by omega), Nat.min_eq_left h, List.map_take, List.map_drop]
  congr 1
  omega

/-! ### places_of -/
def spPl (K : PySem.W.Frag) : Sp := fun vs H Q _ => ∃ (a b : Addr) (T R : List Int), vs = [.ref a, .ref b] ∧ RowOf K H a T ∧ RowOf K H b R ∧
  ∀ (D : Addr) (H' : Hp), Ext H H' → H D = none → H' D = some (.lst (iV (placesN T R))) → Q (.ref D) H'
section
variable {P : Program} {w : World} {K : PySem.W.Frag} {mg : Str → Option Value} {base : Heap}
theorem scPl : FnScope ["text", "piece", "length", "place"] ["text", "piece"] (defScope sPl) := ⟨rfl, rfl, rfl, by decide +kernel, rfl, by decide +kernel, by decide +kernel⟩
def scLc : Scope := { kind := .function, names := [(".0", .local), ("place", .local), ("length", .free), ("piece", .free), ("text", .free)], isGenerator := false, isCoroutine := false, more := [] }
theorem blkPl : BlkOk ["text", "piece", "length", "place"] (defScope sPl) scLc [("place", 3)] := ⟨rfl, by decide +kernel, by decide +kernel, by decide +kernel, by decide +kernel⟩
theorem Room.u64 {k : Nat} {A : Around} (h : Room k A) : A.units + 64 < cLine := by
  have := h.un
  omega
theorem ok_pl {f : Addr} {fd : FuncData} (F : Fun K "places_of" "places_of" sPl f fd) (T : Txt K mg) : FnOk P w K mg base CX0 2 f fd ["text", "piece"] (spPl K) := by
  refine F.ok scPl (fun vs H Q E h => ?_) (fun cdv A outer s H vs Q E hr h => ?_)
  · obtain ⟨a, b, X, R, rfl, _⟩ := h
    rfl
  · obtain ⟨a, b, X, R, rfl, hX, hR, k⟩ := h
    have hu := hr.u64
    refine ⟨_, pss_cons (ps_set (i := 2) scPl.nd rfl (Or.inr rfl) (pe_callB call_len_seq rfl T.len PySem.boot_len (pa_cons (pv 1) pa_nil)))
      (pss_one (ps_ret (pe_lc rfl scPl.nd (pi_range1 rfl T.range (pa_cons (pe_op op_add (pe_op op_sub (pe_callB call_len_seq rfl T.len PySem.boot_len (pa_cons (pv 0) pa_nil)) (pv 2)) pe_int) pa_nil)) blkPl
        (fun s H C cl fp => pg_name (i := 3) scPl.nd rfl (Or.inl rfl))
        (fun s H C cl fp => pts_one (pt_cmpR (r := rEqL K) (op_eqL hu) (pe_slice (r := rSlL K) sl_list (pv 0) (po_some (pv 3)) (po_some (pe_op op_add (pv 3) (pv 2)))) (pv 1) (nomark _)))
        (fun s H C cl fp => pv 3)))), ?_⟩
    refine ⟨_, rfl, b, _, rfl, .inl hR.at_, _, rfl, a, _, rfl, .inl hX.at_, _, rfl, _, _, rfl, rfl, _, _, rfl, rfl, _, rfl, ?_, ?_, fun D hD => ?_⟩
    · have := hR.len
      rw [List.length_map, List.length_map]
      omega
    · have := hX.len
      rw [List.length_map, List.length_map]
      omega
    have hn : (((X.map V.int).length : Int) - ((R.map V.int).length : Int) + 1).toNat = X.length + 1 - R.length := by
      rw [List.length_map, List.length_map]
      omega
    rw [hn]
    have hXl : X.length ≤ 40 := hX.len
    refine lc_range (fun i H' => Ext H H' ∧ H' D = some (.lst (iV ((List.range i).filter fun i => decide ((X.drop i).take R.length = R))))) ⟨Ext.new hD, upd_same⟩ (fun i H' hi hP => ?_) fun H' hP => ?_
    · obtain ⟨hx, hd⟩ := hP
      refine ⟨rfl, _, rfl, _, rfl, _, rfl, _, rfl, _, rfl, _, _, rfl, rfl, _, rfl, a, _, rfl, (hX.ext hx).at_, fun p hp => ?_⟩
      have e0 : (0 : Int) + (i : Int) = (i : Int) := by omega
      have el : ((R.map V.int).length : Int) = (R.length : Int) := by rw [List.length_map]
      rw [e0, el, cut_mid X i R.length (by omega)]
      have hxp : Ext H' (upd H' p (.lst (((X.drop i).take R.length).map V.int))) := Ext.new hp
      refine ⟨_, rfl, p, b, _, R, rfl, rfl, .inl (.inl upd_same), (hR.ext (hx.trans hxp)).at_, _, rfl, ?_⟩
      rw [List.range_succ, List.filter_append]
      refine ite2 (fun hy => ?_) fun hy => ?_
      · have hy' : (X.drop i).take R.length = R := of_decide_eq_true hy
        refine ⟨_, rfl, _, hxp _ _ hd, ?_, (hx.trans hxp).at_ hD, ?_⟩
        · unfold iV
          rw [List.length_map]
          have h1 := List.length_filter_le (fun i => decide ((X.drop i).take R.length = R)) (List.range i)
          rw [List.length_range] at h1
          rw [sizeLine_eq]
          omega
        · rw [upd_same, List.filter_cons, if_pos hy, List.filter_nil]
          unfold iV
          rw [List.map_append]
          rfl
      · refine ⟨hx.trans hxp, ?_⟩
        rw [List.filter_cons, if_neg hy, List.filter_nil, List.append_nil]
        exact hxp _ _ hd
    · obtain ⟨hx, hd⟩ := hP
      rw [← placesN_eq hX.byt hR.byt] at hd
      exact k D H' hx hD hd
end
end L2
end
section
set_option Elab.async false
set_option linter.all false
set_option maxRecDepth 100000
set_option maxHeartbeats 4000000
namespace L2
open PySem PySem.W PySem.Spec PyProof.Rows Te
abbrev sCom : Stmt := topS 20

def commonN (T : List Int) (i j : Nat) : Nat := Sh08.common ((Sh08Neutral.bytesOf T).drop i) ((Sh08Neutral.bytesOf T).drop j)
/-- what common answers -/
def comI (T : List Int) (i j : Int) : Int := if (T.length : Int) < i ∨ (T.length : Int) < j then -2 else (commonN T i.toNat j.toNat : Int)
def spCom (K : PySem.W.Frag) : Sp := fun vs H Q _ => ∃ (a : Addr) (T : List Int) (i j : Int), vs = [.ref a, .int i, .int j] ∧ TextAt K H a T ∧ 0 ≤ i ∧ 0 ≤ j ∧ Q (.int (comI T i j)) H
section
variable {P : Program} {w : World} {K : PySem.W.Frag} {mg : Str → Option Value} {base : Heap}
theorem scCom : FnScope ["text", "i", "j", "length"] ["text", "i", "j"] (defScope sCom) := ⟨rfl, rfl, rfl, by decide +kernel, rfl, by decide +kernel, by decide +kernel⟩
theorem ok_com {f : Addr} {fd : FuncData} (F : Fun K "common_length" "common_length" sCom f fd) (T : Txt K mg) : FnOk P w K mg base CX0 1 f fd ["text", "i", "j"] (spCom K) := by
  refine F.ok scCom (fun vs H Q E h => ?_) (fun cdv A outer s H vs Q E hr h => ?_)
  · obtain ⟨a, X, i, j, rfl, _⟩ := h
    rfl
  · obtain ⟨a, X, i, j, rfl, hX, hi, hj, k⟩ := h
    obtain ⟨t2, hoor⟩ := T.oor
    refine ⟨_, pss_cons (ps_if (PW.pt (pw_or (pt_cmpR op_gt (pv 1) (pe_callB call_len_seq rfl T.len PySem.boot_len (pa_cons (pv 0) pa_nil)) (nomark _)) (pw_or1 (pt_cmpR op_gt (pv 2) (pe_callB call_len_seq rfl T.len PySem.boot_len (pa_cons (pv 0) pa_nil)) (nomark _)))))
        (pss_one (ps_ret (pe_glob (v := .int (-2)) rfl hoor ⟨_, rfl⟩))) pss_nil)
      (pss_cons (ps_set (i := 3) scCom.nd rfl (Or.inl rfl) pe_int)
      (pss_cons (ps_while PassesOwn.never (PW.pt (pw_and
          (pt_cmpR op_lt (pe_op op_add (pe_callB (call_max2 rfl) rfl T.max boot_max (pa_cons (pv 1) (pa_cons (pv 2) pa_nil))) (pv 3)) (pe_callB call_len_seq rfl T.len PySem.boot_len (pa_cons (pv 0) pa_nil)) (nomark _))
          (pw_and1 (pt_cmpR op_eq (pe_ix ix_list (pv 0) (pe_op op_add (pv 1) (pv 3)) (fun _ _ => rfl)) (pe_ix ix_list (pv 0) (pe_op op_add (pv 2) (pv 3)) (fun _ _ => rfl)) (nomark _)))))
        (pss_one (ps_set (i := 3) scCom.nd rfl (Or.inl rfl) (pe_op op_add (pv 3) pe_int))))
      (pss_one (ps_ret (pv 3))))), ?_⟩
    have hl : ((X.map V.int).length : Int) = (X.length : Int) := by rw [List.length_map]
    have big : (X.length : Int) < i ∨ (X.length : Int) < j → Q (.int (-2)) H := fun h => by
      unfold comI at k
      rw [if_pos h] at k
      exact k
    refine ⟨_, rfl, _, rfl, a, _, rfl, .inl hX.at_, _, _, rfl, rfl, _, rfl, ?_⟩
    refine ite2 (fun h1 => iteT ?_) (fun h1 => ?_)
    · exact big (.inl (by have := of_decide_eq_true h1; omega))
    have h1 : ¬ (X.length : Int) < i := fun z => h1 (decide_eq_true (by omega))
    refine ⟨_, rfl, _, rfl, a, _, rfl, .inl hX.at_, _, _, rfl, rfl, _, rfl, ?_⟩
    refine ite2 (fun h2 => ?_) (fun h2 => ?_)
    · exact big (.inr (by have := of_decide_eq_true h2; omega))
    have h2 : ¬ (X.length : Int) < j := fun z => h2 (decide_eq_true (by omega))
    obtain ⟨i', rfl⟩ : ∃ i' : Nat, i = (i' : Int) := ⟨i.toNat, by omega⟩
    obtain ⟨j', rfl⟩ : ∃ j' : Nat, j = (j' : Int) := ⟨j.toNat, by omega⟩
    have k' : Q (.int (commonN X i' j' : Int)) H := by
      unfold comI at k
      rw [if_neg (by omega)] at k
      exact k
    refine ⟨fun m σ H' => H' = H ∧ ∃ c : Nat, σ = [some (.ref a), some (.int (i' : Int)), some (.int (j' : Int)), some (.int (c : Int))] ∧ m = X.length - c ∧ i' + c ≤ X.length ∧ j' + c ≤ X.length ∧ commonN X i' j' = c + commonN X (i' + c) (j' + c),
      ⟨X.length, rfl, 0, rfl, rfl, by omega, by omega, by simp⟩, ?_⟩
    rintro m σ H' ⟨rfl, c, rfl, rfl, hic, hjc, hcom⟩
    refine ⟨_, rfl, _, rfl, _, _, rfl, _, rfl, _, _, rfl, rfl, _, rfl, a, _, rfl, .inl hX.at_, _, _, rfl, rfl, _, rfl, ?_⟩
    have hmax : (if (j' : Int) > (i' : Int) then (j' : Int) else (i' : Int)) = ((max i' j' : Nat) : Int) := by
      split <;> omega
    rw [hmax, hl]
    refine ite2 (fun h3 => ?_) (fun h3 => ?_)
    · have h3 : ((max i' j' : Nat) : Int) + (c : Int) < (X.length : Int) := of_decide_eq_true h3
      have hi2 : i' + c < X.length := by omega
      have hj2 : j' + c < X.length := by omega
      have ei : X[i' + c]? = some X[i' + c] := List.getElem?_eq_getElem hi2
      have ej : X[j' + c]? = some X[j' + c] := List.getElem?_eq_getElem hj2
      have ci : (i' : Int) + (c : Int) = ((i' + c : Nat) : Int) := by omega
      have cj : (j' : Int) + (c : Int) = ((j' + c : Nat) : Int) := by omega
      have more := common_more hX.byt ei ej
      have ai : atI (X.map V.int) ((i' : Int) + (c : Int)) = some (V.int X[i' + c]) := by
        rw [ci]
        exact atI_nat (by rw [List.getElem?_map, ei]; rfl)
      have aj : atI (X.map V.int) ((j' : Int) + (c : Int)) = some (V.int X[j' + c]) := by
        rw [cj]
        exact atI_nat (by rw [List.getElem?_map, ej]; rfl)
      refine ⟨_, rfl, _, rfl, _, rfl, _, _, rfl, rfl, a, _, _, _, rfl, rfl, hX.at_, ai, _, rfl, _, rfl, _, rfl, _, _, rfl, rfl, a, _, _, _, rfl, rfl, hX.at_, aj, ?_⟩
      refine ⟨rfl, _, rfl, ?_⟩
      refine ite2 (fun h4 => ?_) (fun h4 => ?_)
      · have h4 : X[i' + c] = X[j' + c] := by
          have := of_decide_eq_true h4
          simpa using this
        rw [if_pos h4] at more
        refine ⟨fun σ' H2 => H2 = H' ∧ σ' = [some (.ref a), some (.int (i' : Int)), some (.int (j' : Int)), some (.int ((c : Int) + 1))], ?_, ?_⟩
        · rintro σ' H2 ⟨rfl, rfl⟩
          refine ⟨X.length - (c + 1), by omega, rfl, c + 1, rfl, rfl, by omega, by omega, ?_⟩
          rw [hcom]
          show c + commonN X (i' + c) (j' + c) = _
          unfold commonN
          rw [more]
          show _ = c + 1 + Sh08.common ((Sh08Neutral.bytesOf X).drop (i' + (c + 1))) ((Sh08Neutral.bytesOf X).drop (j' + (c + 1)))
          have ea : i' + (c + 1) = i' + c + 1 := by omega
          have eb : j' + (c + 1) = j' + c + 1 := by omega
          rw [ea, eb]
          omega
        · exact ⟨_, rfl, _, _, rfl, rfl, rfl, rfl⟩
      · have h4 : ¬ X[i' + c] = X[j' + c] := fun z => h4 (decide_eq_true (by rw [z]))
        rw [if_neg h4] at more
        have hc : commonN X i' j' = c := by
          rw [hcom]
          show c + Sh08.common _ _ = c
          rw [more]
          rfl
        rw [hc] at k'
        exact ⟨_, rfl, k'⟩
    · have h3 : ¬ ((max i' j' : Nat) : Int) + (c : Int) < (X.length : Int) := fun z => h3 (decide_eq_true z)
      have hc : commonN X i' j' = c := by
        rw [hcom]
        unfold commonN
        rw [common_end (by rw [bytesOf_length]; omega)]
        rfl
      rw [hc] at k'
      exact ⟨_, rfl, k'⟩
end
end L2
end
section
set_option Elab.async false
set_option linter.all false
set_option maxRecDepth 100000
set_option maxHeartbeats 4000000
namespace L2
open PySem PySem.W PySem.Spec PyProof.Rows Te
abbrev sKth : Stmt := topS 18
abbrev sRnk : Stmt := topS 19
abbrev sCnt : Stmt := topS 22

/-- a def of the text, as it is called -/
structure Def (K : PySem.W.Frag) (mg : Str → Option Value) (x : Str) (st : Stmt) (ps : List Str) (f : Addr) (fd : FuncData) : Prop where
  fn : Fun K x x st f fd
  at_ : mg x = some (.ref f)
  bd : Binds K fd ps []

def ordN (T : List Int) : List Nat := Sh08Neutral.orderOf (Sh08Neutral.bytesOf T)
theorem ordN_len (T : List Int) : (ordN T).length = T.length := by
  unfold ordN
  rw [orderOf_length, bytesOf_length]
def kthI (T : List Int) (k : Int) : Int := match (ordN T)[k.toNat]? with
  | some i => (i : Int)
  | none => -2
def rnkI (T : List Int) (i : Int) : Int := if (T.length : Int) ≤ i then -2 else (((ordN T).findIdx fun j => j == i.toNat : Nat) : Int)
def cntI (T R : List Int) : Int := if R.length = 0 then -1 else ((placesN T R).length : Int)
def spKth (K : PySem.W.Frag) (Pt : Addr) : Sp := fun vs H Q _ => ∃ (a : Addr) (T : List Int) (k : Int), vs = [.ref a, .int k] ∧ TextAt K H a T ∧ Tab Pt H ∧ 0 ≤ k ∧ ∀ H' : Hp, ExtT Pt H H' → Tab Pt H' → Q (.int (kthI T k)) H'
def spRnk (K : PySem.W.Frag) (Pt : Addr) : Sp := fun vs H Q _ => ∃ (a : Addr) (T : List Int) (i : Int), vs = [.ref a, .int i] ∧ TextAt K H a T ∧ Tab Pt H ∧ 0 ≤ i ∧ ∀ H' : Hp, ExtT Pt H H' → Tab Pt H' → Q (.int (rnkI T i)) H'
def spCnt (K : PySem.W.Frag) : Sp := fun vs H Q _ => ∃ (a b : Addr) (T R : List Int), vs = [.ref a, .ref b] ∧ RowOf K H a T ∧ RowOf K H b R ∧ ∀ H' : Hp, Ext H H' → Q (.int (cntI T R)) H'
theorem orderI_eq (T : List Int) : orderI T = (ordN T).map fun (x : Nat) => (x : Int) := rfl

section
variable {P : Program} {w : World} {K : PySem.W.Frag} {mg : Str → Option Value} {base : Heap}
theorem scKth : FnScope ["text", "k"] ["text", "k"] (defScope sKth) := ⟨rfl, rfl, rfl, by decide +kernel, rfl, by decide +kernel, by decide +kernel⟩
theorem ok_kth {f fo Pt : Addr} {fd fdo : FuncData} (F : Fun K "kth_place" "kth_place" sKth f fd) (T : Txt K mg) (DO : Def K mg "places_in_order" sOrd ["text"] fo fdo) (GO : FnOk P w K mg base CX0 2 fo fdo ["text"] (spOrd K Pt)) :
    FnOk P w K mg base CX0 3 f fd ["text", "k"] (spKth K Pt) := by
  refine F.ok scKth (fun vs H Q E h => ?_) (fun cdv A outer s H vs Q E hr h => ?_)
  · obtain ⟨a, X, k, rfl, _⟩ := h
    rfl
  · obtain ⟨a, X, k, rfl, hX, ht, hk, q⟩ := h
    obtain ⟨t2, hoor⟩ := T.oor
    refine ⟨_, pss_cons (ps_if (pt_cmpR op_ge (pv 1) (pe_callB call_len_seq rfl T.len PySem.boot_len (pa_cons (pv 0) pa_nil)) (nomark _)) (pss_one (ps_ret (pe_glob (v := .int (-2)) rfl hoor ⟨_, rfl⟩))) pss_nil)
      (pss_one (ps_ret (pe_ix ix_list (pe_call GO hr rfl DO.at_ DO.fn.kp DO.bd .nil pass0 (pa_cons (pv 0) pa_nil)) (pv 1) (fun _ _ => rfl)))), ?_⟩
    refine ⟨_, rfl, _, rfl, a, _, rfl, .inl hX.at_, _, _, rfl, rfl, _, rfl, ?_⟩
    rw [List.length_map]
    refine ite2 (fun h1 => ?_) (fun h1 => ?_)
    · have h1 : (X.length : Int) ≤ k := of_decide_eq_true h1
      have e : kthI X k = -2 := by
        unfold kthI
        rw [List.getElem?_eq_none (by rw [ordN_len]; omega)]
      have := q H (ExtT.refl _ _) ht
      rw [e] at this
      exact this
    · have h1 : ¬ (X.length : Int) ≤ k := fun z => h1 (decide_eq_true z)
      refine ⟨_, rfl, a, X, rfl, hX, ht, fun D H' x t' hn hD => ?_⟩
      have hkn : k.toNat < (ordN X).length := by rw [ordN_len]; omega
      have e : kthI X k = ((ordN X)[k.toNat] : Int) := by
        unfold kthI
        rw [List.getElem?_eq_getElem hkn]
      have := q H' x t'
      rw [e] at this
      refine ⟨_, rfl, D, _, _, _, rfl, rfl, .inl (.inl hD), ?_, this⟩
      obtain ⟨k', rfl⟩ : ∃ k' : Nat, k = (k' : Int) := ⟨k.toNat, by omega⟩
      refine atI_nat ?_
      have hkn' : k' < (ordN X).length := hkn
      rw [List.getElem?_map, orderI_eq, List.getElem?_map, List.getElem?_eq_getElem hkn']
      rfl
theorem scRnk : FnScope ["text", "i"] ["text", "i"] (defScope sRnk) := ⟨rfl, rfl, rfl, by decide +kernel, rfl, by decide +kernel, by decide +kernel⟩
theorem ok_rnk {f fo Pt : Addr} {fd fdo : FuncData} (F : Fun K "rank_of" "rank_of" sRnk f fd) (T : Txt K mg) (DO : Def K mg "places_in_order" sOrd ["text"] fo fdo) (GO : FnOk P w K mg base CX0 2 fo fdo ["text"] (spOrd K Pt)) :
    FnOk P w K mg base CX0 3 f fd ["text", "i"] (spRnk K Pt) := by
  refine F.ok scRnk (fun vs H Q E h => ?_) (fun cdv A outer s H vs Q E hr h => ?_)
  · obtain ⟨a, X, k, rfl, _⟩ := h
    rfl
  · obtain ⟨a, X, i, rfl, hX, ht, hi, q⟩ := h
    obtain ⟨t2, hoor⟩ := T.oor
    refine ⟨_, pss_cons (ps_if (pt_cmpR op_ge (pv 1) (pe_callB call_len_seq rfl T.len PySem.boot_len (pa_cons (pv 0) pa_nil)) (nomark _)) (pss_one (ps_ret (pe_glob (v := .int (-2)) rfl hoor ⟨_, rfl⟩))) pss_nil)
      (pss_one (ps_ret (pe_bm PySem.F.plainAttrs_list PySem.F.slot_list_index PySem.F.type_list_index mt_index (pe_call GO hr rfl DO.at_ DO.fn.kp DO.bd .nil pass0 (pa_cons (pv 0) pa_nil)) (pa_cons (pv 1) pa_nil)))), ?_⟩
    refine ⟨_, rfl, _, rfl, a, _, rfl, .inl hX.at_, _, _, rfl, rfl, _, rfl, ?_⟩
    rw [List.length_map]
    refine ite2 (fun h1 => ?_) (fun h1 => ?_)
    · have h1 : (X.length : Int) ≤ i := of_decide_eq_true h1
      have := q H (ExtT.refl _ _) ht
      unfold rnkI at this
      rw [if_pos h1] at this
      exact this
    · have h1 : ¬ (X.length : Int) ≤ i := fun z => h1 (decide_eq_true z)
      refine ⟨_, rfl, a, X, rfl, hX, ht, fun D H' x t' hn hD => ?_⟩
      have hq := q H' x t'
      unfold rnkI at hq
      rw [if_neg h1] at hq
      obtain ⟨i', rfl⟩ : ∃ i' : Nat, i = (i' : Int) := ⟨i.toNat, by omega⟩
      have hmem : i' ∈ ordN X := (orderOf_perm _).mem_iff.mpr (List.mem_range.mpr (by rw [bytesOf_length]; omega))
      have hlt : (ordN X).findIdx (fun j => j == i') < (ordN X).length := List.findIdx_lt_length_of_exists ⟨i', hmem, by simp⟩
      refine ⟨.inl ⟨rfl, _, .inl (.inl hD)⟩, _, rfl, D, _, _, (ordN X).findIdx (fun j => j == i'), V.int (i' : Int), rfl, rfl, .inl (.inl hD), rfl, ?_, ?_, ?_, ?_, hq⟩
      · rw [List.all_map, List.all_eq_true]
        intro _ _
        rfl
      · rw [List.getElem?_map, orderI_eq, List.getElem?_map, List.getElem?_eq_getElem hlt]
        have : (ordN X)[(ordN X).findIdx (fun j => j == i')] == i' := List.findIdx_getElem (w := hlt)
        rw [eq_of_beq this]
        rfl
      · show decide _ = true
        simp
      · intro m z hm hz
        rw [List.getElem?_map, orderI_eq, List.getElem?_map, List.getElem?_eq_getElem (by omega)] at hz
        cases hz
        have : ((ordN X)[m]'(by omega) == i') = false := by
          have := List.not_of_lt_findIdx hm
          simpa using this
        show decide _ = false
        simp at this
        simp [this]
        omega
theorem scCnt : FnScope ["text", "piece"] ["text", "piece"] (defScope sCnt) := ⟨rfl, rfl, rfl, by decide +kernel, rfl, by decide +kernel, by decide +kernel⟩
theorem ok_cnt {f fp : Addr} {fd fdp : FuncData} (F : Fun K "count_of" "count_of" sCnt f fd) (T : Txt K mg) (DP : Def K mg "places_of" sPl ["text", "piece"] fp fdp) (GP : FnOk P w K mg base CX0 2 fp fdp ["text", "piece"] (spPl K)) :
    FnOk P w K mg base CX0 3 f fd ["text", "piece"] (spCnt K) := by
  refine F.ok scCnt (fun vs H Q E h => ?_) (fun cdv A outer s H vs Q E hr h => ?_)
  · obtain ⟨a, b, X, R, rfl, _⟩ := h
    rfl
  · obtain ⟨a, b, X, R, rfl, hX, hR, q⟩ := h
    obtain ⟨t2, hnob⟩ := T.nob
    refine ⟨_, pss_cons (ps_if (pt_cmpR op_eq (pe_callB call_len_seq rfl T.len PySem.boot_len (pa_cons (pv 1) pa_nil)) pe_int (nomark _)) (pss_one (ps_ret (pe_glob (v := .int (-1)) rfl hnob ⟨_, rfl⟩))) pss_nil)
      (pss_one (ps_ret (pe_callB call_len_seq rfl T.len PySem.boot_len (pa_cons (pe_call GP hr rfl DP.at_ DP.fn.kp DP.bd .nil pass0 (pa_cons (pv 0) (pa_cons (pv 1) pa_nil))) pa_nil)))), ?_⟩
    refine ⟨_, rfl, b, _, rfl, .inl hR.at_, rfl, _, rfl, ?_⟩
    rw [List.length_map]
    refine ite2 (fun h1 => ?_) (fun h1 => ?_)
    · have h1 : R.length = 0 := by
        have := of_decide_eq_true h1
        have : (R.length : Int) = 0 := by simpa using this
        omega
      have := q H (Ext.refl _)
      unfold cntI at this
      rw [if_pos h1] at this
      exact this
    · have h1 : ¬ R.length = 0 := fun z => h1 (decide_eq_true (by rw [z]; rfl))
      refine ⟨_, rfl, _, rfl, a, b, X, R, rfl, hX, hR, fun D H' x hn hD => ?_⟩
      have := q H' x
      unfold cntI at this
      rw [if_neg h1] at this
      refine ⟨D, _, rfl, .inl (.inl (.inl hD)), ?_⟩
      have e : ((iV (placesN X R)).length : Int) = ((placesN X R).length : Int) := by
        unfold iV
        rw [List.length_map]
      rw [e]
      exact this
end
end L2
end
section
set_option Elab.async false
set_option linter.all false
set_option maxRecDepth 100000
set_option maxHeartbeats 4000000
namespace L2
open PySem PySem.W PySem.Spec PyProof.Rows Te
abbrev sKpo : Stmt := topS 23
abbrev sFpo : Stmt := topS 24
abbrev sDif : Stmt := topS 25
abbrev sLf : Stmt := topS 26

theorem Rd.upd_ne' {H : Hp} {a g : Addr} {o u : HO} (h : Rd H a u) (n : a ≠ g) : Rd (upd H g o) a u := by
  rcases h with h | ⟨o', h⟩
  · exact .inl (by rw [upd_ne n]; exact h)
  · exact .inr ⟨o', by rw [upd_ne n]; exact h⟩
theorem SqL.upd_ne' {K : PySem.W.Frag} {H : Hp} {a g : Addr} {o : HO} {xs : List V} (h : SqL K H a xs) (n : a ≠ g) : SqL K (upd H g o) a xs := h.elim (fun z => .inl (z.upd_ne' n)) .inr
theorem TextAt.upd_ne' {K : PySem.W.Frag} {H : Hp} {a g : Addr} {o : HO} {T : List Int} (h : TextAt K H a T) (n : a ≠ g) : TextAt K (upd H g o) a T := ⟨h.at_.upd_ne' n, h.byt, h.len⟩
theorem ExtT.at_ {Pt : Addr} {H H' : Hp} {p : Addr} {o : HO} (x : ExtT Pt H H') (hn : H p = none) : ExtT Pt H (upd H' p o) := fun b u e n => by
  rw [upd_ne (ne_of_none e hn)]
  exact x b u e n
theorem ExtT.free {Pt : Addr} {H H' : Hp} (x : ExtT Pt H H') (t : ∃ ps, H' Pt = some (.tbl ps)) {p : Addr} (hn : H' p = none) : H p = none := by
  cases q : H p with
  | none => rfl
  | some o =>
    by_cases e : p = Pt
    · obtain ⟨ps, e'⟩ := t
      rw [e, e'] at hn
      cases hn
    · rw [x p o q e] at hn
      cases hn
theorem Tab.at_ {Pt : Addr} {H : Hp} {g : Addr} {o : HO} {xs : List V} (t : Tab Pt H) (hg : H g = some (.lst xs)) : Tab Pt (upd H g o) := by
  rcases t with e | ⟨c', e, ec⟩
  · exact .inl (by rw [upd_ne (fun z => by rw [z, hg] at e; cases e)]; exact e)
  · exact .inr ⟨c', by rw [upd_ne (fun z => by rw [z, hg] at e; cases e)]; exact e, by rw [upd_ne (fun z => by rw [z, hg] at ec; cases ec)]; exact ec⟩


/-! ### kth_place_of, first_place_of -/
def findI (T R : List Int) (k : Int) : Int := if R.length = 0 then -1 else match (placesN T R)[k.toNat]? with
  | some i => (i : Int)
  | none => -2
def spKpo (K : PySem.W.Frag) : Sp := fun vs H Q _ => ∃ (a b : Addr) (T R : List Int) (k : Int), vs = [.ref a, .int k, .ref b] ∧ RowOf K H a T ∧ RowOf K H b R ∧ 0 ≤ k ∧ ∀ H' : Hp, Ext H H' → Q (.int (findI T R k)) H'
def spFpo (K : PySem.W.Frag) : Sp := fun vs H Q _ => ∃ (a b : Addr) (T R : List Int), vs = [.ref a, .ref b] ∧ RowOf K H a T ∧ RowOf K H b R ∧ placesN T R ≠ [] ∧ ∀ H' : Hp, Ext H H' → Q (.int (firstI T R)) H'
theorem firstI_head {T R : List Int} {i : Nat} {l : List Nat} (h : placesN T R = i :: l) : firstI T R = (i : Int) := by
  unfold firstI Sh08Neutral.first
  have h : Sh08.places (Sh08Neutral.bytesOf T) (Sh08Neutral.bytesOf R) = i :: l := h
  rw [h]
  rfl
theorem ordN_perm (T : List Int) : (ordN T).Perm (List.range T.length) := by
  have := orderOf_perm (Sh08Neutral.bytesOf T)
  rw [bytesOf_length] at this
  exact this
theorem ordN_sorted {T : List Int} (hT : Byt T) : (ordN T).Pairwise fun i j => lexI (T.drop i) (T.drop j) = true := by
  refine (orderOf_strict (Sh08Neutral.bytesOf T)).imp fun {i j} h => ?_
  rw [← below_bytesOf (hT.drop i) (hT.drop j), bytesOf_drop, bytesOf_drop]
  exact h
theorem comI_comm {T : List Int} (hT : Byt T) {i j : Nat} (hi : i ≤ T.length) (hj : j ≤ T.length) : comI T (i : Int) (j : Int) = (comm (T.drop i) (T.drop j) : Int) := by
  unfold comI commonN
  rw [if_neg (by omega)]
  show ((Sh08.common ((Sh08Neutral.bytesOf T).drop i) ((Sh08Neutral.bytesOf T).drop j) : Nat) : Int) = _
  rw [← bytesOf_drop, ← bytesOf_drop, comm_bytes (hT.drop i) (hT.drop j)]

/-! ### different_pieces, longest_first -/
def spDif (K : PySem.W.Frag) (Pt : Addr) : Sp := fun vs H Q _ => ∃ (a : Addr) (T : List Int), vs = [.ref a] ∧ TextAt K H a T ∧ Tab Pt H ∧
  ∀ (D : Addr) (H' : Hp) (xs : List V) (L : List (List Int)), ExtT Pt H H' → Tab Pt H' → H D = none → H' D = some (.lst xs) → RowsAt H' xs L → DiffI T L → xs.length ≤ 400 → Q (.ref D) H'
def spLf (K : PySem.W.Frag) : Sp := fun vs H Q _ => ∃ (b : Addr) (xs : List V) (Rs : List (List Int)), vs = [.ref b] ∧ H b = some (.lst xs) ∧ RowsAt H xs Rs ∧ (∀ R ∈ Rs, 1 ≤ R.length) ∧
  ∀ (p : Addr) (H' : Hp), Ext H H' → H' p = some (.lst ((Rs.foldl longer []).map V.int)) → Q (.ref p) H'
section
variable {P : Program} {w : World} {K : PySem.W.Frag} {mg : Str → Option Value} {base : Heap}
theorem scKpo : FnScope ["text", "k", "piece", "places"] ["text", "k", "piece"] (defScope sKpo) := ⟨rfl, rfl, rfl, by decide +kernel, rfl, by decide +kernel, by decide +kernel⟩
theorem ok_kpo {f fp : Addr} {fd fdp : FuncData} (F : Fun K "kth_place_of" "kth_place_of" sKpo f fd) (T : Txt K mg) (DP : Def K mg "places_of" sPl ["text", "piece"] fp fdp) (GP : FnOk P w K mg base CX0 2 fp fdp ["text", "piece"] (spPl K)) :
    FnOk P w K mg base CX0 3 f fd ["text", "k", "piece"] (spKpo K) := by
  refine F.ok scKpo (fun vs H Q E h => ?_) (fun cdv A outer s H vs Q E hr h => ?_)
  · obtain ⟨a, b, X, R, k, rfl, _⟩ := h
    rfl
  · obtain ⟨a, b, X, R, k, rfl, hX, hR, hk, q⟩ := h
    obtain ⟨t2, hnob⟩ := T.nob
    obtain ⟨t3, hoor⟩ := T.oor
    refine ⟨_, pss_cons (ps_if (pt_cmpR op_eq (pe_callB call_len_seq rfl T.len PySem.boot_len (pa_cons (pv 2) pa_nil)) pe_int (nomark _)) (pss_one (ps_ret (pe_glob (v := .int (-1)) rfl hnob ⟨_, rfl⟩))) pss_nil)
      (pss_cons (ps_set (i := 3) scKpo.nd rfl (Or.inl rfl) (pe_call GP hr rfl DP.at_ DP.fn.kp DP.bd .nil pass0 (pa_cons (pv 0) (pa_cons (pv 2) pa_nil))))
      (pss_cons (ps_if (pt_cmpR op_ge (pv 1) (pe_callB call_len_seq rfl T.len PySem.boot_len (pa_cons (pv 3) pa_nil)) (nomark _)) (pss_one (ps_ret (pe_glob (v := .int (-2)) rfl hoor ⟨_, rfl⟩))) pss_nil)
      (pss_one (ps_ret (pe_ix ix_list (pv 3) (pv 1) (fun _ _ => rfl)))))), ?_⟩
    refine ⟨_, rfl, b, _, rfl, .inl hR.at_, rfl, _, rfl, ?_⟩
    rw [List.length_map]
    refine ite2 (fun h1 => ?_) (fun h1 => ?_)
    · have h1 : R.length = 0 := by
        have := of_decide_eq_true h1
        have : (R.length : Int) = 0 := by simpa using this
        omega
      have := q H (Ext.refl _)
      unfold findI at this
      rw [if_pos h1] at this
      exact this
    · have h1 : ¬ R.length = 0 := fun z => h1 (decide_eq_true (by rw [z]; rfl))
      refine ⟨_, rfl, _, rfl, a, b, X, R, rfl, hX, hR, fun D H' x hn hD => ?_⟩
      have hq := q H' x
      unfold findI at hq
      rw [if_neg h1] at hq
      refine ⟨_, rfl, _, rfl, D, _, rfl, .inl (.inl (.inl hD)), _, _, rfl, rfl, _, rfl, ?_⟩
      have e : ((iV (placesN X R)).length : Int) = ((placesN X R).length : Int) := by
        unfold iV
        rw [List.length_map]
      rw [e]
      refine ite2 (fun h2 => ?_) (fun h2 => ?_)
      · have h2 : ((placesN X R).length : Int) ≤ k := of_decide_eq_true h2
        rw [List.getElem?_eq_none (by omega)] at hq
        exact hq
      · have h2 : ¬ ((placesN X R).length : Int) ≤ k := fun z => h2 (decide_eq_true z)
        obtain ⟨k', rfl⟩ : ∃ k' : Nat, k = (k' : Int) := ⟨k.toNat, by omega⟩
        have hk' : k' < (placesN X R).length := by omega
        have e2 : (placesN X R)[((k' : Nat) : Int).toNat]? = some (placesN X R)[k'] := List.getElem?_eq_getElem hk'
        rw [e2] at hq
        refine ⟨_, rfl, _, rfl, D, _, _, _, rfl, rfl, .inl (.inl hD), atI_nat ?_, hq⟩
        unfold iV
        rw [List.getElem?_map, List.getElem?_eq_getElem hk']
        rfl
theorem scFpo : FnScope ["text", "piece"] ["text", "piece"] (defScope sFpo) := ⟨rfl, rfl, rfl, by decide +kernel, rfl, by decide +kernel, by decide +kernel⟩
theorem ok_fpo {f fp : Addr} {fd fdp : FuncData} (F : Fun K "first_place_of" "first_place_of" sFpo f fd) (T : Txt K mg) (DP : Def K mg "places_of" sPl ["text", "piece"] fp fdp) (GP : FnOk P w K mg base CX0 2 fp fdp ["text", "piece"] (spPl K)) :
    FnOk P w K mg base CX0 3 f fd ["text", "piece"] (spFpo K) := by
  refine F.ok scFpo (fun vs H Q E h => ?_) (fun cdv A outer s H vs Q E hr h => ?_)
  · obtain ⟨a, b, X, R, rfl, _⟩ := h
    rfl
  · obtain ⟨a, b, X, R, rfl, hX, hR, hne, q⟩ := h
    refine ⟨_, pss_one (ps_ret (pe_ix ix_list (pe_call GP hr rfl DP.at_ DP.fn.kp DP.bd .nil pass0 (pa_cons (pv 0) (pa_cons (pv 1) pa_nil))) pe_int (fun _ _ => rfl))), ?_⟩
    refine ⟨_, rfl, _, rfl, a, b, X, R, rfl, hX, hR, fun D H' x hn hD => ?_⟩
    have hq := q H' x
    cases hp : placesN X R with
    | nil => exact absurd hp hne
    | cons i l =>
      rw [firstI_head hp] at hq
      refine ⟨D, _, _, _, rfl, rfl, .inl (.inl hD), ?_, hq⟩
      rw [hp]
      exact atI_nat (j := 0) rfl
theorem scDif : FnScope ["text", "pieces", "before", "place", "shortest", "end"] ["text"] (defScope sDif) := ⟨rfl, rfl, rfl, by decide +kernel, rfl, by decide +kernel, by decide +kernel⟩
def scDifC : Scope := { kind := .function, names := [(".0", .local), ("end", .local), ("place", .free), ("text", .free)], isGenerator := false, isCoroutine := false, more := [] }
theorem blkDif : BlkOk ["text", "pieces", "before", "place", "shortest", "end"] (defScope sDif) scDifC [("end", 5)] := ⟨rfl, by decide +kernel, by decide +kernel, by decide +kernel, by decide +kernel⟩
theorem ok_dif {f fo fc Pt : Addr} {fd fdo fdc : FuncData} (F : Fun K "different_pieces" "different_pieces" sDif f fd) (T : Txt K mg) (DO : Def K mg "places_in_order" sOrd ["text"] fo fdo) (GO : FnOk P w K mg base CX0 2 fo fdo ["text"] (spOrd K Pt))
    (DC : Def K mg "common_length" sCom ["text", "i", "j"] fc fdc) (GC : FnOk P w K mg base CX0 1 fc fdc ["text", "i", "j"] (spCom K)) :
    FnOk P w K mg base CX0 3 f fd ["text"] (spDif K Pt) := by
  refine F.ok scDif (fun vs H Q E h => ?_) (fun cdv A outer s H vs Q E hr h => ?_)
  · obtain ⟨a, X, rfl, _⟩ := h
    rfl
  · obtain ⟨a, X, rfl, hX, ht, q⟩ := h
    refine ⟨_, pss_cons (ps_set (i := 1) scDif.nd rfl (Or.inl rfl) (pe_lst pa_nil))
      (pss_cons (ps_set (i := 2) scDif.nd rfl (Or.inl rfl) (pe_callB call_len_seq rfl T.len PySem.boot_len (pa_cons (pv 0) pa_nil)))
      (pss_cons (ps_for PassesOwn.never rfl (pi_list (pe_call GO hr rfl DO.at_ DO.fn.kp DO.bd .nil pass0 (pa_cons (pv 0) pa_nil))) (pg_name (i := 3) scDif.nd rfl (Or.inr rfl))
        (pss_cons (ps_set (i := 4) scDif.nd rfl (Or.inl rfl) (pe_op op_add (pe_call GC (hr.mono (by decide)) rfl DC.at_ DC.fn.kp DC.bd .nil pass0 (pa_cons (pv 0) (pa_cons (pv 2) (pa_cons (pv 3) pa_nil)))) pe_int))
        (pss_cons (ps_expr (pe_bm PySem.F.plainAttrs_list PySem.F.slot_list_extend PySem.F.type_list_extend mt_extend (pv 1) (pa_cons
          (pe_lc rfl scDif.nd (pi_range2 rfl T.range (pa_cons (pe_op op_add (pv 3) (pv 4)) (pa_cons (pe_op op_add (pe_callB call_len_seq rfl T.len PySem.boot_len (pa_cons (pv 0) pa_nil)) pe_int) pa_nil))) blkDif
            (fun s H C cl fp => pg_name (i := 5) scDif.nd rfl (Or.inl rfl))
            (fun s H C cl fp => pts_nil)
            (fun s H C cl fp => pe_slice (r := rSlL K) sl_list (pv 0) (po_some (pv 3)) (po_some (pv 5)))) pa_nil)))
        (pss_one (ps_set (i := 2) scDif.nd rfl (Or.inl rfl) (pv 3))))))
      (pss_one (ps_ret (pv 1))))), ?_⟩
    -- pieces = []; before = len(text)
    refine ⟨Nat.zero_le _, fun D hD => ?_⟩
    have x0 : Ext H (upd H D (.lst [])) := Ext.new hD
    refine ⟨_, rfl, a, _, rfl, .inl (hX.ext x0).at_, ?_⟩
    -- the places in order
    refine ⟨_, rfl, a, X, rfl, hX.ext x0, ext_tab x0 ht, fun D2 H2 x2 t2 hn2 hD2 => ?_⟩
    have nP : ∀ {H : Hp} {g : Addr} {ys : List V}, Tab Pt H → H g = some (.lst ys) → g ≠ Pt := fun {H g ys} t e z => by
      obtain ⟨ps, e'⟩ := t.tbl
      rw [z, e'] at e
      cases e
    have hDP : D ≠ Pt := nP (ext_tab x0 ht) (upd_same (H := H) (a := D) (o := .lst []))
    have hD' : H2 D = some (.lst []) := x2 _ _ upd_same hDP
    have xx2 : ExtT Pt H H2 := (ExtT.of x0).trans x2
    have hDD2 : D2 ≠ D := fun z => by
      rw [z, upd_same] at hn2
      cases hn2
    have hlenO : ((orderI X).map V.int).length = X.length := by
      rw [List.length_map, orderI_eq, List.length_map, ordN_len]
    have hXl : X.length ≤ 20 := hX.len
    refine ⟨D2, rfl, ⟨_, .inl (.inl hD2)⟩, for_list (xs := (orderI X).map V.int) (fun i σ H' => ∃ (bf : Nat) (z : Int) (v3 v4 v5 : Option V) (ys : List V) (L : List (List Int)), σ = [some (.ref a), some (.ref D), some (.int z), v3, v4, v5] ∧ z = (bf : Int) ∧ bf ≤ X.length ∧
      ExtT Pt H H' ∧ Tab Pt H' ∧ H' D2 = some (.lst ((orderI X).map V.int)) ∧ H' D = some (.lst ys) ∧ RowsAt H' ys L ∧ V.ref D ∉ ys ∧ ys.length ≤ 20 * i ∧
      L ++ piecesBy (X.drop bf) (((ordN X).drop i).map fun j => X.drop j) = piecesBy [] ((ordN X).map fun j => X.drop j)) ?h0 (fun i σ H' _ hP => ?hl) (fun i x σ H' hi hP => ?hs) (fun σ H' hP => ?hd)⟩
    case h0 =>
      refine ⟨X.length, _, none, none, none, [], [], rfl, by rw [List.length_map], Nat.le_refl _, xx2, t2, hD2, hD', RowsAt.nil _, by simp, by simp, ?_⟩
      rw [List.drop_length, List.nil_append, List.drop_zero]
    case hl =>
      obtain ⟨bf, z, v3, v4, v5, ys, L, _, _, _, _, _, h, _⟩ := hP
      exact .inl (.inl h)
    case hd =>
      obtain ⟨bf, z, v3, v4, v5, ys, L, rfl, rfl, hbf, hx, hT, h2, hy, hrow, hDy, hyl, hp⟩ := hP
      rw [hlenO] at hp hyl
      have h0 : (ordN X).drop X.length = [] := List.drop_of_length_le (by rw [ordN_len]; exact Nat.le_refl _)
      rw [h0] at hp
      have hp : L = piecesBy [] ((ordN X).map fun j => X.drop j) := by
        rw [← hp]
        show L = L ++ []
        rw [List.append_nil]
      refine ⟨_, rfl, q D H' ys L hx hT hD hy hrow ?_ (by omega)⟩
      rw [hp]
      exact diff_by (ordN_perm X) (ordN_sorted hX.byt)
    case hs =>
      obtain ⟨bf, z, v3, v4, v5, ys, L, rfl, rfl, hbf, hx, hT, h2, hy, hrow, hDy, hyl, hp⟩ := hP
      have hil : i < (ordN X).length := by
        have h3 := (List.getElem?_eq_some_iff.mp hi).1
        rw [hlenO] at h3
        rw [ordN_len]
        exact h3
      have hmem : (ordN X)[i] < X.length := List.mem_range.mp ((ordN_perm X).mem_iff.mp (List.getElem_mem hil))
      have hdrop : (ordN X).drop i = (ordN X)[i] :: (ordN X).drop (i + 1) := List.drop_eq_getElem_cons hil
      have hxv : x = V.int (((ordN X)[i] : Nat) : Int) := by
        rw [List.getElem?_map, orderI_eq, List.getElem?_map, List.getElem?_eq_getElem hil] at hi
        cases hi
        rfl
      subst hxv
      rw [hdrop] at hp
      generalize (ordN X)[i] = pl at hmem hp
      have hXx : TextAt K H' a X := hX.extT hx ht
      -- shortest
      refine ⟨_, rfl, _, rfl, _, rfl, a, X, (bf : Int), (pl : Int), rfl, hXx, by omega, by omega, _, _, rfl, rfl, ?_⟩
      rw [comI_comm hX.byt hbf (Nat.le_of_lt hmem)]
      have hp : L ++ (newOf (X.drop bf) (X.drop pl) ++ piecesBy (X.drop pl) (((ordN X).drop (i + 1)).map fun j => X.drop j)) = piecesBy [] ((ordN X).map fun j => X.drop j) := hp
      unfold newOf at hp
      have hc : comm (X.drop bf) (X.drop pl) ≤ X.length - pl := by
        have := comm_le_right (X.drop bf) (X.drop pl)
        rw [List.length_drop] at this
        exact this
      rw [List.length_drop] at hp
      generalize comm (X.drop bf) (X.drop pl) = c at hp hc
      -- the new ones
      refine ⟨_, rfl, .inl ⟨rfl, _, .inl (.inl hy)⟩, _, rfl, _, rfl, _, _, rfl, rfl, _, rfl, a, _, rfl, .inl hXx.at_, _, _, rfl, rfl, _, _, rfl, ⟨by omega, by omega, by rw [List.length_map]; omega, by rw [List.length_map]; omega⟩, fun D3 hD3 => ?_⟩
      have hn : (((X.map V.int).length : Int) + 1 - ((pl : Int) + ((c : Int) + 1))).toNat = X.length - pl - c := by
        rw [List.length_map]
        omega
      rw [hn]
      have hD3D : D ≠ D3 := ne_of_none hy hD3
      refine lc_range (fun m H'' => ∃ zs : List V, Ext H' H'' ∧ H'' D3 = some (.lst zs) ∧ RowsAt H'' zs ((List.range' (c + 1) m).map fun e => (X.drop pl).take e) ∧ V.ref D3 ∉ zs ∧ V.ref D ∉ zs)
        ⟨[], Ext.new hD3, upd_same, RowsAt.nil _, by simp, by simp⟩ (fun m H'' hm hP => ?_) fun H'' hP => ?_
      · obtain ⟨zs, hxx, hd3, hrw, hn3, hnD⟩ := hP
        refine ⟨rfl, ?_⟩
        refine ⟨_, rfl, _, rfl, _, rfl, _, rfl, _, rfl, a, _, rfl, (hXx.ext hxx).at_, fun p hp0 => ?_⟩
        have e1 : (pl : Int) + ((c : Int) + 1) + (m : Int) = (pl : Int) + ((c + 1 + m : Nat) : Int) := by omega
        rw [e1, cut_mid X pl (c + 1 + m) (by omega)]
        have hxp : Ext H'' (upd H'' p (.lst (((X.drop pl).take (c + 1 + m)).map V.int))) := Ext.new hp0
        have hp3 : p ≠ D3 := Ne.symm (ne_of_none hd3 hp0)
        have hpD : p ≠ D := Ne.symm (ne_of_none (hxx _ _ hy) hp0)
        have hzl : zs.length = m := by
          rw [hrw.len, List.length_map, List.length_range']
        refine ⟨zs, hxp _ _ hd3, by rw [hzl, sizeLine_eq]; omega, zs ++ [V.ref p], (hxx.trans hxp).at_ hD3, upd_same, ?_, ?_, ?_⟩
        · rw [List.range'_concat, List.map_append]
          refine ((hrw.ext hxp).upd hn3).append ?_
          have := RowsAt.one (p := p) (H := upd (upd H'' p (.lst (((X.drop pl).take (c + 1 + m)).map V.int))) D3 (.lst (zs ++ [V.ref p]))) (R := (X.drop pl).take (c + 1 + m)) (by rw [upd_ne hp3]; exact upd_same)
          simpa using this
        · simp [hn3, Ne.symm hp3]
        · simp [hnD, Ne.symm hpD]
      · obtain ⟨zs, hxx, hd3, hrw, hn3, hnD⟩ := hP
        have hzl : zs.length = X.length - pl - c := by
          rw [hrw.len, List.length_map, List.length_range']
        have hy' : H'' D = some (.lst ys) := hxx _ _ hy
        have hsl : sizeLine = 16777216 := by rw [sizeLine_eq]
        have hol := ordN_len X
        refine ⟨D, D3, ys, zs, rfl, rfl, hy', hd3, by omega, ?_⟩
        -- before = place
        refine ⟨_, rfl, pl, _, _, _, _, ys ++ zs, L ++ ((List.range' (c + 1) (X.length - pl - c)).map fun e => (X.drop pl).take e), rfl, rfl, Nat.le_of_lt hmem, (hx.trans (ExtT.of hxx)).at_ hD, Tab.at_ (ext_tab hxx hT) hy', ?_, upd_same, ?_, ?_, ?_, ?_⟩
        · rw [upd_ne hDD2]
          exact hxx _ _ h2
        · exact ((hrow.ext hxx).upd hDy).append (hrw.upd hnD)
        · simp [hDy, hnD]
        · rw [List.length_append]
          omega
        · rw [List.append_assoc]
          exact hp
theorem scLf : FnScope ["pieces"] ["pieces"] (defScope sLf) := ⟨rfl, rfl, rfl, by decide +kernel, rfl, by decide +kernel, by decide +kernel⟩
theorem ok_lf {f : Addr} {fd : FuncData} (F : Fun K "longest_first" "longest_first" sLf f fd) (T : Txt K mg) : FnOk P w K mg base CX0 1 f fd ["pieces"] (spLf K) := by
  refine F.ok scLf (fun vs H Q E h => ?_) (fun cdv A outer s H vs Q E hr h => ?_)
  · obtain ⟨b, xs, Rs, rfl, _⟩ := h
    rfl
  · obtain ⟨b, xs, Rs, rfl, hb, hrow, hpos, q⟩ := h
    refine ⟨_, pss_one (ps_ret (pe_maxL rfl rfl T.max rfl T.len (pv 0))), ?_⟩
    exact ⟨_, rfl, b, xs, Rs, rfl, .inl (.inl hb), hrow, hpos, q⟩
end
end L2
end
section
set_option Elab.async false
set_option linter.all false
set_option maxRecDepth 100000
set_option maxHeartbeats 4000000
namespace L2
open PySem PySem.W PySem.Spec PyProof.Rows Te
abbrev sRep : Stmt := topS 27
abbrev sKdf : Stmt := topS 28
abbrev sShr : Stmt := topS 29
abbrev sTrn : Stmt := topS 30

theorem diffI_ex {T : List Int} (hT : Byt T) : ∃ L, DiffI T L := ⟨_, diff_by (ordN_perm T) (ordN_sorted hT)⟩
theorem stands {T R : List Int} (h : IsPiece T R) (hT : Byt T) : placesN T R ≠ [] := fun z => by
  have hR := h.byt hT
  obtain ⟨i, n, hl, e⟩ := h
  have hlen : R.length = n + 1 := by
    rw [e, List.length_take, List.length_drop]
    omega
  rw [placesN_eq hT hR] at z
  have : i ∈ (List.range (T.length + 1 - R.length)).filter fun i => decide ((T.drop i).take R.length = R) := List.mem_filter.mpr ⟨List.mem_range.mpr (by omega), decide_eq_true (by rw [hlen]; exact e.symm)⟩
  rw [z] at this
  cases this
/-- the longest one of some of the pieces: none, or one of these -/
theorem longest_of {T : List Int} {L : List (List Int)} (hT : Byt T) (h : DiffI T L) (f : List Int → Bool) :
    ((L.filter f) = [] ∧ (L.filter f).foldl longer [] = []) ∨ ((L.filter f) ≠ [] ∧ (L.filter f).foldl longer [] ∈ L.filter f) := by
  have hb : ∀ R ∈ L.filter f, Byt R ∧ 1 ≤ R.length := fun R hR => by
    have := (h.all R).mp (List.mem_filter.mp hR).1
    exact ⟨this.byt hT, this.len.1⟩
  have hf := longest_fold hT (L.filter f) hb (h.sorted.filter _)
  by_cases e : L.filter f = []
  · exact .inl ⟨e, hf.1 e⟩
  · exact .inr ⟨e, (hf.2 e).1⟩
theorem dif_row {T : List Int} {L : List (List Int)} (h : DiffI T L) (hT : Byt T) (hl : T.length ≤ 20) {K : PySem.W.Frag} {H : Hp} {p : Addr} {R : List Int} (hR : R ∈ L) (hp : H p = some (.lst (R.map V.int))) : RowOf K H p R :=
  ⟨.inl (.inl hp), ((h.all R).mp hR).byt hT, by have := ((h.all R).mp hR).len.2; omega⟩
theorem take_filter_succ {L : List (List Int)} {i : Nat} {R : List Int} (h : L[i]? = some R) (f : List Int → Bool) : (L.take (i + 1)).filter f = (L.take i).filter f ++ (if f R = true then [R] else []) := by
  rw [List.take_add_one, h, List.filter_append]
  congr 1
  show List.filter f [R] = _
  rw [List.filter_cons]
  split <;> rfl

def spRep (K : PySem.W.Frag) (Pt : Addr) : Sp := fun vs H Q _ => ∃ (a : Addr) (T : List Int) (k : Int), vs = [.ref a, .int k] ∧ TextAt K H a T ∧ Tab Pt H ∧ 0 ≤ k ∧
  ∀ (D : Addr) (H' : Hp), ExtT Pt H H' → Tab Pt H' → H D = none → H' D = some (.lst ((ansOf0 T [[7, k]]).map V.int)) → Q (.ref D) H'
def spKdf (K : PySem.W.Frag) (Pt : Addr) : Sp := fun vs H Q _ => ∃ (a : Addr) (T : List Int) (k : Int), vs = [.ref a, .int k] ∧ TextAt K H a T ∧ Tab Pt H ∧ 0 ≤ k ∧
  ∀ (D : Addr) (H' : Hp), ExtT Pt H H' → Tab Pt H' → H D = none → H' D = some (.lst ((ansOf0 T [[9, k]]).map V.int)) → Q (.ref D) H'
def spShr (K : PySem.W.Frag) (Pt : Addr) : Sp := fun vs H Q _ => ∃ (a b : Addr) (T U : List Int), vs = [.ref a, .ref b] ∧ TextAt K H a T ∧ RowOf K H b U ∧ Tab Pt H ∧
  ∀ (D : Addr) (H' : Hp), ExtT Pt H H' → Tab Pt H' → H D = none → H' D = some (.lst ((ansOf0 T [[10], U]).map V.int)) → Q (.ref D) H'
def spTrn (K : PySem.W.Frag) : Sp := fun vs H Q _ => ∃ (a : Addr) (T : List Int), vs = [.ref a] ∧ TextAt K H a T ∧ ∀ (H' : Hp) (z : Int), Ext H H' → ansOf0 T [[11]] = [z] → Q (.int z) H'
theorem RowOf.extT {Pt : Addr} {K : PySem.W.Frag} {H H' : Hp} {a : Addr} {T : List Int} (h : RowOf K H a T) (x : ExtT Pt H H') (t : Tab Pt H) : RowOf K H' a T := ⟨x.sqL t.tbl h.at_, h.byt, h.len⟩
section
variable {P : Program} {w : World} {K : PySem.W.Frag} {mg : Str → Option Value} {base : Heap}
theorem scRep : FnScope ["text", "times", "longest", "piece"] ["text", "times"] (defScope sRep) := ⟨rfl, rfl, rfl, by decide +kernel, rfl, by decide +kernel, by decide +kernel⟩
def scRepC : Scope := { kind := .function, names := [(".0", .local), ("piece", .local), ("count_of", .globalImplicit), ("text", .free), ("times", .free)], isGenerator := false, isCoroutine := false, more := [] }
theorem blkRep : BlkOk ["text", "times", "longest", "piece"] (defScope sRep) scRepC [("piece", 3)] := ⟨rfl, by decide +kernel, by decide +kernel, by decide +kernel, by decide +kernel⟩
theorem ok_rep {f fd' fl fc ff Pt : Addr} {fd fdd fdl fdc fdf : FuncData} (F : Fun K "longest_repeated" "longest_repeated" sRep f fd) (T : Txt K mg) (DD : Def K mg "different_pieces" sDif ["text"] fd' fdd) (GD : FnOk P w K mg base CX0 3 fd' fdd ["text"] (spDif K Pt))
    (DL : Def K mg "longest_first" sLf ["pieces"] fl fdl) (GL : FnOk P w K mg base CX0 1 fl fdl ["pieces"] (spLf K)) (DC : Def K mg "count_of" sCnt ["text", "piece"] fc fdc) (GC : FnOk P w K mg base CX0 3 fc fdc ["text", "piece"] (spCnt K))
    (DF : Def K mg "first_place_of" sFpo ["text", "piece"] ff fdf) (GF : FnOk P w K mg base CX0 3 ff fdf ["text", "piece"] (spFpo K)) :
    FnOk P w K mg base CX0 4 f fd ["text", "times"] (spRep K Pt) := by
  refine F.ok scRep (fun vs H Q E h => ?_) (fun cdv A outer s H vs Q E hr h => ?_)
  · obtain ⟨a, X, k, rfl, _⟩ := h
    rfl
  · obtain ⟨a, X, k, rfl, hX, ht, hk, q⟩ := h
    obtain ⟨t2, hnot⟩ := T.not
    refine ⟨_, pss_cons (ps_if (pt_cmpR op_eq (pv 1) pe_int (nomark _)) (pss_one (ps_ret (pe_lst (pa_cons (pe_glob (v := .int (-1)) rfl hnot ⟨_, rfl⟩) pa_nil)))) pss_nil)
      (pss_cons (ps_set (i := 2) scRep.nd rfl (Or.inl rfl) (pe_call GL (hr.mono (by decide)) rfl DL.at_ DL.fn.kp DL.bd .nil pass0 (pa_cons
        (pe_lc rfl scRep.nd (pi_list (pe_call GD hr rfl DD.at_ DD.fn.kp DD.bd .nil pass0 (pa_cons (pv 0) pa_nil))) blkRep
          (fun s H C cl fp => pg_name (i := 3) scRep.nd rfl (Or.inl rfl))
          (fun s H C cl fp => pts_one (pt_cmpR op_ge (pe_call GC hr rfl DC.at_ DC.fn.kp DC.bd .nil pass0 (pa_cons (pv 0) (pa_cons (pv 3) pa_nil))) (pv 1) (nomark _)))
          (fun s H C cl fp => pv 3)) pa_nil)))
      (pss_cons (ps_if (pt_cmpR op_eq (pe_callB call_len_seq rfl T.len PySem.boot_len (pa_cons (pv 2) pa_nil)) pe_int (nomark _)) (pss_one (ps_ret (pe_lst (pa_cons pe_int pa_nil)))) pss_nil)
      (pss_one (ps_ret (pe_lst (pa_cons (pe_callB call_len_seq rfl T.len PySem.boot_len (pa_cons (pv 2) pa_nil)) (pa_cons (pe_call GF hr rfl DF.at_ DF.fn.kp DF.bd .nil pass0 (pa_cons (pv 0) (pa_cons (pv 2) pa_nil))) pa_nil))))))), ?_⟩
    refine ⟨_, rfl, rfl, _, rfl, ?_⟩
    refine ite2 (fun h1 => ?_) (fun h1 => ?_)
    · have h1 : k = 0 := by
        have := of_decide_eq_true h1
        simpa using this
      refine ⟨(by show 1 ≤ sizeLine; decide), fun D hD => q D _ (ExtT.of (Ext.new hD)) (ext_tab (Ext.new hD) ht) hD ?_⟩
      obtain ⟨L, hL⟩ := diffI_ex hX.byt
      rw [ans7 hX.byt hL, if_pos h1]
      exact upd_same
    have h1 : ¬ k = 0 := fun z => h1 (decide_eq_true (by rw [z]))
    refine ⟨_, rfl, a, X, rfl, hX, ht, fun Da H1 xs L x1 t1 hnD hDa hrow hdif hxl => ?_⟩
    refine ⟨Da, rfl, ⟨_, .inl (.inl hDa)⟩, fun D3 hD3 => ?_⟩
    have hX1 : TextAt K H1 a X := hX.extT x1 ht
    have ef : ∀ R : List Int, R ∈ L → (decide (k ≤ cntI X R) = true ↔ (fun R => decide (k.toNat ≤ (placesN X R).length)) R = true) := fun R hR => by
      have hl := ((hdif.all R).mp hR).len.1
      unfold cntI
      rw [if_neg (by omega), decide_eq_true_eq, decide_eq_true_eq]
      omega
    generalize hf : (fun R : List Int => decide (k.toNat ≤ (placesN X R).length)) = fl at ef
    refine lc_list (K := K) (a := Da) (xs := xs) (fun i H'' => ∃ zs : List V, Ext H1 H'' ∧ H'' D3 = some (.lst zs) ∧ RowsAt H'' zs ((L.take i).filter fl) ∧ V.ref D3 ∉ zs ∧ zs.length ≤ i)
      ⟨[], Ext.new hD3, upd_same, RowsAt.nil _, by simp, by simp⟩ (fun i H'' _ hP => ?hl) (fun i x H'' hi hP => ?hs) (fun H'' hP => ?hd)
    case hl =>
      obtain ⟨zs, hxx, _⟩ := hP
      exact .inl (.inl (hxx _ _ hDa))
    case hs =>
      obtain ⟨zs, hxx, hd3, hrw, hn3, hzl⟩ := hP
      have hil : i < xs.length := (List.getElem?_eq_some_iff.mp hi).1
      have hR : L[i]? = some (L[i]'(by rw [← hrow.len]; exact hil)) := List.getElem?_eq_getElem _
      generalize (L[i]'(by rw [← hrow.len]; exact hil)) = R at hR
      have hRL : R ∈ L := List.mem_of_getElem? hR
      obtain ⟨p, hxp, hp⟩ := hrow.row i R hR
      rw [hxp] at hi
      cases hi
      have hp3 : p ≠ D3 := ne_of_none hp hD3
      refine ⟨rfl, _, rfl, _, rfl, a, p, X, R, rfl, (hX1.ext hxx).row, dif_row hdif hX.byt hX.len hRL (hxx _ _ hp), fun H3 x3 => ?_⟩
      refine ⟨_, rfl, _, _, rfl, rfl, _, rfl, ?_⟩
      rw [take_filter_succ hR]
      refine ite2 (fun hy => ?_) fun hy => ?_
      · have hy' : fl R = true := (ef R hRL).mp hy
        refine ⟨_, rfl, zs, x3 _ _ hd3, by rw [sizeLine_eq]; omega, zs ++ [V.ref p], (hxx.trans x3).at_ hD3, upd_same, ?_, ?_, ?_⟩
        · rw [if_pos hy']
          refine ((hrw.ext x3).upd hn3).append (RowsAt.one ?_)
          rw [upd_ne hp3]
          exact x3 _ _ (hxx _ _ hp)
        · simp [hn3, Ne.symm hp3]
        · rw [List.length_append, List.length_singleton]
          omega
      · have hy' : ¬ fl R = true := fun z => hy ((ef R hRL).mpr z)
        refine ⟨zs, hxx.trans x3, x3 _ _ hd3, ?_, hn3, by omega⟩
        rw [if_neg hy', List.append_nil]
        exact hrw.ext x3
    case hd =>
      obtain ⟨zs, hxx, hd3, hrw, hn3, hzl⟩ := hP
      rw [hrow.len, List.take_length] at hrw
      have hpos : ∀ R ∈ L.filter fl, 1 ≤ R.length := fun R hR => ((hdif.all R).mp (List.mem_filter.mp hR).1).len.1
      refine ⟨D3, zs, L.filter fl, rfl, hd3, hrw, hpos, fun p H4 x4 hp4 => ?_⟩
      have xx : ExtT Pt H H4 := x1.trans (ExtT.of (hxx.trans x4))
      have t4 : Tab Pt H4 := ext_tab (hxx.trans x4) t1
      have hX4 : TextAt K H4 a X := hX1.ext (hxx.trans x4)
      have hans : ansOf0 X [[7, k]] = if L.filter fl = [] then [0] else [(((L.filter fl).foldl longer []).length : Int), firstI X ((L.filter fl).foldl longer [])] := by
        rw [ans7 hX.byt hdif, if_neg h1, ← hf]
        rfl
      refine ⟨_, rfl, p, _, rfl, .inl (.inl (.inl hp4)), rfl, _, rfl, ?_⟩
      rw [List.length_map]
      have hlo := longest_of hX.byt hdif fl
      refine ite2 (fun h2 => ?_) (fun h2 => ?_)
      · have h2 : ((L.filter fl).foldl longer []).length = 0 := by
          have := of_decide_eq_true h2
          have : (((L.filter fl).foldl longer []).length : Int) = 0 := by simpa using this
          omega
        have hM : L.filter fl = [] := by
          rcases hlo with ⟨e, _⟩ | ⟨_, e⟩
          · exact e
          · have := hpos _ e
            omega
        refine ⟨(by show 1 ≤ sizeLine; decide), fun D hD => q D _ (xx.trans (ExtT.of (Ext.new hD))) (ext_tab (Ext.new hD) t4) (xx.free t4.tbl hD) ?_⟩
        rw [hans, if_pos hM]
        exact upd_same
      · have h2 : ¬ ((L.filter fl).foldl longer []).length = 0 := fun z => h2 (decide_eq_true (by rw [z]; rfl))
        obtain ⟨hM, hmem⟩ : L.filter fl ≠ [] ∧ (L.filter fl).foldl longer [] ∈ L.filter fl := by
          rcases hlo with ⟨_, e⟩ | e
          · rw [e] at h2
            exact absurd rfl h2
          · exact e
        rw [if_neg hM] at hans
        generalize (L.filter fl).foldl longer [] = B at hans hp4 h2 hmem
        have hBL : B ∈ L := (List.mem_filter.mp hmem).1
        refine ⟨_, rfl, p, _, rfl, .inl (.inl (.inl hp4)), _, rfl, _, rfl, a, p, X, B, rfl, hX4.row, dif_row hdif hX.byt hX.len hBL hp4, stands ((hdif.all B).mp hBL) hX.byt, fun H5 x5 => ?_⟩
        refine ⟨(by show 2 ≤ sizeLine; decide), fun D hD => q D _ (xx.trans (ExtT.of (x5.trans (Ext.new hD)))) (ext_tab (x5.trans (Ext.new hD)) t4) ((xx.trans (ExtT.of x5)).free (Tab.tbl (ext_tab x5 t4)) hD) ?_⟩
        rw [hans, upd_same, List.length_map]
        rfl

theorem scKdf : FnScope ["text", "k", "pieces"] ["text", "k"] (defScope sKdf) := ⟨rfl, rfl, rfl, by decide +kernel, rfl, by decide +kernel, by decide +kernel⟩
theorem ok_kdf {f fd' ff Pt : Addr} {fd fdd fdf : FuncData} (F : Fun K "kth_different" "kth_different" sKdf f fd) (T : Txt K mg) (DD : Def K mg "different_pieces" sDif ["text"] fd' fdd) (GD : FnOk P w K mg base CX0 3 fd' fdd ["text"] (spDif K Pt))
    (DF : Def K mg "first_place_of" sFpo ["text", "piece"] ff fdf) (GF : FnOk P w K mg base CX0 3 ff fdf ["text", "piece"] (spFpo K)) :
    FnOk P w K mg base CX0 4 f fd ["text", "k"] (spKdf K Pt) := by
  refine F.ok scKdf (fun vs H Q E h => ?_) (fun cdv A outer s H vs Q E hr h => ?_)
  · obtain ⟨a, X, k, rfl, _⟩ := h
    rfl
  · obtain ⟨a, X, k, rfl, hX, ht, hk, q⟩ := h
    obtain ⟨t2, hoor⟩ := T.oor
    refine ⟨_, pss_cons (ps_set (i := 2) scKdf.nd rfl (Or.inl rfl) (pe_call GD hr rfl DD.at_ DD.fn.kp DD.bd .nil pass0 (pa_cons (pv 0) pa_nil)))
      (pss_cons (ps_if (pt_cmpR op_ge (pv 1) (pe_callB call_len_seq rfl T.len PySem.boot_len (pa_cons (pv 2) pa_nil)) (nomark _)) (pss_one (ps_ret (pe_lst (pa_cons (pe_glob (v := .int (-2)) rfl hoor ⟨_, rfl⟩) pa_nil)))) pss_nil)
      (pss_one (ps_ret (pe_lst (pa_cons (pe_callB call_len_seq rfl T.len PySem.boot_len (pa_cons (pe_ix ix_list (pv 2) (pv 1) (fun _ _ => rfl)) pa_nil)) (pa_cons (pe_call GF hr rfl DF.at_ DF.fn.kp DF.bd .nil pass0 (pa_cons (pv 0) (pa_cons (pe_ix ix_list (pv 2) (pv 1) (fun _ _ => rfl)) pa_nil))) pa_nil)))))), ?_⟩
    refine ⟨_, rfl, a, X, rfl, hX, ht, fun Da H1 xs L x1 t1 hnD hDa hrow hdif hxl => ?_⟩
    have hX1 : TextAt K H1 a X := hX.extT x1 ht
    have hans := ans9 hX.byt hdif k
    refine ⟨_, rfl, _, rfl, Da, _, rfl, .inl (.inl (.inl hDa)), _, _, rfl, rfl, _, rfl, ?_⟩
    refine ite2 (fun h1 => ?_) (fun h1 => ?_)
    · have h1 : (xs.length : Int) ≤ k := of_decide_eq_true h1
      rw [List.getElem?_eq_none (by rw [← hrow.len]; omega)] at hans
      refine ⟨(by show 1 ≤ sizeLine; decide), fun D hD => q D _ (x1.trans (ExtT.of (Ext.new hD))) (ext_tab (Ext.new hD) t1) (x1.free t1.tbl hD) ?_⟩
      rw [hans]
      exact upd_same
    · have h1 : ¬ (xs.length : Int) ≤ k := fun z => h1 (decide_eq_true z)
      obtain ⟨k', rfl⟩ : ∃ k' : Nat, k = (k' : Int) := ⟨k.toNat, by omega⟩
      have hkl : k' < L.length := by rw [← hrow.len]; omega
      have hR : L[k']? = some L[k'] := List.getElem?_eq_getElem hkl
      generalize L[k'] = R at hR
      have hRL : R ∈ L := List.mem_of_getElem? hR
      obtain ⟨p, hxp, hp⟩ := hrow.row k' R hR
      have hans : ansOf0 X [[9, (k' : Int)]] = [(R.length : Int), firstI X R] := by
        rw [hans, show ((k' : Int)).toNat = k' from rfl, hR]
      refine ⟨_, rfl, _, rfl, Da, _, _, V.ref p, rfl, rfl, .inl (.inl hDa), atI_nat hxp, p, _, rfl, .inl (.inl (.inl hp)), ?_⟩
      refine ⟨_, rfl, _, rfl, _, rfl, Da, _, _, V.ref p, rfl, rfl, .inl (.inl hDa), atI_nat hxp, a, p, X, R, rfl, hX1.row, dif_row hdif hX.byt hX.len hRL hp, stands ((hdif.all R).mp hRL) hX.byt, fun H5 x5 => ?_⟩
      refine ⟨(by show 2 ≤ sizeLine; decide), fun D hD => q D _ (x1.trans (ExtT.of (x5.trans (Ext.new hD)))) (ext_tab (x5.trans (Ext.new hD)) t1) ((x1.trans (ExtT.of x5)).free (Tab.tbl (ext_tab x5 t1)) hD) ?_⟩
      rw [hans, upd_same, List.length_map]
      rfl

theorem scShr : FnScope ["text", "other", "longest", "piece"] ["text", "other"] (defScope sShr) := ⟨rfl, rfl, rfl, by decide +kernel, rfl, by decide +kernel, by decide +kernel⟩
def scShrC : Scope := { kind := .function, names := [(".0", .local), ("piece", .local), ("count_of", .globalImplicit), ("other", .free)], isGenerator := false, isCoroutine := false, more := [] }
theorem blkShr : BlkOk ["text", "other", "longest", "piece"] (defScope sShr) scShrC [("piece", 3)] := ⟨rfl, by decide +kernel, by decide +kernel, by decide +kernel, by decide +kernel⟩
theorem ok_shr {f fd' fl fc ff Pt : Addr} {fd fdd fdl fdc fdf : FuncData} (F : Fun K "longest_shared" "longest_shared" sShr f fd) (T : Txt K mg) (DD : Def K mg "different_pieces" sDif ["text"] fd' fdd) (GD : FnOk P w K mg base CX0 3 fd' fdd ["text"] (spDif K Pt))
    (DL : Def K mg "longest_first" sLf ["pieces"] fl fdl) (GL : FnOk P w K mg base CX0 1 fl fdl ["pieces"] (spLf K)) (DC : Def K mg "count_of" sCnt ["text", "piece"] fc fdc) (GC : FnOk P w K mg base CX0 3 fc fdc ["text", "piece"] (spCnt K))
    (DF : Def K mg "first_place_of" sFpo ["text", "piece"] ff fdf) (GF : FnOk P w K mg base CX0 3 ff fdf ["text", "piece"] (spFpo K)) :
    FnOk P w K mg base CX0 4 f fd ["text", "other"] (spShr K Pt) := by
  refine F.ok scShr (fun vs H Q E h => ?_) (fun cdv A outer s H vs Q E hr h => ?_)
  · obtain ⟨a, b, X, U, rfl, _⟩ := h
    rfl
  · obtain ⟨a, b, X, U, rfl, hX, hU, ht, q⟩ := h
    refine ⟨_, pss_cons (ps_set (i := 2) scShr.nd rfl (Or.inl rfl) (pe_call GL (hr.mono (by decide)) rfl DL.at_ DL.fn.kp DL.bd .nil pass0 (pa_cons
        (pe_lc rfl scShr.nd (pi_list (pe_call GD hr rfl DD.at_ DD.fn.kp DD.bd .nil pass0 (pa_cons (pv 0) pa_nil))) blkShr
          (fun s H C cl fp => pg_name (i := 3) scShr.nd rfl (Or.inl rfl))
          (fun s H C cl fp => pts_one (pt_cmpR op_gt (pe_call GC hr rfl DC.at_ DC.fn.kp DC.bd .nil pass0 (pa_cons (pv 1) (pa_cons (pv 3) pa_nil))) pe_int (nomark _)))
          (fun s H C cl fp => pv 3)) pa_nil)))
      (pss_cons (ps_if (pt_cmpR op_eq (pe_callB call_len_seq rfl T.len PySem.boot_len (pa_cons (pv 2) pa_nil)) pe_int (nomark _)) (pss_one (ps_ret (pe_lst (pa_cons pe_int pa_nil)))) pss_nil)
      (pss_one (ps_ret (pe_lst (pa_cons (pe_callB call_len_seq rfl T.len PySem.boot_len (pa_cons (pv 2) pa_nil)) (pa_cons (pe_call GF hr rfl DF.at_ DF.fn.kp DF.bd .nil pass0 (pa_cons (pv 0) (pa_cons (pv 2) pa_nil)))
        (pa_cons (pe_call GF hr rfl DF.at_ DF.fn.kp DF.bd .nil pass0 (pa_cons (pv 1) (pa_cons (pv 2) pa_nil))) pa_nil))))))), ?_⟩
    refine ⟨_, rfl, a, X, rfl, hX, ht, fun Da H1 xs L x1 t1 hnD hDa hrow hdif hxl => ?_⟩
    refine ⟨Da, rfl, ⟨_, .inl (.inl hDa)⟩, fun D3 hD3 => ?_⟩
    have hX1 : TextAt K H1 a X := hX.extT x1 ht
    have hU1 : RowOf K H1 b U := hU.extT x1 ht
    have ef : ∀ R : List Int, R ∈ L → (decide ((0 : Int) < cntI U R) = true ↔ (fun R => (placesN U R) != []) R = true) := fun R hR => by
      have hl := ((hdif.all R).mp hR).len.1
      unfold cntI
      rw [if_neg (by omega), decide_eq_true_eq]
      show _ ↔ ((placesN U R) != []) = true
      cases placesN U R with
      | nil => simp
      | cons i l => simp
    have hfl : ∀ R : List Int, (fun R => (placesN U R) != []) R = true → placesN U R ≠ [] := fun R h z => by
      have h : ((placesN U R) != []) = true := h
      rw [z] at h
      simp at h
    generalize hf : (fun R : List Int => (placesN U R) != []) = fl at ef hfl
    refine lc_list (K := K) (a := Da) (xs := xs) (fun i H'' => ∃ zs : List V, Ext H1 H'' ∧ H'' D3 = some (.lst zs) ∧ RowsAt H'' zs ((L.take i).filter fl) ∧ V.ref D3 ∉ zs ∧ zs.length ≤ i)
      ⟨[], Ext.new hD3, upd_same, RowsAt.nil _, by simp, by simp⟩ (fun i H'' _ hP => ?hl) (fun i x H'' hi hP => ?hs) (fun H'' hP => ?hd)
    case hl =>
      obtain ⟨zs, hxx, _⟩ := hP
      exact .inl (.inl (hxx _ _ hDa))
    case hs =>
      obtain ⟨zs, hxx, hd3, hrw, hn3, hzl⟩ := hP
      have hil : i < xs.length := (List.getElem?_eq_some_iff.mp hi).1
      have hR : L[i]? = some (L[i]'(by rw [← hrow.len]; exact hil)) := List.getElem?_eq_getElem _
      generalize (L[i]'(by rw [← hrow.len]; exact hil)) = R at hR
      have hRL : R ∈ L := List.mem_of_getElem? hR
      obtain ⟨p, hxp, hp⟩ := hrow.row i R hR
      rw [hxp] at hi
      cases hi
      have hp3 : p ≠ D3 := ne_of_none hp hD3
      refine ⟨rfl, _, rfl, _, rfl, b, p, U, R, rfl, hU1.ext hxx, dif_row hdif hX.byt hX.len hRL (hxx _ _ hp), fun H3 x3 => ?_⟩
      refine ⟨_, _, rfl, rfl, _, rfl, ?_⟩
      rw [take_filter_succ hR]
      refine ite2 (fun hy => ?_) fun hy => ?_
      · have hy' : fl R = true := (ef R hRL).mp hy
        refine ⟨_, rfl, zs, x3 _ _ hd3, by rw [sizeLine_eq]; omega, zs ++ [V.ref p], (hxx.trans x3).at_ hD3, upd_same, ?_, ?_, ?_⟩
        · rw [if_pos hy']
          refine ((hrw.ext x3).upd hn3).append (RowsAt.one ?_)
          rw [upd_ne hp3]
          exact x3 _ _ (hxx _ _ hp)
        · simp [hn3, Ne.symm hp3]
        · rw [List.length_append, List.length_singleton]
          omega
      · have hy' : ¬ fl R = true := fun z => hy ((ef R hRL).mpr z)
        refine ⟨zs, hxx.trans x3, x3 _ _ hd3, ?_, hn3, by omega⟩
        rw [if_neg hy', List.append_nil]
        exact hrw.ext x3
    case hd =>
      obtain ⟨zs, hxx, hd3, hrw, hn3, hzl⟩ := hP
      rw [hrow.len, List.take_length] at hrw
      have hpos : ∀ R ∈ L.filter fl, 1 ≤ R.length := fun R hR => ((hdif.all R).mp (List.mem_filter.mp hR).1).len.1
      refine ⟨D3, zs, L.filter fl, rfl, hd3, hrw, hpos, fun p H4 x4 hp4 => ?_⟩
      have xx : ExtT Pt H H4 := x1.trans (ExtT.of (hxx.trans x4))
      have t4 : Tab Pt H4 := ext_tab (hxx.trans x4) t1
      have hX4 : TextAt K H4 a X := hX1.ext (hxx.trans x4)
      have hU4 : RowOf K H4 b U := hU1.ext (hxx.trans x4)
      have hans : ansOf0 X [[10], U] = if L.filter fl = [] then [0] else [(((L.filter fl).foldl longer []).length : Int), firstI X ((L.filter fl).foldl longer []), firstI U ((L.filter fl).foldl longer [])] := by
        rw [ans10 hX.byt hdif hU.len, ← hf]
        rfl
      refine ⟨_, rfl, p, _, rfl, .inl (.inl (.inl hp4)), rfl, _, rfl, ?_⟩
      rw [List.length_map]
      have hlo := longest_of hX.byt hdif fl
      refine ite2 (fun h2 => ?_) (fun h2 => ?_)
      · have h2 : ((L.filter fl).foldl longer []).length = 0 := by
          have := of_decide_eq_true h2
          have : (((L.filter fl).foldl longer []).length : Int) = 0 := by simpa using this
          omega
        have hM : L.filter fl = [] := by
          rcases hlo with ⟨e, _⟩ | ⟨_, e⟩
          · exact e
          · have := hpos _ e
            omega
        refine ⟨(by show 1 ≤ sizeLine; decide), fun D hD => q D _ (xx.trans (ExtT.of (Ext.new hD))) (ext_tab (Ext.new hD) t4) (xx.free t4.tbl hD) ?_⟩
        rw [hans, if_pos hM]
        exact upd_same
      · have h2 : ¬ ((L.filter fl).foldl longer []).length = 0 := fun z => h2 (decide_eq_true (by rw [z]; rfl))
        obtain ⟨hM, hmem⟩ : L.filter fl ≠ [] ∧ (L.filter fl).foldl longer [] ∈ L.filter fl := by
          rcases hlo with ⟨_, e⟩ | e
          · rw [e] at h2
            exact absurd rfl h2
          · exact e
        rw [if_neg hM] at hans
        generalize (L.filter fl).foldl longer [] = B at hans hp4 h2 hmem
        have hBL : B ∈ L := (List.mem_filter.mp hmem).1
        have hBU : placesN U B ≠ [] := hfl B (List.mem_filter.mp hmem).2
        refine ⟨_, rfl, p, _, rfl, .inl (.inl (.inl hp4)), _, rfl, _, rfl, a, p, X, B, rfl, hX4.row, dif_row hdif hX.byt hX.len hBL hp4, stands ((hdif.all B).mp hBL) hX.byt, fun H5 x5 => ?_⟩
        refine ⟨_, rfl, _, rfl, b, p, U, B, rfl, hU4.ext x5, dif_row hdif hX.byt hX.len hBL (x5 _ _ hp4), hBU, fun H6 x6 => ?_⟩
        have x56 := x5.trans x6
        refine ⟨(by show 3 ≤ sizeLine; decide), fun D hD => q D _ (xx.trans (ExtT.of (x56.trans (Ext.new hD)))) (ext_tab (x56.trans (Ext.new hD)) t4) ((xx.trans (ExtT.of x56)).free (Tab.tbl (ext_tab x56 t4)) hD) ?_⟩
        rw [hans, upd_same, List.length_map]
        rfl

/-! ### first_turn -/
theorem cut_to (T : List Int) (i : Nat) (h : i ≤ T.length) : cutV (T.map V.int) none (some (i : Int)) = (T.take i).map V.int := by
  unfold cutV
  rw [List.length_map, HT.sIx_nat, HT.sIx_none, Nat.min_eq_left h, List.map_take]
  simp
def turnI (T : List Int) (j : Nat) : List Int := T.drop j ++ T.take j
theorem firstT_of {T : List Int} (hT : Byt T) {b : Nat} (h : FirstK (fun i => ((List.range T.length).map (turnI T)).getD i []) ((List.range T.length).map (turnI T)).length b) : FirstT (Sh08Neutral.bytesOf T) (Sh08Neutral.bytesOf T).length b := by
  rw [List.length_map, List.length_range] at h
  have key : ∀ j, j < T.length → ((List.range T.length).map (turnI T)).getD j [] = turnI T j := fun j hj => by
    rw [List.getD_eq_getElem?_getD, List.getElem?_map, List.getElem?_range hj]
    rfl
  have tb : ∀ i j, Sh08.below (Sh08.turned (Sh08Neutral.bytesOf T) i) (Sh08.turned (Sh08Neutral.bytesOf T) j) = lexI (turnI T i) (turnI T j) := fun i j => by
    have e : ∀ i, Sh08.turned (Sh08Neutral.bytesOf T) i = Sh08Neutral.bytesOf (turnI T i) := fun i => by
      unfold Sh08.turned turnI
      rw [bytesOf_append, bytesOf_drop, bytesOf_take]
    rw [e, e]
    exact below_bytesOf ((hT.drop i).append (hT.take i)) ((hT.drop j).append (hT.take j))
  obtain ⟨h1, h2, h3⟩ := h
  rw [bytesOf_length]
  refine ⟨h1, fun j hj => ?_, fun j hj => ?_⟩
  · have := h2 j hj
    dsimp only at this
    rw [key j hj, key b h1] at this
    rw [tb]
    exact this
  · have := h3 j hj
    dsimp only at this
    rw [key j (by omega), key b h1] at this
    rw [tb]
    exact this
theorem scTrn : FnScope ["text", "turns", "place"] ["text"] (defScope sTrn) := ⟨rfl, rfl, rfl, by decide +kernel, rfl, by decide +kernel, by decide +kernel⟩
def scTrnC : Scope := { kind := .function, names := [(".0", .local), ("place", .local), ("text", .free)], isGenerator := false, isCoroutine := false, more := [] }
theorem blkTrn : BlkOk ["text", "turns", "place"] (defScope sTrn) scTrnC [("place", 2)] := ⟨rfl, by decide +kernel, by decide +kernel, by decide +kernel, by decide +kernel⟩
theorem Room.u65 {k : Nat} {A : Around} (h : Room k A) : A.units + 65 < cLine := by
  have := h.un
  omega
theorem Room.u1 {k : Nat} {A : Around} (h : Room k A) : A.units + 1 < cLine := by
  have := h.un
  omega
theorem ok_trn {f : Addr} {fd : FuncData} (F : Fun K "first_turn" "first_turn" sTrn f fd) (T : Txt K mg) : FnOk P w K mg base CX0 1 f fd ["text"] (spTrn K) := by
  refine F.ok scTrn (fun vs H Q E h => ?_) (fun cdv A outer s H vs Q E hr h => ?_)
  · obtain ⟨a, X, rfl, _⟩ := h
    rfl
  · obtain ⟨a, X, rfl, hX, q⟩ := h
    obtain ⟨t2, hoor⟩ := T.oor
    refine ⟨_, pss_cons (ps_if (pt_cmpR op_eq (pe_callB call_len_seq rfl T.len PySem.boot_len (pa_cons (pv 0) pa_nil)) pe_int (nomark _)) (pss_one (ps_ret (pe_glob (v := .int (-2)) rfl hoor ⟨_, rfl⟩))) pss_nil)
      (pss_cons (ps_setLc (i := 1) rfl scTrn.nd rfl rfl (sw_true rfl rfl rfl rfl) (pi_range1 rfl T.range (pa_cons (pe_callB call_len_seq rfl T.len PySem.boot_len (pa_cons (pv 0) pa_nil)) pa_nil)) blkTrn
        (fun s H C cl fp => pg_name (i := 2) scTrn.nd rfl (Or.inl rfl))
        (fun s H C cl fp => pts_nil)
        (fun s H C cl fp => pe_op op_cat (pe_slice (r := rSlL K) sl_list (pv 0) (po_some (pv 2)) po_none) (pe_slice (r := rSlL K) sl_list (pv 0) po_none (po_some (pv 2)))))
      (pss_one (ps_ret (pe_bm PySem.F.plainAttrs_list PySem.F.slot_list_index PySem.F.type_list_index (mt_indexL (Room.u65 hr)) (pv 1) (pa_cons (pe_callB (call_minL rfl (Room.u1 hr)) rfl T.min boot_min (pa_cons (pv 1) pa_nil)) pa_nil))))), ?_⟩
    have hXl := hX.len
    refine ⟨_, rfl, a, _, rfl, .inl hX.at_, rfl, _, rfl, ?_⟩
    rw [List.length_map]
    refine ite2 (fun h1 => ?_) (fun h1 => ?_)
    · have h1 : X.length = 0 := by
        have := of_decide_eq_true h1
        have : (X.length : Int) = 0 := by simpa using this
        omega
      refine q H _ (Ext.refl _) ?_
      rw [ans11 X (b := 0) (fun z => absurd (List.length_eq_zero_iff.mp h1) z), if_pos h1]
    have h1 : ¬ X.length = 0 := fun z => h1 (decide_eq_true (by rw [z]; rfl))
    refine ⟨_, rfl, a, _, rfl, .inl hX.at_, _, rfl, (by rw [List.length_map]; omega), (by rw [List.length_map]; omega), fun D3 hD3 => ?_⟩
    have hn : (((X.map V.int).length : Int)).toNat = X.length := by
      rw [List.length_map]
      rfl
    rw [hn]
    refine lc_range (fun m H'' => ∃ zs : List V, Ext H H'' ∧ H'' D3 = some (.lst zs) ∧ RowsAt H'' zs ((List.range m).map (turnI X)) ∧ V.ref D3 ∉ zs)
      ⟨[], Ext.new hD3, upd_same, RowsAt.nil _, by simp⟩ (fun m H'' hm hP => ?_) fun H'' hP => ?_
    · obtain ⟨zs, hxx, hd3, hrw, hn3⟩ := hP
      have hX2 : TextAt K H'' a X := hX.ext hxx
      have e0 : (0 : Int) + (m : Int) = (m : Int) := by omega
      refine ⟨rfl, ?_⟩
      refine ⟨_, rfl, _, rfl, _, rfl, a, _, rfl, hX2.at_, fun p1 hp1 => ?_⟩
      rw [e0, cut_from X m (by omega)]
      have x1 : Ext H'' (upd H'' p1 (.lst ((X.drop m).map V.int))) := Ext.new hp1
      refine ⟨_, rfl, _, rfl, _, rfl, a, _, rfl, (hX2.ext x1).at_, fun p2 hp2 => ?_⟩
      rw [cut_to X m (by omega)]
      have x2 : Ext (upd H'' p1 (.lst ((X.drop m).map V.int))) (upd (upd H'' p1 (.lst ((X.drop m).map V.int))) p2 (.lst ((X.take m).map V.int))) := Ext.new hp2
      refine ⟨p1, p2, _, _, rfl, rfl, x2 _ _ upd_same, upd_same, ?_, fun p hp => ?_⟩
      · rw [List.length_map, List.length_map, List.length_drop, List.length_take, sizeLine_eq]
        omega
      have x12 := x1.trans x2
      generalize upd (upd H'' p1 (.lst ((X.drop m).map V.int))) p2 (.lst ((X.take m).map V.int)) = H3 at hp x12
      rw [← List.map_append]
      have x3 : Ext H3 (upd H3 p (.lst ((X.drop m ++ X.take m).map V.int))) := Ext.new hp
      have hd3' : H3 D3 = some (.lst zs) := x12 _ _ hd3
      have hp3 : p ≠ D3 := Ne.symm (ne_of_none hd3' hp)
      have hzl : zs.length = m := by
        rw [hrw.len, List.length_map, List.length_range]
      refine ⟨zs, x3 _ _ hd3', by rw [hzl, sizeLine_eq]; omega, zs ++ [V.ref p], ((hxx.trans x12).trans x3).at_ hD3, upd_same, ?_, ?_⟩
      · have er : (List.range (m + 1)).map (turnI X) = (List.range m).map (turnI X) ++ [turnI X m] := by
          rw [List.range_succ, List.map_append]
          rfl
        rw [er]
        refine ((hrw.ext (x12.trans x3)).upd hn3).append (RowsAt.one (R := turnI X m) ?_)
        rw [upd_ne hp3]
        exact upd_same
      · simp [hn3, Ne.symm hp3]
    · obtain ⟨zs, hxx, hd3, hrw, hn3⟩ := hP
      have hpos : 0 < ((List.range X.length).map (turnI X)).length := by
        rw [List.length_map, List.length_range]
        omega
      refine ⟨_, rfl, .inl ⟨rfl, _, .inl (.inl hd3)⟩, _, rfl, D3, zs, _, rfl, .inl (.inl hd3), hrw, hpos, fun i p hF hxi => ?_⟩
      have hil : i < ((List.range X.length).map (turnI X)).length := hF.1
      have hR : ((List.range X.length).map (turnI X))[i]? = some (((List.range X.length).map (turnI X))[i]) := List.getElem?_eq_getElem hil
      have hRg : ∀ (m : Nat) (R : List Int), ((List.range X.length).map (turnI X))[m]? = some R → ((List.range X.length).map (turnI X)).getD m [] = R := fun m R e => by
        rw [List.getD_eq_getElem?_getD, e]
        rfl
      obtain ⟨p', h1', h2'⟩ := hrw.row i _ hR
      rw [hxi] at h1'
      cases h1'
      refine ⟨D3, p, zs, _, _, i, rfl, rfl, .inl (.inl hd3), hrw, .inl (.inl h2'), hR, fun m R' hm hR' z => ?_, q H'' _ hxx ?_⟩
      · have h3 := hF.2.2 m hm
        dsimp only at h3
        rw [hRg m _ hR', hRg i _ hR, z, lexI_irrefl] at h3
        cases h3
      · rw [ans11 X (b := i) (fun _ => firstT_of hX.byt hF), if_neg h1]
end
end L2
end
section
set_option Elab.async false
set_option linter.all false
set_option maxRecDepth 100000
set_option maxHeartbeats 4000000
namespace L2
open PySem PySem.W PySem.Spec PyProof.Rows Te
abbrev sAns : Stmt := topS 31

/-- what a call answers -/
def ansOf (T : List Int) (p : Int) (nums row : List Int) : List Int := (Sh08Neutral.step (Sh08Neutral.bytesOf T) (callOf p nums row)).2
def spAnswer (K : PySem.W.Frag) (Pt : Addr) : Sp := fun vs H Q _ => ∃ (a nb rb : Addr) (T nums row : List Int) (p : Int), vs = [.ref a, .int p, .ref nb, .ref rb] ∧ TextAt K H a T ∧ Tab Pt H ∧ (1 ≤ p ∧ p ≤ 11) ∧
  SqL K H nb (nums.map V.int) ∧ nums.length = Te.wn p ∧ (∀ x ∈ nums, 0 ≤ x ∧ x < 4294967296) ∧ RowOf K H rb row ∧
  ∀ (D : Addr) (H' : Hp), ExtT Pt H H' → Tab Pt H' → H D = none → H' D = some (.lst ((ansOf T p nums row).map V.int)) → Q (.ref D) H'
/-- the calls' numbers -/
structure Nums (mg : Str → Option Value) : Prop where
  order : ∃ t, mg "ORDER" = some (.int 1 t)
  place : ∃ t, mg "PLACE" = some (.int 2 t)
  rank : ∃ t, mg "RANK" = some (.int 3 t)
  common : ∃ t, mg "COMMON" = some (.int 4 t)
  count : ∃ t, mg "COUNT" = some (.int 5 t)
  find : ∃ t, mg "FIND" = some (.int 6 t)
  repeat_ : ∃ t, mg "REPEAT" = some (.int 7 t)
  different : ∃ t, mg "DIFFERENT" = some (.int 8 t)
  nth : ∃ t, mg "NTH" = some (.int 9 t)
  shared : ∃ t, mg "SHARED" = some (.int 10 t)
theorem nums_one {nums : List Int} (h : nums.length = 1) : ∃ k, nums = [k] := match nums, h with
  | [k], _ => ⟨k, rfl⟩
theorem nums_two {nums : List Int} (h : nums.length = 2) : ∃ k l, nums = [k, l] := match nums, h with
  | [k, l], _ => ⟨k, l, rfl⟩
section
variable {P : Program} {w : World} {K : PySem.W.Frag} {mg : Str → Option Value} {base : Heap}
theorem scAns : FnScope ["text", "number", "numbers", "row"] ["text", "number", "numbers", "row"] (defScope sAns) := ⟨rfl, rfl, rfl, by decide +kernel, rfl, by decide +kernel, by decide +kernel⟩
theorem ok_ans {f f1 f2 f3 f4 f5 f6 f7 f8 f9 f10 f11 Pt : Addr} {fd d1 d2 d3 d4 d5 d6 d7 d8 d9 d10 d11 : FuncData} (F : Fun K "answer" "answer" sAns f fd) (T : Txt K mg) (N : Nums mg)
    (D1 : Def K mg "places_in_order" sOrd ["text"] f1 d1) (G1 : FnOk P w K mg base CX0 2 f1 d1 ["text"] (spOrd K Pt))
    (D2 : Def K mg "kth_place" sKth ["text", "k"] f2 d2) (G2 : FnOk P w K mg base CX0 3 f2 d2 ["text", "k"] (spKth K Pt))
    (D3 : Def K mg "rank_of" sRnk ["text", "i"] f3 d3) (G3 : FnOk P w K mg base CX0 3 f3 d3 ["text", "i"] (spRnk K Pt))
    (D4 : Def K mg "common_length" sCom ["text", "i", "j"] f4 d4) (G4 : FnOk P w K mg base CX0 1 f4 d4 ["text", "i", "j"] (spCom K))
    (D5 : Def K mg "count_of" sCnt ["text", "piece"] f5 d5) (G5 : FnOk P w K mg base CX0 3 f5 d5 ["text", "piece"] (spCnt K))
    (D6 : Def K mg "kth_place_of" sKpo ["text", "k", "piece"] f6 d6) (G6 : FnOk P w K mg base CX0 3 f6 d6 ["text", "k", "piece"] (spKpo K))
    (D7 : Def K mg "longest_repeated" sRep ["text", "times"] f7 d7) (G7 : FnOk P w K mg base CX0 4 f7 d7 ["text", "times"] (spRep K Pt))
    (D8 : Def K mg "different_pieces" sDif ["text"] f8 d8) (G8 : FnOk P w K mg base CX0 3 f8 d8 ["text"] (spDif K Pt))
    (D9 : Def K mg "kth_different" sKdf ["text", "k"] f9 d9) (G9 : FnOk P w K mg base CX0 4 f9 d9 ["text", "k"] (spKdf K Pt))
    (D10 : Def K mg "longest_shared" sShr ["text", "other"] f10 d10) (G10 : FnOk P w K mg base CX0 4 f10 d10 ["text", "other"] (spShr K Pt))
    (D11 : Def K mg "first_turn" sTrn ["text"] f11 d11) (G11 : FnOk P w K mg base CX0 1 f11 d11 ["text"] (spTrn K)) :
    FnOk P w K mg base CX0 5 f fd ["text", "number", "numbers", "row"] (spAnswer K Pt) := by
  refine F.ok scAns (fun vs H Q E h => ?_) (fun cdv A outer s H vs Q E hr h => ?_)
  · obtain ⟨a, nb, rb, X, nums, row, p, rfl, _⟩ := h
    rfl
  · obtain ⟨a, nb, rb, X, nums, row, p, rfl, hX, ht, hp, hnb, hnl, hnr, hR, q⟩ := h
    obtain ⟨t1, c1⟩ := N.order
    obtain ⟨t2, c2⟩ := N.place
    obtain ⟨t3, c3⟩ := N.rank
    obtain ⟨t4, c4⟩ := N.common
    obtain ⟨t5, c5⟩ := N.count
    obtain ⟨t6, c6⟩ := N.find
    obtain ⟨t7, c7⟩ := N.repeat_
    obtain ⟨t8, c8⟩ := N.different
    obtain ⟨t9, c9⟩ := N.nth
    obtain ⟨t10, c10⟩ := N.shared
    refine ⟨_, pss_cons (ps_if (pt_cmpR op_eq (pv 1) (pe_glob (v := .int 1) rfl c1 ⟨_, rfl⟩) (nomark _)) (pss_one (ps_ret (pe_op op_cat (pe_lst (pa_cons (pe_callB call_len_seq rfl T.len PySem.boot_len (pa_cons (pv 0) pa_nil)) pa_nil)) (pe_call G1 (hr.mono (by decide)) rfl D1.at_ D1.fn.kp D1.bd .nil pass0 (pa_cons (pv 0) pa_nil))))) pss_nil)
      (pss_cons (ps_if (pt_cmpR op_eq (pv 1) (pe_glob (v := .int 2) rfl c2 ⟨_, rfl⟩) (nomark _)) (pss_one (ps_ret (pe_lst (pa_cons (pe_call G2 (hr.mono (by decide)) rfl D2.at_ D2.fn.kp D2.bd .nil pass0 (pa_cons (pv 0) (pa_cons (pe_ix ix_list (pv 2) pe_int (fun _ _ => rfl)) pa_nil))) pa_nil)))) pss_nil)
      (pss_cons (ps_if (pt_cmpR op_eq (pv 1) (pe_glob (v := .int 3) rfl c3 ⟨_, rfl⟩) (nomark _)) (pss_one (ps_ret (pe_lst (pa_cons (pe_call G3 (hr.mono (by decide)) rfl D3.at_ D3.fn.kp D3.bd .nil pass0 (pa_cons (pv 0) (pa_cons (pe_ix ix_list (pv 2) pe_int (fun _ _ => rfl)) pa_nil))) pa_nil)))) pss_nil)
      (pss_cons (ps_if (pt_cmpR op_eq (pv 1) (pe_glob (v := .int 4) rfl c4 ⟨_, rfl⟩) (nomark _)) (pss_one (ps_ret (pe_lst (pa_cons (pe_call G4 (hr.mono (by decide)) rfl D4.at_ D4.fn.kp D4.bd .nil pass0 (pa_cons (pv 0) (pa_cons (pe_ix ix_list (pv 2) pe_int (fun _ _ => rfl)) (pa_cons (pe_ix ix_list (pv 2) pe_int (fun _ _ => rfl)) pa_nil)))) pa_nil)))) pss_nil)
      (pss_cons (ps_if (pt_cmpR op_eq (pv 1) (pe_glob (v := .int 5) rfl c5 ⟨_, rfl⟩) (nomark _)) (pss_one (ps_ret (pe_lst (pa_cons (pe_call G5 (hr.mono (by decide)) rfl D5.at_ D5.fn.kp D5.bd .nil pass0 (pa_cons (pv 0) (pa_cons (pv 3) pa_nil))) pa_nil)))) pss_nil)
      (pss_cons (ps_if (pt_cmpR op_eq (pv 1) (pe_glob (v := .int 6) rfl c6 ⟨_, rfl⟩) (nomark _)) (pss_one (ps_ret (pe_lst (pa_cons (pe_call G6 (hr.mono (by decide)) rfl D6.at_ D6.fn.kp D6.bd .nil pass0 (pa_cons (pv 0) (pa_cons (pe_ix ix_list (pv 2) pe_int (fun _ _ => rfl)) (pa_cons (pv 3) pa_nil)))) pa_nil)))) pss_nil)
      (pss_cons (ps_if (pt_cmpR op_eq (pv 1) (pe_glob (v := .int 7) rfl c7 ⟨_, rfl⟩) (nomark _)) (pss_one (ps_ret (pe_call G7 hr rfl D7.at_ D7.fn.kp D7.bd .nil pass0 (pa_cons (pv 0) (pa_cons (pe_ix ix_list (pv 2) pe_int (fun _ _ => rfl)) pa_nil))))) pss_nil)
      (pss_cons (ps_if (pt_cmpR op_eq (pv 1) (pe_glob (v := .int 8) rfl c8 ⟨_, rfl⟩) (nomark _)) (pss_one (ps_ret (pe_lst (pa_cons (pe_callB call_len_seq rfl T.len PySem.boot_len (pa_cons (pe_call G8 (hr.mono (by decide)) rfl D8.at_ D8.fn.kp D8.bd .nil pass0 (pa_cons (pv 0) pa_nil)) pa_nil)) pa_nil)))) pss_nil)
      (pss_cons (ps_if (pt_cmpR op_eq (pv 1) (pe_glob (v := .int 9) rfl c9 ⟨_, rfl⟩) (nomark _)) (pss_one (ps_ret (pe_call G9 hr rfl D9.at_ D9.fn.kp D9.bd .nil pass0 (pa_cons (pv 0) (pa_cons (pe_ix ix_list (pv 2) pe_int (fun _ _ => rfl)) pa_nil))))) pss_nil)
      (pss_cons (ps_if (pt_cmpR op_eq (pv 1) (pe_glob (v := .int 10) rfl c10 ⟨_, rfl⟩) (nomark _)) (pss_one (ps_ret (pe_call G10 hr rfl D10.at_ D10.fn.kp D10.bd .nil pass0 (pa_cons (pv 0) (pa_cons (pv 3) pa_nil))))) pss_nil)
      (pss_one (ps_ret (pe_lst (pa_cons (pe_call G11 (hr.mono (by decide)) rfl D11.at_ D11.fn.kp D11.bd .nil pass0 (pa_cons (pv 0) pa_nil)) pa_nil))))))))))))), ?_⟩
    have one : ∀ {H' : Hp} {z : Int}, ExtT Pt H H' → Tab Pt H' → ansOf X p nums row = [z] → (1 : Nat) ≤ sizeLine ∧ ∀ D, H' D = none → Q (.ref D) (upd H' D (.lst [V.int z])) := fun {H' z} x t e => by
      refine ⟨by decide, fun D hD => q D _ (x.trans (ExtT.of (Ext.new hD))) (ext_tab (Ext.new hD) t) (x.free t.tbl hD) ?_⟩
      rw [e]
      exact upd_same
    have hXr := hX.row
    rcases (show p = 1 ∨ p = 2 ∨ p = 3 ∨ p = 4 ∨ p = 5 ∨ p = 6 ∨ p = 7 ∨ p = 8 ∨ p = 9 ∨ p = 10 ∨ p = 11 by omega) with rfl | rfl | rfl | rfl | rfl | rfl | rfl | rfl | rfl | rfl | rfl
    · -- order
      have e : nums = [] := List.length_eq_zero_iff.mp hnl
      subst e
      refine ⟨_, rfl, rfl, _, rfl, ite2 (fun _ => ?_) (fun h => absurd (decide_eq_true (by decide)) h)⟩
      refine ⟨_, rfl, a, _, rfl, .inl hX.at_, (by show 1 ≤ sizeLine; decide), fun l hl => ?_⟩
      have x0 := Ext.new (o := .lst [V.int ((X.map V.int).length : Int)]) hl
      refine ⟨_, rfl, a, X, rfl, hX.ext x0, ext_tab x0 ht, fun D H' x t' hn hD => ?_⟩
      have hlP : l ≠ Pt := fun z => by
        obtain ⟨ps, e⟩ := ht.tbl
        rw [z, e] at hl
        cases hl
      have hl' : H' l = some (.lst [V.int ((X.map V.int).length : Int)]) := x _ _ upd_same hlP
      have xx : ExtT Pt H H' := (ExtT.of x0).trans x
      have hXl := hX.len
      refine ⟨l, D, _, _, rfl, rfl, hl', hD, ?_, fun r hr0 => q r _ (xx.trans (ExtT.of (Ext.new hr0))) (ext_tab (Ext.new hr0) t') (xx.free t'.tbl hr0) ?_⟩
      · have e3 : ((orderI X).map V.int).length = X.length := by
          rw [List.length_map, orderI_eq, List.length_map, ordN_len]
        rw [e3, List.length_singleton, sizeLine_eq]
        omega
      · rw [show ansOf X 1 [] row = ansOf0 X [[1]] from rfl, ans1, upd_same, List.length_map]
        rfl
    · -- place
      obtain ⟨k, rfl⟩ := nums_one hnl
      refine ⟨_, rfl, rfl, _, rfl, ite2 (fun h => absurd (of_decide_eq_true h) (by decide)) (fun _ => ?_)⟩
      refine ⟨_, rfl, rfl, _, rfl, ite2 (fun _ => ?_) (fun h => absurd (decide_eq_true (by decide)) h)⟩
      refine ⟨_, rfl, _, rfl, nb, _, _, V.int k, rfl, rfl, hnb, atI_nat (j := 0) rfl, a, X, k, rfl, hX, ht, (hnr k (by simp)).1, fun H' x t' => one x t' ?_⟩
      rw [show ansOf X 2 [k] row = ansOf0 X [[2, k]] from rfl, ans2]
      rfl
    · -- rank
      obtain ⟨k, rfl⟩ := nums_one hnl
      refine ⟨_, rfl, rfl, _, rfl, ite2 (fun h => absurd (of_decide_eq_true h) (by decide)) (fun _ => ?_)⟩
      refine ⟨_, rfl, rfl, _, rfl, ite2 (fun h => absurd (of_decide_eq_true h) (by decide)) (fun _ => ?_)⟩
      refine ⟨_, rfl, rfl, _, rfl, ite2 (fun _ => ?_) (fun h => absurd (decide_eq_true (by decide)) h)⟩
      refine ⟨_, rfl, _, rfl, nb, _, _, V.int k, rfl, rfl, hnb, atI_nat (j := 0) rfl, a, X, k, rfl, hX, ht, (hnr k (by simp)).1, fun H' x t' => one x t' ?_⟩
      rw [show ansOf X 3 [k] row = ansOf0 X [[3, k]] from rfl, ans3]
      rfl
    · -- common
      obtain ⟨k, l, rfl⟩ := nums_two hnl
      refine ⟨_, rfl, rfl, _, rfl, ite2 (fun h => absurd (of_decide_eq_true h) (by decide)) (fun _ => ?_)⟩
      refine ⟨_, rfl, rfl, _, rfl, ite2 (fun h => absurd (of_decide_eq_true h) (by decide)) (fun _ => ?_)⟩
      refine ⟨_, rfl, rfl, _, rfl, ite2 (fun h => absurd (of_decide_eq_true h) (by decide)) (fun _ => ?_)⟩
      refine ⟨_, rfl, rfl, _, rfl, ite2 (fun _ => ?_) (fun h => absurd (decide_eq_true (by decide)) h)⟩
      refine ⟨_, rfl, _, rfl, nb, _, _, V.int k, rfl, rfl, hnb, atI_nat (j := 0) rfl, _, rfl, nb, _, _, V.int l, rfl, rfl, hnb, atI_nat (j := 1) rfl, a, X, k, l, rfl, hX, (hnr k (by simp)).1, (hnr l (by simp)).1, one (ExtT.refl _ _) ht ?_⟩
      rw [show ansOf X 4 [k, l] row = ansOf0 X [[4, k, l]] from rfl, ans4]
      rfl
    · -- count
      have e : nums = [] := List.length_eq_zero_iff.mp hnl
      subst e
      refine ⟨_, rfl, rfl, _, rfl, ite2 (fun h => absurd (of_decide_eq_true h) (by decide)) (fun _ => ?_)⟩
      refine ⟨_, rfl, rfl, _, rfl, ite2 (fun h => absurd (of_decide_eq_true h) (by decide)) (fun _ => ?_)⟩
      refine ⟨_, rfl, rfl, _, rfl, ite2 (fun h => absurd (of_decide_eq_true h) (by decide)) (fun _ => ?_)⟩
      refine ⟨_, rfl, rfl, _, rfl, ite2 (fun h => absurd (of_decide_eq_true h) (by decide)) (fun _ => ?_)⟩
      refine ⟨_, rfl, rfl, _, rfl, ite2 (fun _ => ?_) (fun h => absurd (decide_eq_true (by decide)) h)⟩
      refine ⟨_, rfl, _, rfl, a, rb, X, row, rfl, hXr, hR, fun H' x => one (ExtT.of x) (ext_tab x ht) ?_⟩
      rw [show ansOf X 5 [] row = ansOf0 X [[5], row] from rfl, ans5 _ _ hR.len]
      rfl
    · -- find
      obtain ⟨k, rfl⟩ := nums_one hnl
      refine ⟨_, rfl, rfl, _, rfl, ite2 (fun h => absurd (of_decide_eq_true h) (by decide)) (fun _ => ?_)⟩
      refine ⟨_, rfl, rfl, _, rfl, ite2 (fun h => absurd (of_decide_eq_true h) (by decide)) (fun _ => ?_)⟩
      refine ⟨_, rfl, rfl, _, rfl, ite2 (fun h => absurd (of_decide_eq_true h) (by decide)) (fun _ => ?_)⟩
      refine ⟨_, rfl, rfl, _, rfl, ite2 (fun h => absurd (of_decide_eq_true h) (by decide)) (fun _ => ?_)⟩
      refine ⟨_, rfl, rfl, _, rfl, ite2 (fun h => absurd (of_decide_eq_true h) (by decide)) (fun _ => ?_)⟩
      refine ⟨_, rfl, rfl, _, rfl, ite2 (fun _ => ?_) (fun h => absurd (decide_eq_true (by decide)) h)⟩
      refine ⟨_, rfl, _, rfl, nb, _, _, V.int k, rfl, rfl, hnb, atI_nat (j := 0) rfl, _, rfl, a, rb, X, row, k, rfl, hXr, hR, (hnr k (by simp)).1, fun H' x => one (ExtT.of x) (ext_tab x ht) ?_⟩
      rw [show ansOf X 6 [k] row = ansOf0 X [[6, k], row] from rfl, ans6 _ _ _ hR.len]
      rfl
    · -- repeat
      obtain ⟨k, rfl⟩ := nums_one hnl
      refine ⟨_, rfl, rfl, _, rfl, ite2 (fun h => absurd (of_decide_eq_true h) (by decide)) (fun _ => ?_)⟩
      refine ⟨_, rfl, rfl, _, rfl, ite2 (fun h => absurd (of_decide_eq_true h) (by decide)) (fun _ => ?_)⟩
      refine ⟨_, rfl, rfl, _, rfl, ite2 (fun h => absurd (of_decide_eq_true h) (by decide)) (fun _ => ?_)⟩
      refine ⟨_, rfl, rfl, _, rfl, ite2 (fun h => absurd (of_decide_eq_true h) (by decide)) (fun _ => ?_)⟩
      refine ⟨_, rfl, rfl, _, rfl, ite2 (fun h => absurd (of_decide_eq_true h) (by decide)) (fun _ => ?_)⟩
      refine ⟨_, rfl, rfl, _, rfl, ite2 (fun h => absurd (of_decide_eq_true h) (by decide)) (fun _ => ?_)⟩
      refine ⟨_, rfl, rfl, _, rfl, ite2 (fun _ => ?_) (fun h => absurd (decide_eq_true (by decide)) h)⟩
      exact ⟨_, rfl, _, rfl, nb, _, _, V.int k, rfl, rfl, hnb, atI_nat (j := 0) rfl, a, X, k, rfl, hX, ht, (hnr k (by simp)).1, q⟩
    · -- different
      have e : nums = [] := List.length_eq_zero_iff.mp hnl
      subst e
      refine ⟨_, rfl, rfl, _, rfl, ite2 (fun h => absurd (of_decide_eq_true h) (by decide)) (fun _ => ?_)⟩
      refine ⟨_, rfl, rfl, _, rfl, ite2 (fun h => absurd (of_decide_eq_true h) (by decide)) (fun _ => ?_)⟩
      refine ⟨_, rfl, rfl, _, rfl, ite2 (fun h => absurd (of_decide_eq_true h) (by decide)) (fun _ => ?_)⟩
      refine ⟨_, rfl, rfl, _, rfl, ite2 (fun h => absurd (of_decide_eq_true h) (by decide)) (fun _ => ?_)⟩
      refine ⟨_, rfl, rfl, _, rfl, ite2 (fun h => absurd (of_decide_eq_true h) (by decide)) (fun _ => ?_)⟩
      refine ⟨_, rfl, rfl, _, rfl, ite2 (fun h => absurd (of_decide_eq_true h) (by decide)) (fun _ => ?_)⟩
      refine ⟨_, rfl, rfl, _, rfl, ite2 (fun h => absurd (of_decide_eq_true h) (by decide)) (fun _ => ?_)⟩
      refine ⟨_, rfl, rfl, _, rfl, ite2 (fun _ => ?_) (fun h => absurd (decide_eq_true (by decide)) h)⟩
      refine ⟨_, rfl, a, X, rfl, hX, ht, fun Da H1 xs L x1 t1 hnD hDa hrow hdif hxl => ?_⟩
      refine ⟨Da, _, rfl, .inl (.inl (.inl hDa)), one x1 t1 ?_⟩
      rw [show ansOf X 8 [] row = ansOf0 X [[8]] from rfl, ans8 hX.byt hdif, hrow.len]
    · -- nth
      obtain ⟨k, rfl⟩ := nums_one hnl
      refine ⟨_, rfl, rfl, _, rfl, ite2 (fun h => absurd (of_decide_eq_true h) (by decide)) (fun _ => ?_)⟩
      refine ⟨_, rfl, rfl, _, rfl, ite2 (fun h => absurd (of_decide_eq_true h) (by decide)) (fun _ => ?_)⟩
      refine ⟨_, rfl, rfl, _, rfl, ite2 (fun h => absurd (of_decide_eq_true h) (by decide)) (fun _ => ?_)⟩
      refine ⟨_, rfl, rfl, _, rfl, ite2 (fun h => absurd (of_decide_eq_true h) (by decide)) (fun _ => ?_)⟩
      refine ⟨_, rfl, rfl, _, rfl, ite2 (fun h => absurd (of_decide_eq_true h) (by decide)) (fun _ => ?_)⟩
      refine ⟨_, rfl, rfl, _, rfl, ite2 (fun h => absurd (of_decide_eq_true h) (by decide)) (fun _ => ?_)⟩
      refine ⟨_, rfl, rfl, _, rfl, ite2 (fun h => absurd (of_decide_eq_true h) (by decide)) (fun _ => ?_)⟩
      refine ⟨_, rfl, rfl, _, rfl, ite2 (fun h => absurd (of_decide_eq_true h) (by decide)) (fun _ => ?_)⟩
      refine ⟨_, rfl, rfl, _, rfl, ite2 (fun _ => ?_) (fun h => absurd (decide_eq_true (by decide)) h)⟩
      exact ⟨_, rfl, _, rfl, nb, _, _, V.int k, rfl, rfl, hnb, atI_nat (j := 0) rfl, a, X, k, rfl, hX, ht, (hnr k (by simp)).1, q⟩
    · -- shared
      have e : nums = [] := List.length_eq_zero_iff.mp hnl
      subst e
      refine ⟨_, rfl, rfl, _, rfl, ite2 (fun h => absurd (of_decide_eq_true h) (by decide)) (fun _ => ?_)⟩
      refine ⟨_, rfl, rfl, _, rfl, ite2 (fun h => absurd (of_decide_eq_true h) (by decide)) (fun _ => ?_)⟩
      refine ⟨_, rfl, rfl, _, rfl, ite2 (fun h => absurd (of_decide_eq_true h) (by decide)) (fun _ => ?_)⟩
      refine ⟨_, rfl, rfl, _, rfl, ite2 (fun h => absurd (of_decide_eq_true h) (by decide)) (fun _ => ?_)⟩
      refine ⟨_, rfl, rfl, _, rfl, ite2 (fun h => absurd (of_decide_eq_true h) (by decide)) (fun _ => ?_)⟩
      refine ⟨_, rfl, rfl, _, rfl, ite2 (fun h => absurd (of_decide_eq_true h) (by decide)) (fun _ => ?_)⟩
      refine ⟨_, rfl, rfl, _, rfl, ite2 (fun h => absurd (of_decide_eq_true h) (by decide)) (fun _ => ?_)⟩
      refine ⟨_, rfl, rfl, _, rfl, ite2 (fun h => absurd (of_decide_eq_true h) (by decide)) (fun _ => ?_)⟩
      refine ⟨_, rfl, rfl, _, rfl, ite2 (fun h => absurd (of_decide_eq_true h) (by decide)) (fun _ => ?_)⟩
      refine ⟨_, rfl, rfl, _, rfl, ite2 (fun _ => ?_) (fun h => absurd (decide_eq_true (by decide)) h)⟩
      exact ⟨_, rfl, _, rfl, a, rb, X, row, rfl, hX, hR, ht, q⟩
    · -- turn
      have e : nums = [] := List.length_eq_zero_iff.mp hnl
      subst e
      refine ⟨_, rfl, rfl, _, rfl, ite2 (fun h => absurd (of_decide_eq_true h) (by decide)) (fun _ => ?_)⟩
      refine ⟨_, rfl, rfl, _, rfl, ite2 (fun h => absurd (of_decide_eq_true h) (by decide)) (fun _ => ?_)⟩
      refine ⟨_, rfl, rfl, _, rfl, ite2 (fun h => absurd (of_decide_eq_true h) (by decide)) (fun _ => ?_)⟩
      refine ⟨_, rfl, rfl, _, rfl, ite2 (fun h => absurd (of_decide_eq_true h) (by decide)) (fun _ => ?_)⟩
      refine ⟨_, rfl, rfl, _, rfl, ite2 (fun h => absurd (of_decide_eq_true h) (by decide)) (fun _ => ?_)⟩
      refine ⟨_, rfl, rfl, _, rfl, ite2 (fun h => absurd (of_decide_eq_true h) (by decide)) (fun _ => ?_)⟩
      refine ⟨_, rfl, rfl, _, rfl, ite2 (fun h => absurd (of_decide_eq_true h) (by decide)) (fun _ => ?_)⟩
      refine ⟨_, rfl, rfl, _, rfl, ite2 (fun h => absurd (of_decide_eq_true h) (by decide)) (fun _ => ?_)⟩
      refine ⟨_, rfl, rfl, _, rfl, ite2 (fun h => absurd (of_decide_eq_true h) (by decide)) (fun _ => ?_)⟩
      refine ⟨_, rfl, rfl, _, rfl, ite2 (fun h => absurd (of_decide_eq_true h) (by decide)) (fun _ => ?_)⟩
      exact ⟨_, rfl, a, X, rfl, hX, fun H' z x hz => one (ExtT.of x) (ext_tab x ht) hz⟩
end
end L2
end
section
set_option Elab.async false
set_option linter.all false
set_option maxRecDepth 100000
set_option maxHeartbeats 4000000
namespace L2
open PySem PySem.W PySem.Spec PyProof.Rows Te
abbrev sMain : Stmt := topS 32

/-- how many whole numbers a call has; whether it has a row -/
def wnL : List Int := [0, 0, 1, 1, 2, 0, 1, 1, 0, 1, 0, 0]
def hrL : List Bool := [true, false, false, false, false, true, true, false, false, false, true, false]
theorem wnL_at {p : Int} (h : 0 ≤ p ∧ p ≤ 11) : atI (wnL.map V.int) p = some (V.int (wn p : Int)) := by
  obtain ⟨k, rfl, hk⟩ : ∃ k : Nat, p = (k : Int) ∧ k ≤ 11 := ⟨p.toNat, by omega, by omega⟩
  refine atI_nat ?_
  match k, hk with
  | 0, _ => rfl
  | 1, _ => rfl
  | 2, _ => rfl
  | 3, _ => rfl
  | 4, _ => rfl
  | 5, _ => rfl
  | 6, _ => rfl
  | 7, _ => rfl
  | 8, _ => rfl
  | 9, _ => rfl
  | 10, _ => rfl
  | 11, _ => rfl
  | k + 12, hk => omega
theorem hrL_at {p : Int} (h : 0 ≤ p ∧ p ≤ 11) : atI (hrL.map V.bl) p = some (V.bl (hr p)) := by
  obtain ⟨k, rfl, hk⟩ : ∃ k : Nat, p = (k : Int) ∧ k ≤ 11 := ⟨p.toNat, by omega, by omega⟩
  refine atI_nat ?_
  match k, hk with
  | 0, _ => rfl
  | 1, _ => rfl
  | 2, _ => rfl
  | 3, _ => rfl
  | 4, _ => rfl
  | 5, _ => rfl
  | 6, _ => rfl
  | 7, _ => rfl
  | 8, _ => rfl
  | 9, _ => rfl
  | 10, _ => rfl
  | 11, _ => rfl
  | k + 12, hk => omega
/-- the module's tables -/
structure Tabs (K : PySem.W.Frag) (mg : Str → Option Value) : Prop where
  wn : ∃ t, mg "WHOLE_NUMBERS" = some (.ref t) ∧ ∀ H, SqT K H t (wnL.map V.int)
  hr : ∃ t, mg "HAS_ROW" = some (.ref t) ∧ ∀ H, SqT K H t (hrL.map V.bl)
  start : ∃ t, mg "START" = some (.int 0 t)
theorem ans_start {T : List Int} {p : Int} {nums row : List Int} (hp : p = 0) (hn : nums.length = Te.wn p) (hr : row.length ≤ 20) : ansOf T p nums row = [0] := by
  subst hp
  have e : nums = [] := List.length_eq_zero_iff.mp hn
  subst e
  show (if Sh08.MOST < row.length then (Sh08Neutral.bytesOf T, [-1]) else (Sh08Neutral.bytesOf row, [0]) : Sh08.Bytes × List Int).2 = [0]
  rw [if_neg (by unfold Sh08.MOST; omega)]
def spMain (K : PySem.W.Frag) (Pt : Addr) : Sp := fun vs H Q _ => ∃ (c0 : Addr) (l : List Int), vs = [.ref c0] ∧ SqL K H c0 (l.map V.int) ∧ l.length ≤ 31000 ∧ PySh08.answers_asked l = true ∧ Tab Pt H ∧
  ∀ (D : Addr) (H' : Hp), H' D = some (.lst ((PySh08.answers l).map V.int)) → Q (.ref D) H'
section
variable {P : Program} {w : World} {K : PySem.W.Frag} {mg : Str → Option Value} {base : Heap}
theorem scMain : FnScope ["calls", "text", "given", "at", "number", "numbers", "row", "answered"] ["calls"] (defScope sMain) := ⟨rfl, rfl, rfl, by decide +kernel, rfl, by decide +kernel, by decide +kernel⟩
theorem ok_main {f fa Pt : Addr} {fd fda : FuncData} {st : Stmt} {k : Nat} (F : Fun K "answers" "answers" sMain f fd) (T : Txt K mg) (B : Tabs K mg) (DA : Def K mg "answer" st ["text", "number", "numbers", "row"] fa fda) (GA : FnOk P w K mg base CX0 k fa fda ["text", "number", "numbers", "row"] (spAnswer K Pt)) :
    FnOk P w K mg base CX0 (k + 1) f fd ["calls"] (spMain K Pt) := by
  refine F.ok scMain (fun vs H Q E h => ?_) (fun cdv A outer s H vs Q E hr h => ?_)
  · obtain ⟨a, X, rfl, _⟩ := h
    rfl
  · obtain ⟨c0, l, rfl, hc, hlen, hask, ht, q⟩ := h
    obtain ⟨tw, hwn, htw⟩ := B.wn
    obtain ⟨th, hhr, hth⟩ := B.hr
    obtain ⟨ts, hst⟩ := B.start
    refine ⟨_, pss_cons (ps_set (i := 1) scMain.nd rfl (Or.inl rfl) (pe_lst pa_nil))
      (pss_cons (ps_set (i := 2) scMain.nd rfl (Or.inl rfl) (pe_lst pa_nil))
      (pss_cons (ps_set (i := 3) scMain.nd rfl (Or.inl rfl) pe_int)
      (pss_cons (ps_while PassesOwn.never (pt_cmpR op_lt (pv 3) (pe_callB call_len_seq rfl T.len PySem.boot_len (pa_cons (pv 0) pa_nil)) (nomark _))
        (pss_cons (ps_set (i := 4) scMain.nd rfl (Or.inl rfl) (pe_ix ix_list (pv 0) (pv 3) (fun _ _ => rfl)))
        (pss_cons (ps_set (i := 3) scMain.nd rfl (Or.inl rfl) (pe_op op_add (pv 3) pe_int))
        (pss_cons (ps_set (i := 5) scMain.nd rfl (Or.inl rfl) (pe_slice sl_list (pv 0) (po_some (pv 3)) (po_some (pe_op op_add (pv 3) (pe_ix ix_tup (pe_glob (v := .ref tw) rfl hwn rfl) (pv 4) (fun _ _ => rfl))))))
        (pss_cons (ps_set (i := 3) scMain.nd rfl (Or.inl rfl) (pe_op op_add (pv 3) (pe_callB call_len_seq rfl T.len PySem.boot_len (pa_cons (pv 5) pa_nil))))
        (pss_cons (ps_set (i := 6) scMain.nd rfl (Or.inl rfl) (pe_lst pa_nil))
        (pss_cons (ps_cut (ps_if (pt_val (pe_ix ix_tup (pe_glob (v := .ref th) rfl hhr rfl) (pv 4) (fun _ _ => rfl)))
          (pss_cons (ps_set (i := 6) scMain.nd rfl (Or.inl rfl) (pe_slice sl_list (pv 0) (po_some (pe_op op_add (pv 3) pe_int)) (po_some (pe_op op_add (pe_op op_add (pv 3) pe_int) (pe_ix ix_list (pv 0) (pv 3) (fun _ _ => rfl))))))
          (pss_one (ps_set (i := 3) scMain.nd rfl (Or.inl rfl) (pe_op op_add (pe_op op_add (pv 3) pe_int) (pe_callB call_len_seq rfl T.len PySem.boot_len (pa_cons (pv 6) pa_nil)))))) pss_nil))
        (pss_cons (ps_cut (ps_if (pt_cmpR op_eq (pv 4) (pe_glob (v := .int 0) rfl hst ⟨_, rfl⟩) (nomark _))
          (pss_cons (ps_set (i := 1) scMain.nd rfl (Or.inl rfl) (pv 6)) (pss_one (ps_set (i := 7) scMain.nd rfl (Or.inl rfl) (pe_lst (pa_cons pe_int pa_nil)))))
          (pss_one (ps_set (i := 7) scMain.nd rfl (Or.inl rfl) (pe_call GA hr rfl DA.at_ DA.fn.kp DA.bd .nil pass0 (pa_cons (pv 1) (pa_cons (pv 4) (pa_cons (pv 5) (pa_cons (pv 6) pa_nil)))))))))
        (pss_cons (ps_expr (pe_bm PySem.F.plainAttrs_list PySem.F.slot_list_append PySem.F.type_list_append mt_append (pv 2) (pa_cons (pe_callB call_len_seq rfl T.len PySem.boot_len (pa_cons (pv 7) pa_nil)) pa_nil)))
        (pss_one (ps_expr (pe_bm PySem.F.plainAttrs_list PySem.F.slot_list_extend PySem.F.type_list_extend mt_extend (pv 2) (pa_cons (pv 7) pa_nil))))))))))))) 
      (pss_one (ps_ret (pv 2)))))), ?_⟩
    -- text = []; given = []; at = 0
    refine ⟨Nat.zero_le _, fun ta hta => ⟨Nat.zero_le _, fun g hg => ?_⟩⟩
    have hgta : ta ≠ g := ne_of_none (upd_same (H := H)) hg
    have hg0 : H g = none := (Ext.new hta).free hg
    have x0 : Ext H (upd (upd H ta (.lst [])) g (.lst [])) := (Ext.new hta).trans (Ext.new hg)
    refine ⟨fun m σ H' => ∃ (tx : Addr) (X G : List Int) (at0 : Nat) (v4 v5 v6 v7 : Option V), σ = [some (.ref c0), some (.ref tx), some (.ref g), some (.int (at0 : Int)), v4, v5, v6, v7] ∧ m = l.length - at0 ∧ Walk l at0 X G ∧
        ExtT Pt H H' ∧ Tab Pt H' ∧ TextAt K H' tx X ∧ tx ≠ g ∧ H' g = some (.lst (G.map V.int)),
      ⟨l.length, ta, [], [], 0, none, none, none, none, rfl, rfl, walk_start hask, ExtT.of x0, ext_tab x0 ht, ⟨.inl (.inl (by rw [upd_ne hgta]; exact upd_same)), Byt.nil, Nat.zero_le _⟩, hgta, upd_same⟩, ?_⟩
    rintro m σ H1 ⟨tx, X, G, at0, v4, v5, v6, v7, rfl, rfl, hW, hx, hT, hX, htg, hG⟩
    have hl : ((l.map V.int).length : Int) = (l.length : Int) := by rw [List.length_map]
    have hc1 : SqL K H1 c0 (l.map V.int) := hx.sqL ht.tbl hc
    refine ⟨_, rfl, _, rfl, c0, _, rfl, .inl hc1, _, _, rfl, rfl, _, rfl, ?_⟩
    rw [hl]
    refine ite2 (fun h1 => ?_) (fun h1 => ?_)
    · have h1 : at0 < l.length := by
        have := of_decide_eq_true h1
        omega
      obtain ⟨p, nums, row, hp, hp11, hnums, hnl, hb1, hnr, hrow, ha21, hG2, hW2⟩ := walk_turn hW h1
      refine ⟨fun σ' H' => ∃ m', m' < l.length - at0 ∧ ∃ (tx : Addr) (X G : List Int) (at0 : Nat) (v4 v5 v6 v7 : Option V), σ' = [some (.ref c0), some (.ref tx), some (.ref g), some (.int (at0 : Int)), v4, v5, v6, v7] ∧ m' = l.length - at0 ∧ Walk l at0 X G ∧
        ExtT Pt H H' ∧ Tab Pt H' ∧ TextAt K H' tx X ∧ tx ≠ g ∧ H' g = some (.lst (G.map V.int)), fun σ' H' h => h, ?_⟩
      -- number = calls[at]; at = at + 1
      refine ⟨_, rfl, _, rfl, c0, _, _, V.int p, rfl, rfl, hc1, atI_nat (by rw [List.getElem?_map, hp]; rfl), _, rfl, _, _, rfl, rfl, ?_⟩
      -- numbers = calls[at:at + WHOLE_NUMBERS[number]]
      refine ⟨_, rfl, _, rfl, _, rfl, _, rfl, _, rfl, tw, _, _, _, rfl, rfl, htw _, wnL_at hp11, _, _, rfl, rfl, _, rfl, c0, _, rfl, hc1, fun nb hnb => ?_⟩
      have c1 : ((at0 + 1 : Nat) : Int) = (at0 : Int) + 1 := by omega
      have ecut := cut_mid l (at0 + 1) (Te.wn p) hb1
      rw [c1, ← hnums] at ecut
      rw [show cutV (l.map V.int) (some ((at0 : Int) + 1)) (some ((at0 : Int) + 1 + (Te.wn p : Int))) = nums.map V.int from ecut]
      have x1 : Ext H1 (upd H1 nb (.lst (nums.map V.int))) := Ext.new hnb
      -- at = at + len(numbers); row = []
      refine ⟨_, rfl, _, rfl, nb, _, rfl, .inl (.inl (.inl upd_same)), _, _, rfl, rfl, Nat.zero_le _, fun rb hrb => ?_⟩
      have x2 : Ext H1 (upd (upd H1 nb (.lst (nums.map V.int))) rb (.lst [])) := x1.trans (Ext.new hrb)
      have hrg : rb ≠ g := Ne.symm (ne_of_none (x1 _ _ hG) hrb)
      have hnrb : nb ≠ rb := ne_of_none (upd_same (H := H1)) hrb
      have e2 : (at0 : Int) + 1 + ((nums.map V.int).length : Int) = ((at0 + 1 + Te.wn p : Nat) : Int) := by
        rw [List.length_map, hnl]
        omega
      -- if HAS_ROW[number]
      refine ⟨fun σ' H' => ∃ (rb' : Addr) (z : Int), z = ((behind (at0 + 1 + Te.wn p) p row : Nat) : Int) ∧ σ' = [some (.ref c0), some (.ref tx), some (.ref g), some (.int z), some (.int p), some (.ref nb), some (.ref rb'), v7] ∧ Ext H1 H' ∧
        H' nb = some (.lst (nums.map V.int)) ∧ H' rb' = some (.lst (row.map V.int)) ∧ rb' ≠ g, ?rest, ?one⟩
      case one =>
        refine ⟨_, rfl, th, _, _, _, rfl, rfl, hth _, hrL_at hp11, _, rfl, ?_⟩
        refine ite2 (fun h2 => ?_) (fun h2 => ?_)
        · obtain ⟨r1, r2, r3⟩ := hrow.yes h2
          have hcc : SqL K (upd (upd H1 nb (.lst (nums.map V.int))) rb (.lst [])) c0 (l.map V.int) := x2.sqL hc1
          have eix : atI (l.map V.int) ((at0 : Int) + 1 + ((nums.map V.int).length : Int)) = some (V.int (row.length : Int)) := by
            rw [e2]
            exact atI_nat (by rw [List.getElem?_map, r1]; rfl)
          refine ⟨_, rfl, _, rfl, _, _, rfl, rfl, _, rfl, _, rfl, _, _, rfl, rfl, _, rfl, _, rfl, c0, _, _, V.int (row.length : Int), rfl, rfl, hcc, eix, _, _, rfl, rfl, _, rfl, c0, _, rfl, hcc, fun rb2 hrb2 => ?_⟩
          have ecut2 : cutV (l.map V.int) (some ((at0 : Int) + 1 + ((nums.map V.int).length : Int) + 1)) (some ((at0 : Int) + 1 + ((nums.map V.int).length : Int) + 1 + (row.length : Int))) = row.map V.int := by
            have := cut_mid l (at0 + 1 + Te.wn p + 1) row.length r3
            rw [← r2] at this
            rw [e2]
            have c2 : ((at0 + 1 + Te.wn p + 1 : Nat) : Int) = ((at0 + 1 + Te.wn p : Nat) : Int) + 1 := by omega
            rw [c2] at this
            exact this
          rw [ecut2]
          have x3 := x2.trans (Ext.new (o := .lst (row.map V.int)) hrb2)
          refine ⟨_, rfl, _, _, rfl, rfl, _, rfl, rb2, _, rfl, .inl (.inl (.inl upd_same)), _, _, rfl, rfl, rb2, _, ?_, rfl, x3, ?_, upd_same, Ne.symm (ne_of_none (x2 _ _ hG) hrb2)⟩
          · unfold behind
            rw [if_pos h2, e2, List.length_map]
            omega
          · rw [upd_ne (ne_of_none (by rw [upd_ne hnrb]; exact upd_same) hrb2), upd_ne hnrb]
            exact upd_same
        · have h2 : Te.hr p = false := by
            cases z : Te.hr p with
            | false => rfl
            | true => exact absurd z h2
          refine ⟨rb, _, ?_, rfl, x2, ?_, ?_, hrg⟩
          · unfold behind
            rw [h2, e2]
            rfl
          · rw [upd_ne hnrb]
            exact upd_same
          · rw [hrow.no h2]
            exact upd_same
      case rest =>
        rintro σ' H3 ⟨rb', z, rfl, rfl, x3, hnb3, hrb3, hrg3⟩
        have hX3 : TextAt K H3 tx X := hX.ext x3
        have hG3 : H3 g = some (.lst (G.map V.int)) := x3 _ _ hG
        have hT3 : Tab Pt H3 := ext_tab x3 hT
        have hR3 : RowOf K H3 rb' row := ⟨.inl (.inl hrb3), hrow.byt, hrow.le⟩
        refine ⟨fun σ' H' => ∃ (tx' ab : Addr) (v6 : Option V), σ' = [some (.ref c0), some (.ref tx'), some (.ref g), some (.int ((behind (at0 + 1 + Te.wn p) p row : Nat) : Int)), some (.int p), some (.ref nb), v6, some (.ref ab)] ∧ ExtT Pt H1 H' ∧ Tab Pt H' ∧
          TextAt K H' tx' (if p = 0 then row else X) ∧ tx' ≠ g ∧ H' ab = some (.lst ((ansOf X p nums row).map V.int)) ∧ ab ≠ g, ?rest2, ?two⟩
        case two =>
          refine ⟨_, rfl, rfl, _, rfl, ?_⟩
          refine ite2 (fun h2 => ?_) (fun h2 => ?_)
          · have h2 : p = 0 := by
              have := of_decide_eq_true h2
              simpa using this
            refine ⟨_, rfl, (by show 1 ≤ sizeLine; decide), fun ab hab => ⟨rb', ab, _, rfl, ExtT.of (x3.trans (Ext.new hab)), ext_tab (Ext.new hab) hT3, ?_, hrg3, ?_, Ne.symm (ne_of_none hG3 hab)⟩⟩
            · rw [if_pos h2]
              exact ⟨.inl (.inl (Ext.new hab _ _ hrb3)), hrow.byt, hrow.le0 h2⟩
            · rw [ans_start h2 hnl (hrow.le0 h2)]
              exact upd_same
          · have h2 : ¬ p = 0 := fun z => h2 (decide_eq_true (by rw [z]))
            refine ⟨_, rfl, _, rfl, _, rfl, _, rfl, tx, nb, rb', X, nums, row, p, rfl, hX3, hT3, ⟨by omega, hp11.2⟩, .inl (.inl hnb3), hnl, hnr, hR3, fun D H' x t' hn hD => ?_⟩
            refine ⟨tx, D, _, rfl, (ExtT.of x3).trans x, t', ?_, htg, hD, Ne.symm (ne_of_none hG3 hn)⟩
            rw [if_neg h2]
            exact hX3.extT x hT3
        case rest2 =>
          rintro σ' H4 ⟨tx', ab, v6, rfl, x4, t4, hX4, htg4, hab, habg⟩
          have hgP : g ≠ Pt := fun z => by
            obtain ⟨ps, e⟩ := hT.tbl
            rw [z, e] at hG
            cases hG
          have hG4 : H4 g = some (.lst (G.map V.int)) := x4 _ _ hG hgP
          have hal : (ansOf X p nums row).length ≤ 21 := ha21
          have hsl : sizeLine = 16777216 := by rw [sizeLine_eq]
          refine ⟨_, rfl, .inl ⟨rfl, _, .inl (.inl hG4)⟩, _, rfl, ab, _, rfl, .inl (.inl (.inl hab)), g, _, _, rfl, rfl, hG4, (by rw [List.length_map]; omega), ?_⟩
          have hab5 : upd H4 g (.lst (G.map V.int ++ [V.int (((ansOf X p nums row).map V.int).length : Int)])) ab = some (.lst ((ansOf X p nums row).map V.int)) := by
            rw [upd_ne habg]
            exact hab
          refine ⟨_, rfl, .inl ⟨rfl, _, .inl (.inl upd_same)⟩, _, rfl, g, ab, _, _, rfl, rfl, upd_same, hab5, (by rw [List.length_append, List.length_map, List.length_map, List.length_singleton]; omega), ?_⟩
          have hbl : at0 < behind (at0 + 1 + Te.wn p) p row := by
            unfold behind
            split <;> omega
          refine ⟨l.length - behind (at0 + 1 + Te.wn p) p row, ?_, tx', _, _, behind (at0 + 1 + Te.wn p) p row, _, _, _, _, rfl, rfl, hW2, ?_, ?_, ?_, htg4, ?_⟩
          · omega
          · exact ((hx.trans x4).at_ hg0).at_ hg0
          · exact (t4.at_ hG4).at_ upd_same
          · exact (hX4.upd_ne' htg4).upd_ne' htg4
          · rw [upd_same]
            congr 2
            rw [List.map_append, List.map_cons, List.append_assoc, List.length_map]
            rfl
    · have h1 : l.length ≤ at0 := by
        have : ¬ (at0 : Int) < (l.length : Int) := fun z => h1 (decide_eq_true z)
        omega
      have e : at0 = l.length := Nat.le_antisymm hW.le h1
      subst e
      refine ⟨_, rfl, q g H1 ?_⟩
      rw [walk_end hW]
      exact hG
end
end L2
end
section
set_option Elab.async false
set_option linter.all false
set_option maxRecDepth 100000
set_option maxHeartbeats 8000000
namespace L2
open PySem PySem.W PySem.Spec PyProof.Rows Te
/-- a tuple of the module, by its items -/
def tupIn (K : PySem.W.Frag) (a : Addr) : Option (List V) := match K.lookup a with
  | some ⟨.type n, _, .seq its _, _⟩ => if (n == "tuple") = true ∧ its.size ≤ 1000 then its.toList.mapM absV else none
  | _ => none
theorem rel_of_abs {u : Value} {x : V} (h : absV u = some x) : RelV x u := by
  cases u <;> first | (cases h; first | rfl | exact ⟨_, rfl⟩) | cases h
theorem vals_of_abs : ∀ {us : List Value} {xs : List V}, us.mapM absV = some xs → Vals xs us
  | [], xs, h => by
    rw [List.mapM_nil] at h
    cases h
    exact .nil
  | u :: us, xs, h => by
    rw [List.mapM_cons] at h
    cases e1 : absV u with
    | none =>
      rw [e1] at h
      cases h
    | some x =>
      rw [e1] at h
      cases e2 : us.mapM absV with
      | none =>
        simp [e2] at h
      | some ys =>
        simp [e2] at h
        subst h
        exact .cons (rel_of_abs e1) (vals_of_abs e2)
theorem tupIn_sq {K : PySem.W.Frag} {a : Addr} {xs : List V} (h : tupIn K a = some xs) (H : Hp) : SqT K H a xs := by
  unfold tupIn at h
  split at h
  · rename_i n d its m sl e
    split at h
    · rename_i c
      refine .inr ⟨_, its, m, e, ?_, rfl, ?_, vals_of_abs h⟩
      · show Value.type n = _
        rw [eq_of_beq c.1]
      · rw [sizeLine_eq]
        omega
    · cases h
  · cases h
/-- what the top has written: the defs, by their places -/
theorem all_mk {P : Program} {w : World} {K : PySem.W.Frag} {h : Heap} {mg : Str → Option Value} {fa c Pt tw th f17 f18 f19 f20 f21 f22 f23 f24 f25 f26 f27 f28 f29 f30 f31 f32 : Addr} (X : K.In h) (G : h.Ns mainGlobals mg) (hfa : mg "answers" = some (.ref fa))
    {od17 an17 od18 an18 od19 an19 od20 an20 od21 an21 od22 an22 od23 an23 od24 an24 od25 an25 od26 an26 od27 an27 od28 an28 od29 an29 od30 an30 od31 an31 od32 an32 : Option Addr} {sl17 sl18 sl19 sl20 sl21 sl22 sl23 sl24 sl25 sl26 sl27 sl28 sl29 sl30 sl31 sl32 : Array (Option Value)} {oc17 kV17 dc17 pm17 ct17 oc18 kV18 dc18 pm18 ct18 cd18 oc19 kV19 dc19 pm19 ct19 cd19 oc20 kV20 dc20 pm20 ct20 cd20 oc21 kV21 dc21 pm21 ct21 cd21 oc22 kV22 dc22 pm22 ct22 cd22 oc23 kV23 dc23 pm23 ct23 cd23 oc24 kV24 dc24 pm24 ct24 cd24 oc25 kV25 dc25 pm25 ct25 cd25 oc26 kV26 dc26 pm26 ct26 cd26 oc27 kV27 dc27 pm27 ct27 cd27 oc28 kV28 dc28 pm28 ct28 cd28 oc29 kV29 dc29 pm29 ct29 cd29 oc30 kV30 dc30 pm30 ct30 cd30 oc31 kV31 dc31 pm31 ct31 cd31 oc32 kV32 dc32 pm32 ct32 cd32 : Value} {t0 t1 t2 t3 t4 t5 t6 t7 t8 t9 t10 t11 t12 t13 : Tok}
    (a17 : PySem.W.nsIn K mainGlobals "places_in_order" = some (some (.ref f17))) (l17 : K.lookup f17 = some ⟨oc17, od17, .func (PySem.W.fnOf "places_in_order" "places_in_order" (defArgs sOrd) (defBody sOrd) (defScope sOrd) .none kV17 dc17 pm17 an17 (.ref c) ct17), sl17⟩) (c17 : PySem.W.codeIn K (.ref c) "places_in_order" = true) (k17 : PySem.W.keepIn K (.ref f17) = true)
    (a18 : PySem.W.nsIn K mainGlobals "kth_place" = some (some (.ref f18))) (l18 : K.lookup f18 = some ⟨oc18, od18, .func (PySem.W.fnOf "kth_place" "kth_place" (defArgs sKth) (defBody sKth) (defScope sKth) .none kV18 dc18 pm18 an18 cd18 ct18), sl18⟩) (c18 : PySem.W.codeIn K cd18 "kth_place" = true) (k18 : PySem.W.keepIn K (.ref f18) = true)
    (a19 : PySem.W.nsIn K mainGlobals "rank_of" = some (some (.ref f19))) (l19 : K.lookup f19 = some ⟨oc19, od19, .func (PySem.W.fnOf "rank_of" "rank_of" (defArgs sRnk) (defBody sRnk) (defScope sRnk) .none kV19 dc19 pm19 an19 cd19 ct19), sl19⟩) (c19 : PySem.W.codeIn K cd19 "rank_of" = true) (k19 : PySem.W.keepIn K (.ref f19) = true)
    (a20 : PySem.W.nsIn K mainGlobals "common_length" = some (some (.ref f20))) (l20 : K.lookup f20 = some ⟨oc20, od20, .func (PySem.W.fnOf "common_length" "common_length" (defArgs sCom) (defBody sCom) (defScope sCom) .none kV20 dc20 pm20 an20 cd20 ct20), sl20⟩) (c20 : PySem.W.codeIn K cd20 "common_length" = true) (k20 : PySem.W.keepIn K (.ref f20) = true)
    (a21 : PySem.W.nsIn K mainGlobals "places_of" = some (some (.ref f21))) (l21 : K.lookup f21 = some ⟨oc21, od21, .func (PySem.W.fnOf "places_of" "places_of" (defArgs sPl) (defBody sPl) (defScope sPl) .none kV21 dc21 pm21 an21 cd21 ct21), sl21⟩) (c21 : PySem.W.codeIn K cd21 "places_of" = true) (k21 : PySem.W.keepIn K (.ref f21) = true)
    (a22 : PySem.W.nsIn K mainGlobals "count_of" = some (some (.ref f22))) (l22 : K.lookup f22 = some ⟨oc22, od22, .func (PySem.W.fnOf "count_of" "count_of" (defArgs sCnt) (defBody sCnt) (defScope sCnt) .none kV22 dc22 pm22 an22 cd22 ct22), sl22⟩) (c22 : PySem.W.codeIn K cd22 "count_of" = true) (k22 : PySem.W.keepIn K (.ref f22) = true)
    (a23 : PySem.W.nsIn K mainGlobals "kth_place_of" = some (some (.ref f23))) (l23 : K.lookup f23 = some ⟨oc23, od23, .func (PySem.W.fnOf "kth_place_of" "kth_place_of" (defArgs sKpo) (defBody sKpo) (defScope sKpo) .none kV23 dc23 pm23 an23 cd23 ct23), sl23⟩) (c23 : PySem.W.codeIn K cd23 "kth_place_of" = true) (k23 : PySem.W.keepIn K (.ref f23) = true)
    (a24 : PySem.W.nsIn K mainGlobals "first_place_of" = some (some (.ref f24))) (l24 : K.lookup f24 = some ⟨oc24, od24, .func (PySem.W.fnOf "first_place_of" "first_place_of" (defArgs sFpo) (defBody sFpo) (defScope sFpo) .none kV24 dc24 pm24 an24 cd24 ct24), sl24⟩) (c24 : PySem.W.codeIn K cd24 "first_place_of" = true) (k24 : PySem.W.keepIn K (.ref f24) = true)
    (a25 : PySem.W.nsIn K mainGlobals "different_pieces" = some (some (.ref f25))) (l25 : K.lookup f25 = some ⟨oc25, od25, .func (PySem.W.fnOf "different_pieces" "different_pieces" (defArgs sDif) (defBody sDif) (defScope sDif) .none kV25 dc25 pm25 an25 cd25 ct25), sl25⟩) (c25 : PySem.W.codeIn K cd25 "different_pieces" = true) (k25 : PySem.W.keepIn K (.ref f25) = true)
    (a26 : PySem.W.nsIn K mainGlobals "longest_first" = some (some (.ref f26))) (l26 : K.lookup f26 = some ⟨oc26, od26, .func (PySem.W.fnOf "longest_first" "longest_first" (defArgs sLf) (defBody sLf) (defScope sLf) .none kV26 dc26 pm26 an26 cd26 ct26), sl26⟩) (c26 : PySem.W.codeIn K cd26 "longest_first" = true) (k26 : PySem.W.keepIn K (.ref f26) = true)
    (a27 : PySem.W.nsIn K mainGlobals "longest_repeated" = some (some (.ref f27))) (l27 : K.lookup f27 = some ⟨oc27, od27, .func (PySem.W.fnOf "longest_repeated" "longest_repeated" (defArgs sRep) (defBody sRep) (defScope sRep) .none kV27 dc27 pm27 an27 cd27 ct27), sl27⟩) (c27 : PySem.W.codeIn K cd27 "longest_repeated" = true) (k27 : PySem.W.keepIn K (.ref f27) = true)
    (a28 : PySem.W.nsIn K mainGlobals "kth_different" = some (some (.ref f28))) (l28 : K.lookup f28 = some ⟨oc28, od28, .func (PySem.W.fnOf "kth_different" "kth_different" (defArgs sKdf) (defBody sKdf) (defScope sKdf) .none kV28 dc28 pm28 an28 cd28 ct28), sl28⟩) (c28 : PySem.W.codeIn K cd28 "kth_different" = true) (k28 : PySem.W.keepIn K (.ref f28) = true)
    (a29 : PySem.W.nsIn K mainGlobals "longest_shared" = some (some (.ref f29))) (l29 : K.lookup f29 = some ⟨oc29, od29, .func (PySem.W.fnOf "longest_shared" "longest_shared" (defArgs sShr) (defBody sShr) (defScope sShr) .none kV29 dc29 pm29 an29 cd29 ct29), sl29⟩) (c29 : PySem.W.codeIn K cd29 "longest_shared" = true) (k29 : PySem.W.keepIn K (.ref f29) = true)
    (a30 : PySem.W.nsIn K mainGlobals "first_turn" = some (some (.ref f30))) (l30 : K.lookup f30 = some ⟨oc30, od30, .func (PySem.W.fnOf "first_turn" "first_turn" (defArgs sTrn) (defBody sTrn) (defScope sTrn) .none kV30 dc30 pm30 an30 cd30 ct30), sl30⟩) (c30 : PySem.W.codeIn K cd30 "first_turn" = true) (k30 : PySem.W.keepIn K (.ref f30) = true)
    (a31 : PySem.W.nsIn K mainGlobals "answer" = some (some (.ref f31))) (l31 : K.lookup f31 = some ⟨oc31, od31, .func (PySem.W.fnOf "answer" "answer" (defArgs sAns) (defBody sAns) (defScope sAns) .none kV31 dc31 pm31 an31 cd31 ct31), sl31⟩) (c31 : PySem.W.codeIn K cd31 "answer" = true) (k31 : PySem.W.keepIn K (.ref f31) = true)
    (a32 : PySem.W.nsIn K mainGlobals "answers" = some (some (.ref f32))) (l32 : K.lookup f32 = some ⟨oc32, od32, .func (PySem.W.fnOf "answers" "answers" (defArgs sMain) (defBody sMain) (defScope sMain) .none kV32 dc32 pm32 an32 cd32 ct32), sl32⟩) (c32 : PySem.W.codeIn K cd32 "answers" = true) (k32 : PySem.W.keepIn K (.ref f32) = true)
    (b0 : PySem.W.nsIn K mainGlobals "len" = some none)
    (b1 : PySem.W.nsIn K mainGlobals "range" = some none)
    (b2 : PySem.W.nsIn K mainGlobals "sorted" = some none)
    (b3 : PySem.W.nsIn K mainGlobals "max" = some none)
    (b4 : PySem.W.nsIn K mainGlobals "min" = some none)
    (e0 : PySem.W.nsIn K mainGlobals "NO_BYTE" = some (some (.int (-1) t0)))
    (e1 : PySem.W.nsIn K mainGlobals "OUT_OF_REACH" = some (some (.int (-2) t1)))
    (e2 : PySem.W.nsIn K mainGlobals "NO_TIMES" = some (some (.int (-1) t2)))
    (e3 : PySem.W.nsIn K mainGlobals "START" = some (some (.int 0 t3)))
    (e4 : PySem.W.nsIn K mainGlobals "ORDER" = some (some (.int 1 t4)))
    (e5 : PySem.W.nsIn K mainGlobals "PLACE" = some (some (.int 2 t5)))
    (e6 : PySem.W.nsIn K mainGlobals "RANK" = some (some (.int 3 t6)))
    (e7 : PySem.W.nsIn K mainGlobals "COMMON" = some (some (.int 4 t7)))
    (e8 : PySem.W.nsIn K mainGlobals "COUNT" = some (some (.int 5 t8)))
    (e9 : PySem.W.nsIn K mainGlobals "FIND" = some (some (.int 6 t9)))
    (e10 : PySem.W.nsIn K mainGlobals "REPEAT" = some (some (.int 7 t10)))
    (e11 : PySem.W.nsIn K mainGlobals "DIFFERENT" = some (some (.int 8 t11)))
    (e12 : PySem.W.nsIn K mainGlobals "NTH" = some (some (.int 9 t12)))
    (e13 : PySem.W.nsIn K mainGlobals "SHARED" = some (some (.int 10 t13)))
    (aw : PySem.W.nsIn K mainGlobals "WHOLE_NUMBERS" = some (some (.ref tw))) (lw : tupIn K tw = some (wnL.map V.int)) (ah : PySem.W.nsIn K mainGlobals "HAS_ROW" = some (some (.ref th))) (lh : tupIn K th = some (hrL.map V.bl)) :
    ∃ fd : FuncData, (∀ (s : Shared) (us : List Value), us.length = (["calls"] : List Str).length → BindsTo s fd ⟨us, []⟩ ((["calls"] : List Str).zip us)) ∧
      ∀ base : Heap, K.In base → base.Ns mainGlobals mg → CodeHd base c Pt → base.BuiltinsAt mg Pt → mainGlobals ≠ Pt → FnOk P w K mg base CX0 6 fa fd ["calls"] (spMain K Pt) := by
  have e := hfa.symm.trans (PySem.W.mg_of X G a32)
  cases e
  have T : Txt K mg := ⟨PySem.W.mg_none_of X G b0, PySem.W.mg_none_of X G b1, PySem.W.mg_none_of X G b2, PySem.W.mg_none_of X G b3, PySem.W.mg_none_of X G b4, ⟨_, PySem.W.mg_of X G e0⟩, ⟨_, PySem.W.mg_of X G e1⟩, ⟨_, PySem.W.mg_of X G e2⟩⟩
  have N : Nums mg := ⟨⟨_, PySem.W.mg_of X G e4⟩, ⟨_, PySem.W.mg_of X G e5⟩, ⟨_, PySem.W.mg_of X G e6⟩, ⟨_, PySem.W.mg_of X G e7⟩, ⟨_, PySem.W.mg_of X G e8⟩, ⟨_, PySem.W.mg_of X G e9⟩, ⟨_, PySem.W.mg_of X G e10⟩, ⟨_, PySem.W.mg_of X G e11⟩, ⟨_, PySem.W.mg_of X G e12⟩, ⟨_, PySem.W.mg_of X G e13⟩⟩
  have B : Tabs K mg := ⟨⟨tw, PySem.W.mg_of X G aw, tupIn_sq lw⟩, ⟨th, PySem.W.mg_of X G ah, tupIn_sq lh⟩, ⟨_, PySem.W.mg_of X G e3⟩⟩
  have F17 := fun_mk (st := sOrd) l17 c17 k17
  have d17 : Def K mg "places_in_order" sOrd ["text"] f17 _ := ⟨F17, PySem.W.mg_of X G a17, F17.binds (ps := ["text"]) fun _ _ _ _ _ _ us hl => match us, hl with | [_], _ => rfl⟩
  have F18 := fun_mk (st := sKth) l18 c18 k18
  have d18 : Def K mg "kth_place" sKth ["text", "k"] f18 _ := ⟨F18, PySem.W.mg_of X G a18, F18.binds (ps := ["text", "k"]) fun _ _ _ _ _ _ us hl => match us, hl with | [_, _], _ => rfl⟩
  have F19 := fun_mk (st := sRnk) l19 c19 k19
  have d19 : Def K mg "rank_of" sRnk ["text", "i"] f19 _ := ⟨F19, PySem.W.mg_of X G a19, F19.binds (ps := ["text", "i"]) fun _ _ _ _ _ _ us hl => match us, hl with | [_, _], _ => rfl⟩
  have F20 := fun_mk (st := sCom) l20 c20 k20
  have d20 : Def K mg "common_length" sCom ["text", "i", "j"] f20 _ := ⟨F20, PySem.W.mg_of X G a20, F20.binds (ps := ["text", "i", "j"]) fun _ _ _ _ _ _ us hl => match us, hl with | [_, _, _], _ => rfl⟩
  have F21 := fun_mk (st := sPl) l21 c21 k21
  have d21 : Def K mg "places_of" sPl ["text", "piece"] f21 _ := ⟨F21, PySem.W.mg_of X G a21, F21.binds (ps := ["text", "piece"]) fun _ _ _ _ _ _ us hl => match us, hl with | [_, _], _ => rfl⟩
  have F22 := fun_mk (st := sCnt) l22 c22 k22
  have d22 : Def K mg "count_of" sCnt ["text", "piece"] f22 _ := ⟨F22, PySem.W.mg_of X G a22, F22.binds (ps := ["text", "piece"]) fun _ _ _ _ _ _ us hl => match us, hl with | [_, _], _ => rfl⟩
  have F23 := fun_mk (st := sKpo) l23 c23 k23
  have d23 : Def K mg "kth_place_of" sKpo ["text", "k", "piece"] f23 _ := ⟨F23, PySem.W.mg_of X G a23, F23.binds (ps := ["text", "k", "piece"]) fun _ _ _ _ _ _ us hl => match us, hl with | [_, _, _], _ => rfl⟩
  have F24 := fun_mk (st := sFpo) l24 c24 k24
  have d24 : Def K mg "first_place_of" sFpo ["text", "piece"] f24 _ := ⟨F24, PySem.W.mg_of X G a24, F24.binds (ps := ["text", "piece"]) fun _ _ _ _ _ _ us hl => match us, hl with | [_, _], _ => rfl⟩
  have F25 := fun_mk (st := sDif) l25 c25 k25
  have d25 : Def K mg "different_pieces" sDif ["text"] f25 _ := ⟨F25, PySem.W.mg_of X G a25, F25.binds (ps := ["text"]) fun _ _ _ _ _ _ us hl => match us, hl with | [_], _ => rfl⟩
  have F26 := fun_mk (st := sLf) l26 c26 k26
  have d26 : Def K mg "longest_first" sLf ["pieces"] f26 _ := ⟨F26, PySem.W.mg_of X G a26, F26.binds (ps := ["pieces"]) fun _ _ _ _ _ _ us hl => match us, hl with | [_], _ => rfl⟩
  have F27 := fun_mk (st := sRep) l27 c27 k27
  have d27 : Def K mg "longest_repeated" sRep ["text", "times"] f27 _ := ⟨F27, PySem.W.mg_of X G a27, F27.binds (ps := ["text", "times"]) fun _ _ _ _ _ _ us hl => match us, hl with | [_, _], _ => rfl⟩
  have F28 := fun_mk (st := sKdf) l28 c28 k28
  have d28 : Def K mg "kth_different" sKdf ["text", "k"] f28 _ := ⟨F28, PySem.W.mg_of X G a28, F28.binds (ps := ["text", "k"]) fun _ _ _ _ _ _ us hl => match us, hl with | [_, _], _ => rfl⟩
  have F29 := fun_mk (st := sShr) l29 c29 k29
  have d29 : Def K mg "longest_shared" sShr ["text", "other"] f29 _ := ⟨F29, PySem.W.mg_of X G a29, F29.binds (ps := ["text", "other"]) fun _ _ _ _ _ _ us hl => match us, hl with | [_, _], _ => rfl⟩
  have F30 := fun_mk (st := sTrn) l30 c30 k30
  have d30 : Def K mg "first_turn" sTrn ["text"] f30 _ := ⟨F30, PySem.W.mg_of X G a30, F30.binds (ps := ["text"]) fun _ _ _ _ _ _ us hl => match us, hl with | [_], _ => rfl⟩
  have F31 := fun_mk (st := sAns) l31 c31 k31
  have d31 : Def K mg "answer" sAns ["text", "number", "numbers", "row"] f31 _ := ⟨F31, PySem.W.mg_of X G a31, F31.binds (ps := ["text", "number", "numbers", "row"]) fun _ _ _ _ _ _ us hl => match us, hl with | [_, _, _, _], _ => rfl⟩
  have F32 := fun_mk (st := sMain) l32 c32 k32
  refine ⟨PySem.W.fnOf "answers" "answers" (defArgs sMain) (defBody sMain) (defScope sMain) .none kV32 dc32 pm32 an32 cd32 ct32, fun s us hu => match us, hu with | [_], _ => .of_eq rfl, fun base _ _ hC hB hG => ?_⟩
  have G17 : FnOk P w K mg base CX0 2 f17 _ ["text"] (spOrd K Pt) := ok_ord F17 rfl T hC hB hG
  have G20 : FnOk P w K mg base CX0 1 f20 _ ["text", "i", "j"] (spCom K) := ok_com F20 T
  have G21 : FnOk P w K mg base CX0 2 f21 _ ["text", "piece"] (spPl K) := ok_pl F21 T
  have G18 := ok_kth F18 T d17 G17
  have G19 := ok_rnk F19 T d17 G17
  have G22 := ok_cnt F22 T d21 G21
  have G23 := ok_kpo F23 T d21 G21
  have G24 := ok_fpo F24 T d21 G21
  have G25 := ok_dif F25 T d17 G17 d20 G20
  have G26 : FnOk P w K mg base CX0 1 f26 _ ["pieces"] (spLf K) := ok_lf F26 T
  have G27 := ok_rep F27 T d25 G25 d26 G26 d22 G22 d24 G24
  have G28 := ok_kdf F28 T d25 G25 d24 G24
  have G29 := ok_shr F29 T d25 G25 d26 G26 d22 G22 d24 G24
  have G30 : FnOk P w K mg base CX0 1 f30 _ ["text"] (spTrn K) := ok_trn F30 T
  have G31 := ok_ans F31 T N d17 G17 d18 G18 d19 G19 d20 G20 d22 G22 d23 G23 d27 G27 d25 G25 d28 G28 d29 G29 d30 G30
  exact ok_main F32 T B d31 G31
end L2
open PySem PySem.W PyProof.Rows
set_option maxRecDepth 100000 in
set_option maxHeartbeats 0 in
theorem PySem.Challenge.cw_textendings_s01_answers_holds : PySem.Challenge.rw_textendings_s01_answers.Holds := by
  w_on; k_headS; (case hw => exact ⟨[.list [.int 0, .int 0]], by decide +kernel, by decide +kernel⟩)
  k_fillS
  refine L2.walk_specT (r := PySem.Challenge.rw_textendings_s01_answers) (k := 6) (ps := ["calls"]) (sp := L2.spMain) (x := "places_in_order") (c := 22) (Pt := 18) (by decide +kernel) rfl rfl ⟨rfl, by decide, by decide⟩ rfl (fun w => by kernel_rfl) (fun w => by kernel_rfl) (fun w h Y => PySem.W.kIn_of Y) ?F ?S
  case F =>
    intro w mg fa h Y KX G hmg
    refine' L2.all_mk KX G hmg ?a17 ?l17 ?c17 ?k17 ?a18 ?l18 ?c18 ?k18 ?a19 ?l19 ?c19 ?k19 ?a20 ?l20 ?c20 ?k20 ?a21 ?l21 ?c21 ?k21 ?a22 ?l22 ?c22 ?k22 ?a23 ?l23 ?c23 ?k23 ?a24 ?l24 ?c24 ?k24 ?a25 ?l25 ?c25 ?k25 ?a26 ?l26 ?c26 ?k26 ?a27 ?l27 ?c27 ?k27 ?a28 ?l28 ?c28 ?k28 ?a29 ?l29 ?c29 ?k29 ?a30 ?l30 ?c30 ?k30 ?a31 ?l31 ?c31 ?k31 ?a32 ?l32 ?c32 ?k32 ?b0 ?b1 ?b2 ?b3 ?b4 ?e0 ?e1 ?e2 ?e3 ?e4 ?e5 ?e6 ?e7 ?e8 ?e9 ?e10 ?e11 ?e12 ?e13 ?aw ?lw ?ah ?lh
    (case a17 => k_is); (case l17 => k_is); (case c17 => k_is); (case k17 => k_is)
    (case a18 => k_is); (case l18 => k_is); (case c18 => k_is); (case k18 => k_is)
    (case a19 => k_is); (case l19 => k_is); (case c19 => k_is); (case k19 => k_is)
    (case a20 => k_is); (case l20 => k_is); (case c20 => k_is); (case k20 => k_is)
    (case a21 => k_is); (case l21 => k_is); (case c21 => k_is); (case k21 => k_is)
    (case a22 => k_is); (case l22 => k_is); (case c22 => k_is); (case k22 => k_is)
    (case a23 => k_is); (case l23 => k_is); (case c23 => k_is); (case k23 => k_is)
    (case a24 => k_is); (case l24 => k_is); (case c24 => k_is); (case k24 => k_is)
    (case a25 => k_is); (case l25 => k_is); (case c25 => k_is); (case k25 => k_is)
    (case a26 => k_is); (case l26 => k_is); (case c26 => k_is); (case k26 => k_is)
    (case a27 => k_is); (case l27 => k_is); (case c27 => k_is); (case k27 => k_is)
    (case a28 => k_is); (case l28 => k_is); (case c28 => k_is); (case k28 => k_is)
    (case a29 => k_is); (case l29 => k_is); (case c29 => k_is); (case k29 => k_is)
    (case a30 => k_is); (case l30 => k_is); (case c30 => k_is); (case k30 => k_is)
    (case a31 => k_is); (case l31 => k_is); (case c31 => k_is); (case k31 => k_is)
    (case a32 => k_is); (case l32 => k_is); (case c32 => k_is); (case k32 => k_is)
    (case b0 => k_is); (case b1 => k_is); (case b2 => k_is); (case b3 => k_is); (case b4 => k_is)
    (case e0 => k_is); (case e1 => k_is); (case e2 => k_is); (case e3 => k_is); (case e4 => k_is); (case e5 => k_is); (case e6 => k_is); (case e7 => k_is); (case e8 => k_is); (case e9 => k_is); (case e10 => k_is); (case e11 => k_is); (case e12 => k_is); (case e13 => k_is)
    (case aw => k_is); (case lw => kernel_rfl); (case ah => k_is); (case lh => kernel_rfl)
  case S =>
    intro K H xs a hT hwi hask hx
    cases hx with
    | cons h1 h2 =>
      cases h2
      cases h1 with
      | lst hs ha =>
        have e := L2.ints_dw a.1 _ ha
        subst e
        have q : ((Codec.inLen 0 31000 a.1 && a.1.all (Codec.inInt 0 4294967295)) && true) = true := hwi
        rw [Bool.and_eq_true, Bool.and_eq_true] at q
        exact ⟨_, a.1, rfl, hs, (Codec.inNat_iff.mp q.1.1).2, hask, .inl hT, fun D H' hp => .lst (L2.SqL.of hp) (L2.dw_ints _)⟩
end
